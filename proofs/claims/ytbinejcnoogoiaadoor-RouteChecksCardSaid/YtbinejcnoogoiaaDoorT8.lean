/- Parts, and how many characters, of the program and of the document. -/
import Derived.Test.YtbinejcnoogoiaaDoorT7
set_option linter.unusedVariables false
set_option linter.unusedSimpArgs false
namespace Go.Proofs.YtbinejcnoogoiaaDoor
open Go.Proofs.YtbinejcnoogoiaaDoor.Pad Go.Proofs.YtbinejcnoogoiaaDoor.Pad.Route Go.Proofs.YtbinejcnoogoiaaDoor.Pad.Runes Go.Proofs.YtbinejcnoogoiaaDoor.Pad.Utf
/-- padlock/route.Part -/
def rc10 : RC :=
  (.seq
   (.reg false [⟨(some 2), .mov (.c (.int .i64 0)), none⟩] [0])
   (.seq
    (.seq
     (.reg false [⟨(some 6), .mov (.t 0), none⟩] [0, 6])
     (.block 0
      (.seq
       (.seq
        (.reg false [⟨(some 8), .bin .eql false (.t 6) (.c (.str [])), none⟩,
          ⟨(some 7), .mov (.t 8), none⟩] [0, 6, 7])
        (.cond 7
         (.reg false [] [0, 7])
         (.seq
          (.reg false [⟨(some 9), .bin .eql false (.t 6) (.c (.str [46])), none⟩,
            ⟨(some 7), .mov (.t 9), none⟩] [0, 6, 7])
          (.cond 7
           (.reg false [] [0, 7])
           (.seq
            (.reg false [⟨(some 10), .bin .eql false (.t 6) (.c (.str [46, 46])), none⟩,
              ⟨(some 7), .mov (.t 10), none⟩] [0, 6, 7])
            (.cond 7
             (.reg false [] [0, 7])
             (.reg false [⟨(some 11), .bin .eql false (.t 6) (.c (.str [45])), none⟩,
               ⟨(some 7), .mov (.t 11), none⟩] [0, 7])))))))
       (.cond 7
        (.seq
         (.reg false [⟨(some 2), .mov (.c (.int .i64 4)), none⟩] [2])
         .ret)
        (.reg false [] [0])))))
    (.seq
     (.reg false [⟨(some 3), .mov (.c (.int .i64 0)), none⟩] [0, 3])
     (.seq
      (.seq
       (.reg false [⟨(some 12), .mov (.t 0), none⟩,
         ⟨(some 13), .rng (.t 12), none⟩] [3, 13])
       (.block 1
        (.loop
         (.seq
          (.reg false [⟨(some 14), .nxt 13, none⟩,
            ⟨(some 15), .ext (.t 14) 0, none⟩] [3, 13, 14, 15])
          (.seq
           (.cond 15
            (.reg false [] [3, 13, 14])
            (.seq
             (.reg false [] [3])
             (.exit 1)))
           (.block 2
            (.seq
             (.reg false [⟨(some 16), .ext (.t 14) 2, none⟩,
               ⟨(some 5), .mov (.t 16), none⟩] [3, 5, 13])
             (.seq
              (.seq
               (.reg false [⟨(some 17), .mov (.t 5), none⟩,
                 ⟨(some 18), .call 8 [(false, (.t 17))], none⟩,
                 ⟨(some 19), .un .not (.t 18), none⟩] [3, 13, 19])
               (.cond 19
                (.seq
                 (.reg false [⟨(some 2), .mov (.c (.int .i64 4)), none⟩] [2])
                 .ret)
                (.reg false [] [3, 13])))
              (.reg false [⟨(some 20), .mov (.t 3), none⟩,
                ⟨(some 21), .bin .add true (.t 20) (.c (.int .i64 1)), none⟩,
                ⟨(some 3), .mov (.t 21), none⟩] [3, 13])))))))))
      (.seq
       (.seq
        (.reg false [⟨(some 22), .mov (.t 3), none⟩,
          ⟨(some 23), .bin .gtr true (.t 22) (.c (.int .i64 12)), none⟩] [23])
        (.cond 23
         (.seq
          (.reg false [⟨(some 2), .mov (.c (.int .i64 5)), none⟩] [2])
          .ret)
         (.reg false [] [])))
       (.seq
        (.reg false [⟨(some 2), .mov (.c (.int .i64 0)), none⟩] [2])
        .ret))))))
def rs10 : List RS := [.tmp 2]
/-- padlock/padlockref04.Part -/
def rc11 : RC :=
  (.seq
   (.reg false [⟨(some 2), .mov (.c (.int .i64 0)), none⟩] [0])
   (.seq
    (.seq
     (.reg false [⟨(some 7), .mov (.t 0), none⟩,
       ⟨(some 8), .bin .eql false (.t 7) (.c (.str [])), none⟩,
       ⟨(some 9), .mov (.t 8), none⟩,
       ⟨(some 10), .mov (.t 0), (some (9, false))⟩,
       ⟨(some 11), .bin .eql false (.t 10) (.c (.str [46])), (some (9, false))⟩,
       ⟨(some 12), .pick (.t 9) (.c (.bool true)) (.t 11), none⟩,
       ⟨(some 13), .mov (.t 12), none⟩,
       ⟨(some 14), .mov (.t 0), (some (13, false))⟩,
       ⟨(some 15), .bin .eql false (.t 14) (.c (.str [46, 46])), (some (13, false))⟩,
       ⟨(some 16), .pick (.t 13) (.c (.bool true)) (.t 15), none⟩,
       ⟨(some 17), .mov (.t 16), none⟩,
       ⟨(some 18), .mov (.t 0), (some (17, false))⟩,
       ⟨(some 19), .bin .eql false (.t 18) (.c (.str [45])), (some (17, false))⟩,
       ⟨(some 20), .pick (.t 17) (.c (.bool true)) (.t 19), none⟩] [0, 20])
     (.cond 20
      (.seq
       (.reg false [⟨(some 2), .mov (.c (.int .i64 4)), none⟩] [2])
       .ret)
      (.reg false [] [0])))
    (.seq
     (.reg false [⟨(some 3), .mov (.c (.int .i64 0)), none⟩] [0, 3])
     (.seq
      (.seq
       (.reg false [⟨(some 4), .mov (.c (.int .i64 0)), none⟩] [0, 3, 4])
       (.block 0
        (.loop
         (.seq
          (.seq
           (.reg false [⟨(some 21), .mov (.t 4), none⟩,
             ⟨(some 22), .mov (.t 0), none⟩,
             ⟨(some 23), .len true (.t 22), none⟩,
             ⟨(some 24), .bin .lss true (.t 21) (.t 23), none⟩] [0, 3, 4, 24])
           (.cond 24
            (.reg false [] [0, 3, 4])
            (.seq
             (.reg false [] [3])
             (.exit 0))))
          (.block 1
           (.seq
            (.reg false [⟨(some 26), .mov (.t 0), none⟩,
              ⟨(some 27), .mov (.t 4), none⟩,
              ⟨(some 28), .call 22 [(false, (.t 26)), (false, (.t 27))], none⟩,
              ⟨(some 25), .mov (.t 28), none⟩,
              ⟨(some 29), .ext (.t 25) 0, none⟩,
              ⟨(some 30), .ext (.t 25) 1, none⟩,
              ⟨(some 5), .mov (.t 29), none⟩,
              ⟨(some 6), .mov (.t 30), none⟩] [0, 3, 4, 5, 6])
            (.seq
             (.seq
              (.reg false [⟨(some 31), .mov (.t 5), none⟩,
                ⟨(some 32), .call 9 [(false, (.t 31))], none⟩,
                ⟨(some 33), .un .not (.t 32), none⟩] [0, 3, 4, 6, 33])
              (.cond 33
               (.seq
                (.reg false [⟨(some 2), .mov (.c (.int .i64 4)), none⟩] [2])
                .ret)
               (.reg false [] [0, 3, 4, 6])))
             (.seq
              (.reg false [⟨(some 34), .mov (.t 3), none⟩,
                ⟨(some 35), .bin .add true (.t 34) (.c (.int .i64 1)), none⟩,
                ⟨(some 3), .mov (.t 35), none⟩] [0, 3, 4, 6])
              (.reg false [⟨(some 36), .mov (.t 4), none⟩,
                ⟨(some 37), .mov (.t 6), none⟩,
                ⟨(some 38), .bin .add true (.t 36) (.t 37), none⟩,
                ⟨(some 4), .mov (.t 38), none⟩] [0, 3, 4])))))))))
      (.seq
       (.seq
        (.reg false [⟨(some 39), .mov (.t 3), none⟩,
          ⟨(some 40), .bin .gtr true (.t 39) (.c (.int .i64 12)), none⟩] [40])
        (.cond 40
         (.seq
          (.reg false [⟨(some 2), .mov (.c (.int .i64 5)), none⟩] [2])
          .ret)
         (.reg false [] [])))
       (.seq
        (.reg false [⟨(some 2), .mov (.c (.int .i64 0)), none⟩] [2])
        .ret))))))
def rs11 : List RS := [.tmp 2]
/-- padlock/route.Count -/
def rc14 : RC :=
  (.seq
   (.reg false [⟨(some 2), .mov (.c (.int .i64 0)), none⟩,
     ⟨(some 3), .mov (.c (.int .i64 0)), none⟩] [0])
   (.seq
    (.reg false [⟨(some 4), .mov (.c (.int .i64 0)), none⟩] [0, 4])
    (.seq
     (.seq
      (.reg false [⟨(some 5), .mov (.t 0), none⟩,
        ⟨(some 6), .rng (.t 5), none⟩] [0, 4, 6])
      (.block 0
       (.loop
        (.seq
         (.reg false [⟨(some 7), .nxt 6, none⟩,
           ⟨(some 8), .ext (.t 7) 0, none⟩] [0, 4, 6, 8])
         (.seq
          (.cond 8
           (.reg false [] [0, 4, 6])
           (.seq
            (.reg false [] [0, 4])
            (.exit 0)))
          (.block 1
           (.reg false [⟨(some 9), .mov (.t 4), none⟩,
             ⟨(some 10), .bin .add true (.t 9) (.c (.int .i64 1)), none⟩,
             ⟨(some 4), .mov (.t 10), none⟩] [0, 4, 6])))))))
     (.seq
      (.seq
       (.reg false [⟨(some 11), .mov (.t 0), none⟩,
         ⟨(some 12), .call 25 [(false, (.t 11))], none⟩,
         ⟨(some 13), .un .not (.t 12), none⟩] [4, 13])
       (.cond 13
        (.seq
         (.reg false [⟨(some 14), .mov (.t 4), none⟩,
           ⟨(some 2), .mov (.t 14), none⟩,
           ⟨(some 3), .mov (.c (.int .i64 4)), none⟩] [2, 3])
         .ret)
        (.reg false [] [4])))
      (.seq
       (.reg false [⟨(some 15), .mov (.t 4), none⟩,
         ⟨(some 2), .mov (.t 15), none⟩,
         ⟨(some 3), .mov (.c (.int .i64 0)), none⟩] [2, 3])
       .ret)))))
def rs14 : List RS := [.tmp 2, .tmp 3]
/-- padlock/padlockref04.Count -/
def rc15 : RC :=
  (.seq
   (.reg false [⟨(some 2), .mov (.c (.int .i64 0)), none⟩,
     ⟨(some 3), .mov (.c (.int .i64 0)), none⟩] [0])
   (.seq
    (.reg false [⟨(some 4), .mov (.c (.int .i64 0)), none⟩,
      ⟨(some 5), .mov (.c (.int .i64 0)), none⟩] [0, 4, 5])
    (.seq
     (.seq
      (.reg false [⟨(some 6), .mov (.c (.int .i64 0)), none⟩] [0, 4, 5, 6])
      (.block 0
       (.loop
        (.seq
         (.seq
          (.reg false [⟨(some 9), .mov (.t 6), none⟩,
            ⟨(some 10), .mov (.t 0), none⟩,
            ⟨(some 11), .len true (.t 10), none⟩,
            ⟨(some 12), .bin .lss true (.t 9) (.t 11), none⟩] [0, 4, 5, 6, 12])
          (.cond 12
           (.reg false [] [0, 4, 5, 6])
           (.seq
            (.reg false [] [4, 5])
            (.exit 0))))
         (.block 1
          (.seq
           (.reg false [⟨(some 14), .mov (.t 0), none⟩,
             ⟨(some 15), .mov (.t 6), none⟩,
             ⟨(some 16), .call 22 [(false, (.t 14)), (false, (.t 15))], none⟩,
             ⟨(some 13), .mov (.t 16), none⟩,
             ⟨(some 17), .ext (.t 13) 0, none⟩,
             ⟨(some 18), .ext (.t 13) 1, none⟩,
             ⟨(some 7), .mov (.t 17), none⟩,
             ⟨(some 8), .mov (.t 18), none⟩] [0, 4, 5, 6, 7, 8])
           (.seq
            (.seq
             (.reg false [⟨(some 19), .mov (.t 7), none⟩,
               ⟨(some 20), .bin .lss true (.t 19) (.c (.int .i64 0)), none⟩] [0, 4, 5, 6, 8, 20])
             (.cond 20
              (.reg false [⟨(some 5), .mov (.c (.int .i64 4)), none⟩] [0, 4, 5, 6, 8])
              (.reg false [] [0, 4, 5, 6, 8])))
            (.seq
             (.reg false [⟨(some 21), .mov (.t 4), none⟩,
               ⟨(some 22), .bin .add true (.t 21) (.c (.int .i64 1)), none⟩,
               ⟨(some 4), .mov (.t 22), none⟩] [0, 4, 5, 6, 8])
             (.reg false [⟨(some 23), .mov (.t 6), none⟩,
               ⟨(some 24), .mov (.t 8), none⟩,
               ⟨(some 25), .bin .add true (.t 23) (.t 24), none⟩,
               ⟨(some 6), .mov (.t 25), none⟩] [0, 4, 5, 6])))))))))
     (.seq
      (.reg false [⟨(some 26), .mov (.t 4), none⟩,
        ⟨(some 27), .mov (.t 5), none⟩,
        ⟨(some 2), .mov (.t 26), none⟩,
        ⟨(some 3), .mov (.t 27), none⟩] [2, 3])
      .ret))))
def rs15 : List RS := [.tmp 2, .tmp 3]
/-- padlock/padlockref04.Clean -/
def rc17 : RC :=
  (.seq
   (.reg false [⟨(some 2), .mov (.c (.str [])), none⟩] [0])
   (.seq
    (.reg false [⟨(some 3), .mov (.c (.str [])), none⟩] [0, 3])
    (.seq
     (.seq
      (.reg false [⟨(some 4), .mov (.c (.int .i64 0)), none⟩] [0, 3, 4])
      (.block 0
       (.loop
        (.seq
         (.seq
          (.reg false [⟨(some 7), .mov (.t 4), none⟩,
            ⟨(some 8), .mov (.t 0), none⟩,
            ⟨(some 9), .len true (.t 8), none⟩,
            ⟨(some 10), .bin .lss true (.t 7) (.t 9), none⟩] [0, 3, 4, 10])
          (.cond 10
           (.reg false [] [0, 3, 4])
           (.seq
            (.reg false [] [3])
            (.exit 0))))
         (.block 1
          (.seq
           (.reg false [⟨(some 12), .mov (.t 0), none⟩,
             ⟨(some 13), .mov (.t 4), none⟩,
             ⟨(some 14), .call 22 [(false, (.t 12)), (false, (.t 13))], none⟩,
             ⟨(some 11), .mov (.t 14), none⟩,
             ⟨(some 15), .ext (.t 11) 0, none⟩,
             ⟨(some 16), .ext (.t 11) 1, none⟩,
             ⟨(some 5), .mov (.t 15), none⟩,
             ⟨(some 6), .mov (.t 16), none⟩] [0, 3, 4, 5, 6])
           (.seq
            (.seq
             (.reg false [⟨(some 17), .mov (.t 5), none⟩,
               ⟨(some 18), .call 9 [(false, (.t 17))], none⟩] [0, 3, 4, 6, 18])
             (.cond 18
              (.reg false [⟨(some 19), .mov (.t 3), none⟩,
                ⟨(some 20), .mov (.t 0), none⟩,
                ⟨(some 21), .mov (.t 4), none⟩,
                ⟨(some 22), .mov (.t 4), none⟩,
                ⟨(some 23), .mov (.t 6), none⟩,
                ⟨(some 24), .bin .add true (.t 22) (.t 23), none⟩,
                ⟨(some 25), .ssl (.t 20) (some (.t 21)) (some (.t 24)), none⟩,
                ⟨(some 26), .bin .add false (.t 19) (.t 25), none⟩,
                ⟨(some 3), .mov (.t 26), none⟩] [0, 3, 4, 6])
              (.reg false [] [0, 3, 4, 6])))
            (.reg false [⟨(some 27), .mov (.t 4), none⟩,
              ⟨(some 28), .mov (.t 6), none⟩,
              ⟨(some 29), .bin .add true (.t 27) (.t 28), none⟩,
              ⟨(some 4), .mov (.t 29), none⟩] [0, 3, 4]))))))))
     (.seq
      (.reg false [⟨(some 30), .mov (.t 3), none⟩,
        ⟨(some 2), .mov (.t 30), none⟩] [2])
      .ret))))
def rs17 : List RS := [.tmp 2]
def allOk (r : List UInt8) : Bool := (toks r).all (okc ·.1)
def tn (r : List UInt8) : Nat := (toks r).length
theorem part_of {l : List UInt8} (h : special l = false) : partE l = if allOk l then (if 12 < tn l then 5 else 0) else 4 := by
  unfold partE
  rw [h]; rfl
theorem step_nx (l : List UInt8) (pos : Nat) (hp : pos < l.length) : 1 ≤ (nx l pos).2 ∧ pos + (nx l pos).2 ≤ l.length ∧ allOk (l.drop pos) = (okc (nx l pos).1 && allOk (l.drop (pos + (nx l pos).2))) ∧ tn (l.drop pos) = tn (l.drop (pos + (nx l pos).2)) + 1 ∧
    (toks (l.drop pos)).any isBad = (decide ((nx l pos).1 < 0) || (toks (l.drop (pos + (nx l pos).2))).any isBad) := by
  have h1 := nx_pos l pos
  have h2 := nx_le l pos hp
  have ht := toks_at l pos hp
  refine ⟨h1, h2, ?_, ?_, ?_⟩
  · unfold allOk; rw [ht]; rfl
  · unfold tn; rw [ht]; rfl
  · rw [ht]; rfl
theorem step_dec (l : List UInt8) (pos : Nat) (hp : pos < l.length) : ∃ c n : Nat, dec l pos = (c, n) ∧ n = (nx l pos).2 ∧ c ≤ 1114111 ∧ okc (c : Int) = okc (nx l pos).1 := by
  have h3 := nx_hi l pos
  rw [dec_nx]
  by_cases hb : (nx l pos).1 < 0
  · refine ⟨65533, 1, by rw [if_pos hb], (nx_bad l pos hb).symm, by omega, ?_⟩
    have : okc (nx l pos).1 = false := by
      cases hh : okc (nx l pos).1
      · rfl
      · have := okc_lo hh; omega
    rw [this]; rfl
  · exact ⟨(nx l pos).1.toNat, (nx l pos).2, by rw [if_neg hb], rfl, by omega, by rw [Int.toNat_of_nonneg (by omega)]⟩
theorem end_toks (l : List UInt8) (pos : Nat) (hp : ¬ pos < l.length) : l.drop pos = [] := List.drop_eq_nil_of_le (by omega)
theorem tn_le (l : List UInt8) : tn l ≤ l.length := toks_len _ l rfl
theorem spec_cases {l : List UInt8} (h : special l = true) : l = [] ∨ l = [46] ∨ l = [46, 46] ∨ l = [45] := by simpa [special] using h
theorem spec_no {l : List UInt8} (h : special l = false) : ¬ l = [] ∧ ¬ l = [46] ∧ ¬ l = [46, 46] ∧ ¬ l = [45] := by simpa [special, not_or] using h
theorem spec_part {l : List UInt8} (h : special l = true) : partE l = 4 := by unfold partE; rw [h]; rfl
theorem pf10 (l : List UInt8) (h : l.length ≤ 1000000) : PFx Tryd.prog 10 [.str l] (.int .i64 (partE l)) := by
  refine PFx_of_W (rc := rc10) (rs := rs10) Tryd.func10 rfl T25_ok hm (by kernel_rfl) (by kernel_rfl) (by simp [Tryd.ntmps10]) ?_
  cases hs : special l
  · obtain ⟨n1, n2, n3, n4⟩ := spec_no hs
    rw [part_of hs]
    simp [rc10, rs10, n1, n2, n3, n4]
    refine W_varU (fun p : Nat × Nat => p.1 ≤ l.length ∧ allOk l = allOk (l.drop p.1) ∧ p.2 + tn (l.drop p.1) = tn l ∧ p.2 ≤ p.1) (fun p => l.length - p.1) (fun p => [(3, .int .i64 p.2), (13, .iter l p.1)]) (0, 0) ⟨by simp, by simp, by simp, by simp⟩ (by simp) (fun p hp => ?_)
    obtain ⟨pos, n⟩ := p
    obtain ⟨p1, p2, p3, p4⟩ := hp
    simp only at p1 p2 p3 p4
    by_cases hl : pos < l.length
    · obtain ⟨s1, s2, s3, s4, _⟩ := step_nx l pos hl
      obtain ⟨c, m, d1, d2, d3, d4⟩ := step_dec l pos hl
      cases ho : okc (nx l pos).1
      · rw [ho] at d4 s3
        simp [hl, d1, d4]
        rw [p2, s3]; simp
      · rw [ho] at d4 s3
        simp only [Bool.true_and] at s3
        simp [hl, d1, d4]
        refine ⟨by omega, pos + m, n + 1, ⟨by omega, by rw [p2, s3, d2], by rw [d2]; omega, by omega⟩, by omega, by omega, by omega⟩
    · have he := end_toks l pos hl
      rw [he] at p2 p3
      have hn : n = tn l := by simpa [tn, toks_nil] using p3
      have ha : allOk l = true := p2
      rw [ha]
      subst hn
      by_cases h12 : 12 < tn l
      · have : 12 < (tn l : Int) := by omega
        simp [hl, h12, this]
      · have : ¬ 12 < (tn l : Int) := by omega
        simp [hl, h12, this]
  · rw [spec_part hs]
    rcases spec_cases hs with rfl | rfl | rfl | rfl <;> simp [rc10, rs10]
noncomputable def T10 : Tab := tabAdd T25 10 (fun z : (List UInt8) => z.length ≤ 1000000) (fun z => [.str z]) (fun z => .int .i64 (partE z))
@[simp] theorem T10_eq (l : List UInt8) (h : l.length ≤ 1000000) : T10 10 [.str l] = some (.int .i64 (partE l)) := tabAdd_eq (a := l) (by simp +contextual [Int.natCast_inj]) h rfl
@[simp] theorem T10_ne {g : Nat} {xs : List AV} (h : g ≠ 10) : T10 g xs = T25 g xs := tabAdd_ne h
theorem T10_ok : Sound Tryd.prog T10 := tabAdd_sound T25_ok fun z h => pf10 z h
theorem pf11 (l : List UInt8) (h : l.length ≤ 1000000) : PFx Tryd.prog 11 [.str l] (.int .i64 (partE l)) := by
  refine PFx_of_W (rc := rc11) (rs := rs11) Tryd.func11 rfl T10_ok hm (by kernel_rfl) (by kernel_rfl) (by simp [Tryd.ntmps11]) ?_
  cases hs : special l
  · obtain ⟨n1, n2, n3, n4⟩ := spec_no hs
    rw [part_of hs]
    simp [rc11, rs11, n1, n2, n3, n4]
    refine W_varU (fun p : Nat × Nat => p.1 ≤ l.length ∧ allOk l = allOk (l.drop p.1) ∧ p.2 + tn (l.drop p.1) = tn l ∧ p.2 ≤ p.1) (fun p => l.length - p.1) (fun p => [(3, .int .i64 p.2), (4, .int .i64 p.1)]) (0, 0) ⟨by simp, by simp, by simp, by simp⟩ (by simp) (fun p hp => ?_)
    obtain ⟨pos, n⟩ := p
    obtain ⟨p1, p2, p3, p4⟩ := hp
    simp only at p1 p2 p3 p4
    by_cases hl : pos < l.length
    · obtain ⟨s1, s2, s3, s4, _⟩ := step_nx l pos hl
      have q := T22_eq l pos ⟨h, hl⟩
      cases ho : okc (nx l pos).1
      · rw [ho] at s3
        simp [hl, q, ho]
        rw [p2, s3]; simp
      · rw [ho] at s3
        simp only [Bool.true_and] at s3
        simp [hl, q, ho]
        refine ⟨by omega, by omega, pos + (nx l pos).2, n + 1, ⟨by omega, by rw [p2, s3], by omega, by omega⟩, by omega, by omega, by omega⟩
    · have he := end_toks l pos hl
      rw [he] at p2 p3
      have hn : n = tn l := by simpa [tn, toks_nil] using p3
      have ha : allOk l = true := p2
      rw [ha]
      subst hn
      by_cases h12 : 12 < tn l
      · have : 12 < (tn l : Int) := by omega
        simp [hl, h12, this]
      · have : ¬ 12 < (tn l : Int) := by omega
        simp [hl, h12, this]
  · rw [spec_part hs]
    rcases spec_cases hs with rfl | rfl | rfl | rfl <;> simp [rc11, rs11]
noncomputable def T11 : Tab := tabAdd T10 11 (fun z : (List UInt8) => z.length ≤ 1000000) (fun z => [.str z]) (fun z => .int .i64 (partE z))
@[simp] theorem T11_eq (l : List UInt8) (h : l.length ≤ 1000000) : T11 11 [.str l] = some (.int .i64 (partE l)) := tabAdd_eq (a := l) (by simp +contextual [Int.natCast_inj]) h rfl
@[simp] theorem T11_ne {g : Nat} {xs : List AV} (h : g ≠ 11) : T11 g xs = T10 g xs := tabAdd_ne h
theorem T11_ok : Sound Tryd.prog T11 := tabAdd_sound T10_ok fun z h => pf11 z h
theorem pf14 (l : List UInt8) (h : l.length ≤ 1000000) : PFx Tryd.prog 14 [.str l] (.tup [.int .i64 (tn l), .int .i64 (cntE l)]) := by
  refine PFx_of_W (rc := rc14) (rs := rs14) Tryd.func14 rfl T11_ok hm (by kernel_rfl) (by kernel_rfl) (by simp [Tryd.ntmps14]) ?_
  simp [rc14, rs14]
  refine W_varU (fun p : Nat × Nat => p.1 ≤ l.length ∧ p.2 + tn (l.drop p.1) = tn l ∧ p.2 ≤ p.1) (fun p => l.length - p.1) (fun p => [(4, .int .i64 p.2), (6, .iter l p.1)]) (0, 0) ⟨by simp, by simp, by simp⟩ (by simp) (fun p hp => ?_)
  obtain ⟨pos, n⟩ := p
  obtain ⟨p1, p3, p4⟩ := hp
  simp only at p1 p3 p4
  by_cases hl : pos < l.length
  · obtain ⟨s1, s2, s3, s4, _⟩ := step_nx l pos hl
    obtain ⟨c, m, d1, d2, d3, d4⟩ := step_dec l pos hl
    simp [hl, d1]
    refine ⟨by omega, pos + m, n + 1, ⟨by omega, by rw [d2]; omega, by omega⟩, by omega, by omega, by omega⟩
  · have he := end_toks l pos hl
    rw [he] at p3
    have hn : n = tn l := by simpa [tn, toks_nil] using p3
    subst hn
    cases hv : validL l
    · have hc : cntE l = 4 := by unfold cntE; rw [if_pos (by simpa [validL] using hv)]
      simp [hl, h, hv, hc]
    · have hc : cntE l = 0 := by unfold cntE; rw [if_neg (by simpa [validL] using hv)]
      simp [hl, h, hv, hc]
noncomputable def T14 : Tab := tabAdd T11 14 (fun z : (List UInt8) => z.length ≤ 1000000) (fun z => [.str z]) (fun z => .tup [.int .i64 (tn z), .int .i64 (cntE z)])
@[simp] theorem T14_eq (l : List UInt8) (h : l.length ≤ 1000000) : T14 14 [.str l] = some (.tup [.int .i64 (tn l), .int .i64 (cntE l)]) := tabAdd_eq (a := l) (by simp +contextual [Int.natCast_inj]) h rfl
@[simp] theorem T14_ne {g : Nat} {xs : List AV} (h : g ≠ 14) : T14 g xs = T11 g xs := tabAdd_ne h
theorem T14_ok : Sound Tryd.prog T14 := tabAdd_sound T11_ok fun z h => pf14 z h
theorem pf15 (l : List UInt8) (h : l.length ≤ 1000000) : PFx Tryd.prog 15 [.str l] (.tup [.int .i64 (tn l), .int .i64 (cntE l)]) := by
  refine PFx_of_W (rc := rc15) (rs := rs15) Tryd.func15 rfl T14_ok hm (by kernel_rfl) (by kernel_rfl) (by simp [Tryd.ntmps15]) ?_
  simp [rc15, rs15]
  refine W_varU (fun p : Nat × Nat × Bool => p.1 ≤ l.length ∧ p.2.1 + tn (l.drop p.1) = tn l ∧ p.2.1 ≤ p.1 ∧ (toks l).any isBad = (p.2.2 || (toks (l.drop p.1)).any isBad)) (fun p => l.length - p.1) (fun p => [(4, .int .i64 p.2.1), (5, .int .i64 (if p.2.2 then 4 else 0)), (6, .int .i64 p.1)]) (0, 0, false) ⟨by simp, by simp, by simp, by simp⟩ (by simp) (fun p hp => ?_)
  obtain ⟨pos, n, b⟩ := p
  obtain ⟨p1, p3, p4, p5⟩ := hp
  simp only at p1 p3 p4 p5
  by_cases hl : pos < l.length
  · obtain ⟨s1, s2, s3, s4, s5⟩ := step_nx l pos hl
    have q := T22_eq l pos ⟨h, hl⟩
    by_cases hb : (nx l pos).1 < 0
    · simp [hl, q, hb, -Bool.exists_bool]
      refine ⟨by omega, by omega, pos + (nx l pos).2, n + 1, true, ⟨by omega, by omega, by omega, by rw [p5, s5]; simp [hb]⟩, by omega, by omega, by simp, by omega⟩
    · simp [hl, q, hb, -Bool.exists_bool]
      refine ⟨by omega, by omega, pos + (nx l pos).2, n + 1, b, ⟨by omega, by omega, by omega, by rw [p5, s5]; simp [hb]⟩, by omega, by omega, by simp, by omega⟩
  · have he := end_toks l pos hl
    rw [he] at p3 p5
    have hn : n = tn l := by simpa [tn, toks_nil] using p3
    subst hn
    have hc : cntE l = if b then 4 else 0 := by
      unfold cntE
      rw [p5]
      simp [toks_nil]
    rw [hc]
    simp [hl]
noncomputable def T15 : Tab := tabAdd T14 15 (fun z : (List UInt8) => z.length ≤ 1000000) (fun z => [.str z]) (fun z => .tup [.int .i64 (tn z), .int .i64 (cntE z)])
@[simp] theorem T15_eq (l : List UInt8) (h : l.length ≤ 1000000) : T15 15 [.str l] = some (.tup [.int .i64 (tn l), .int .i64 (cntE l)]) := tabAdd_eq (a := l) (by simp +contextual [Int.natCast_inj]) h rfl
@[simp] theorem T15_ne {g : Nat} {xs : List AV} (h : g ≠ 15) : T15 g xs = T14 g xs := tabAdd_ne h
theorem T15_ok : Sound Tryd.prog T15 := tabAdd_sound T14_ok fun z h => pf15 z h
theorem pf17 (l : List UInt8) (h : l.length ≤ 1000000) : PFx Tryd.prog 17 [.str l] (.str (cleanL l)) := by
  refine PFx_of_W (rc := rc17) (rs := rs17) Tryd.func17 rfl T15_ok hm (by kernel_rfl) (by kernel_rfl) (by simp [Tryd.ntmps17]) ?_
  simp [rc17, rs17]
  refine W_varU (fun p : Nat × List UInt8 => p.1 ≤ l.length ∧ p.2 ++ ((toks (l.drop p.1)).filter (okc ·.1)).flatMap (·.2) = cleanL l ∧ p.2.length ≤ p.1) (fun p => l.length - p.1) (fun p => [(3, .str p.2), (4, .int .i64 p.1)]) (0, []) ⟨by simp, by simp [cleanL], by simp⟩ (by simp) (fun p hp => ?_)
  obtain ⟨pos, acc⟩ := p
  obtain ⟨p1, p3, p4⟩ := hp
  simp only at p1 p3 p4
  by_cases hl : pos < l.length
  · obtain ⟨s1, s2, _, _, _⟩ := step_nx l pos hl
    have q := T22_eq l pos ⟨h, hl⟩
    rw [toks_at l pos hl, kept] at p3
    cases ho : okc (nx l pos).1
    · rw [ho] at p3
      simp [hl, q, ho]
      refine ⟨by omega, (pos + (nx l pos).2), acc, ⟨by omega, by simpa using p3, by omega⟩, by omega, by simp⟩
    · rw [ho] at p3
      have hsl : (List.take ((pos : Int) + ((nx l pos).2 : Int)).toNat l).drop pos = (l.drop pos).take (nx l pos).2 := by
        rw [show ((pos : Int) + ((nx l pos).2 : Int)).toNat = pos + (nx l pos).2 by omega, List.drop_take]
        congr 1; omega
      simp [hl, q, ho, hsl]
      refine ⟨by omega, by omega, by omega, by omega, (pos + (nx l pos).2), acc ++ (l.drop pos).take (nx l pos).2, ⟨by omega, by simpa using p3, by simp; omega⟩, by omega, by simp⟩
  · have he := end_toks l pos hl
    rw [he] at p3
    have : acc = cleanL l := by simpa [toks_nil] using p3
    subst this
    simp [hl]
noncomputable def T17 : Tab := tabAdd T15 17 (fun z : (List UInt8) => z.length ≤ 1000000) (fun z => [.str z]) (fun z => .str (cleanL z))
@[simp] theorem T17_eq (l : List UInt8) (h : l.length ≤ 1000000) : T17 17 [.str l] = some (.str (cleanL l)) := tabAdd_eq (a := l) (by simp +contextual [Int.natCast_inj]) h rfl
@[simp] theorem T17_ne {g : Nat} {xs : List AV} (h : g ≠ 17) : T17 g xs = T15 g xs := tabAdd_ne h
theorem T17_ok : Sound Tryd.prog T17 := tabAdd_sound T15_ok fun z h => pf17 z h
end Go.Proofs.YtbinejcnoogoiaaDoor

