/- What two have in common, the longest, children: of the program and of the document. -/
import Derived.Test.YtnhelmnenhphjaaU2
set_option linter.unusedVariables false
set_option linter.unusedSimpArgs false
namespace Go.Proofs.Ytnhelmnenhphjaa
open Go.Proofs.Ytnhelmnenhphjaa.Pad Go.Proofs.Ytnhelmnenhphjaa.Pad.Under Go.Sort
/-- padlock/under.Children -/
def rc21 : RC :=
  (.seq
   (.reg false [⟨(some 4), .nilR 1, none⟩] [0, 1])
   (.seq
    (.reg false [⟨(some 5), .nilM 1, none⟩] [0, 1, 5])
    (.seq
     (.seq
      (.reg false [⟨(some 10), .mov (.t 1), none⟩,
        ⟨(some 11), .len false (.t 10), none⟩,
        ⟨(some 12), .mov (.c (.int .i64 0)), none⟩] [0, 5, 10, 11, 12])
      (.block 0
       (.loop
        (.seq
         (.reg false [⟨(some 13), .bin .lss true (.t 12) (.t 11), none⟩] [0, 5, 10, 11, 12, 13])
         (.seq
          (.cond 13
           (.reg false [] [0, 5, 10, 11, 12])
           (.seq
            (.reg false [] [5])
            (.exit 0)))
          (.seq
           (.block 1
            (.seq
             (.reg false [⟨(some 14), .idxA 1 (.t 10) (.t 12), none⟩,
               ⟨(some 15), .loadP (.t 14) 1 false, none⟩,
               ⟨(some 7), .mov (.t 15), none⟩] [0, 5, 7, 10, 11, 12])
             (.seq
              (.reg false [⟨(some 17), .mov (.t 7), none⟩,
                ⟨(some 18), .mov (.t 0), none⟩,
                ⟨(some 19), .call 9 [(false, (.t 17)), (false, (.t 18))], none⟩,
                ⟨(some 16), .mov (.t 19), none⟩,
                ⟨(some 20), .ext (.t 16) 0, none⟩,
                ⟨(some 21), .ext (.t 16) 1, none⟩,
                ⟨(some 8), .mov (.t 20), none⟩,
                ⟨(some 9), .mov (.t 21), none⟩] [0, 5, 8, 9, 10, 11, 12])
              (.seq
               (.reg false [⟨(some 22), .mov (.t 9), none⟩] [0, 5, 8, 10, 11, 12, 22])
               (.cond 22
                (.reg false [⟨(some 23), .stealM 5, none⟩,
                  ⟨(some 24), .mov (.t 8), none⟩,
                  ⟨(some 25), .mkSl 1 1 [(.str [])] [(0, 1, (.t 24))], none⟩,
                  ⟨(some 26), .appM 1 16 23 (.t 25), none⟩,
                  ⟨(some 5), .stealM 26, none⟩] [0, 5, 10, 11, 12])
                (.reg false [] [0, 5, 10, 11, 12]))))))
           (.reg false [⟨(some 27), .bin .add true (.t 12) (.c (.int .i64 1)), none⟩,
             ⟨(some 12), .mov (.t 27), none⟩] [0, 5, 10, 11, 12])))))))
     (.seq
      (.reg false [⟨(some 28), .al 5, none⟩,
        ⟨(some 29), .callB 34 [(true, (.t 28)), (false, (.c (.fn 35 [])))] 5, none⟩] [5])
      (.seq
       (.reg false [⟨(some 30), .stealM 5, none⟩,
         ⟨(some 31), .call 37 [(true, (.t 30))], none⟩,
         ⟨(some 4), .steal 31, none⟩] [4])
       .ret)))))
def rs21 : List RS := [.tmp 4]
/-- padlock/padlockref05.Into -/
def rc38 : RC :=
  (.seq
   (.reg false [⟨(some 4), .nilR 1, none⟩] [0, 1])
   (.seq
    (.reg false [⟨(some 5), .mov (.c (.int .i64 0)), none⟩] [0, 1, 5])
    (.seq
     (.block 0
      (.loop
       (.seq
        (.seq
         (.reg false [⟨(some 7), .mov (.t 5), none⟩,
           ⟨(some 8), .mov (.t 0), none⟩,
           ⟨(some 9), .len false (.t 8), none⟩,
           ⟨(some 10), .bin .lss true (.t 7) (.t 9), none⟩,
           ⟨(some 11), .mov (.t 10), none⟩,
           ⟨(some 12), .mov (.t 0), (some (11, true))⟩,
           ⟨(some 13), .mov (.t 5), (some (11, true))⟩,
           ⟨(some 14), .idxA 1 (.t 12) (.t 13), (some (11, true))⟩,
           ⟨(some 15), .loadP (.t 14) 1 false, (some (11, true))⟩,
           ⟨(some 16), .mov (.t 1), (some (11, true))⟩,
           ⟨(some 17), .bin .lss false (.t 15) (.t 16), (some (11, true))⟩,
           ⟨(some 18), .pick (.t 11) (.t 17) (.c (.bool false)), none⟩] [0, 1, 5, 18])
         (.cond 18
          (.reg false [] [0, 1, 5])
          (.seq
           (.reg false [] [0, 1, 5])
           (.exit 0))))
        (.block 1
         (.reg false [⟨(some 19), .mov (.t 5), none⟩,
           ⟨(some 20), .bin .add true (.t 19) (.c (.int .i64 1)), none⟩,
           ⟨(some 5), .mov (.t 20), none⟩] [0, 1, 5])))))
     (.seq
      (.seq
       (.reg false [⟨(some 21), .mov (.t 5), none⟩,
         ⟨(some 22), .mov (.t 0), none⟩,
         ⟨(some 23), .len false (.t 22), none⟩,
         ⟨(some 24), .bin .lss true (.t 21) (.t 23), none⟩,
         ⟨(some 25), .mov (.t 24), none⟩,
         ⟨(some 26), .mov (.t 0), (some (25, true))⟩,
         ⟨(some 27), .mov (.t 5), (some (25, true))⟩,
         ⟨(some 28), .idxA 1 (.t 26) (.t 27), (some (25, true))⟩,
         ⟨(some 29), .loadP (.t 28) 1 false, (some (25, true))⟩,
         ⟨(some 30), .mov (.t 1), (some (25, true))⟩,
         ⟨(some 31), .bin .eql false (.t 29) (.t 30), (some (25, true))⟩,
         ⟨(some 32), .pick (.t 25) (.t 31) (.c (.bool false)), none⟩] [0, 1, 5, 32])
       (.cond 32
        (.seq
         (.reg false [⟨(some 33), .steal 0, none⟩,
           ⟨(some 4), .steal 33, none⟩] [4])
         .ret)
        (.reg false [] [0, 1, 5])))
      (.seq
       (.reg false [⟨(some 34), .mkSl 1 0 [] [], none⟩,
         ⟨(some 35), .mov (.t 0), none⟩,
         ⟨(some 36), .mov (.t 5), none⟩,
         ⟨(some 37), .slsl 1 (.t 35) none (some (.t 36)), none⟩,
         ⟨(some 38), .app 1 16 (.t 34) (.t 37), none⟩,
         ⟨(some 39), .mov (.t 1), none⟩,
         ⟨(some 40), .mkSl 1 1 [(.str [])] [(0, 1, (.t 39))], none⟩,
         ⟨(some 41), .app 1 16 (.t 38) (.t 40), none⟩,
         ⟨(some 6), .steal 41, none⟩] [0, 5, 6])
       (.seq
        (.reg false [⟨(some 42), .steal 6, none⟩,
          ⟨(some 43), .mov (.t 0), none⟩,
          ⟨(some 44), .mov (.t 5), none⟩,
          ⟨(some 45), .slsl 1 (.t 43) (some (.t 44)) none, none⟩,
          ⟨(some 46), .app 1 16 (.t 42) (.t 45), none⟩,
          ⟨(some 4), .steal 46, none⟩] [4])
        .ret))))))
def rs38 : List RS := [.tmp 4]
/-- padlock/padlockref05.Children -/
def rc22 : RC :=
  (.seq
   (.reg false [⟨(some 4), .nilR 1, none⟩] [0, 1])
   (.seq
    (.reg false [⟨(some 5), .nilR 1, none⟩] [0, 1, 5])
    (.seq
     (.seq
      (.reg false [⟨(some 6), .mov (.c (.int .i64 0)), none⟩] [0, 1, 5, 6])
      (.block 0
       (.loop
        (.seq
         (.seq
          (.reg false [⟨(some 9), .mov (.t 6), none⟩,
            ⟨(some 10), .mov (.t 1), none⟩,
            ⟨(some 11), .len false (.t 10), none⟩,
            ⟨(some 12), .bin .lss true (.t 9) (.t 11), none⟩] [0, 1, 5, 6, 12])
          (.cond 12
           (.reg false [] [0, 1, 5, 6])
           (.seq
            (.reg false [] [5])
            (.exit 0))))
         (.seq
          (.block 1
           (.seq
            (.reg false [⟨(some 16), .mov (.t 1), none⟩,
              ⟨(some 17), .mov (.t 6), none⟩,
              ⟨(some 18), .idxA 1 (.t 16) (.t 17), none⟩,
              ⟨(some 19), .loadP (.t 18) 1 false, none⟩,
              ⟨(some 20), .mov (.t 0), none⟩,
              ⟨(some 21), .call 10 [(false, (.t 19)), (false, (.t 20))], none⟩,
              ⟨(some 15), .mov (.t 21), none⟩,
              ⟨(some 22), .ext (.t 15) 0, none⟩,
              ⟨(some 23), .ext (.t 15) 1, none⟩,
              ⟨(some 7), .mov (.t 22), none⟩,
              ⟨(some 8), .mov (.t 23), none⟩] [0, 1, 5, 6, 7, 8])
            (.seq
             (.reg false [⟨(some 24), .mov (.t 8), none⟩] [0, 1, 5, 6, 7, 24])
             (.cond 24
              (.reg false [⟨(some 25), .steal 5, none⟩,
                ⟨(some 26), .mov (.t 7), none⟩,
                ⟨(some 27), .call 38 [(true, (.t 25)), (false, (.t 26))], none⟩,
                ⟨(some 5), .steal 27, none⟩] [0, 1, 5, 6])
              (.reg false [] [0, 1, 5, 6])))))
          (.reg false [⟨(some 13), .mov (.t 6), none⟩,
            ⟨(some 14), .bin .add true (.t 13) (.c (.int .i64 1)), none⟩,
            ⟨(some 6), .mov (.t 14), none⟩] [0, 1, 5, 6]))))))
     (.seq
      (.reg false [⟨(some 28), .steal 5, none⟩,
        ⟨(some 4), .steal 28, none⟩] [4])
      .ret))))
def rs22 : List RS := [.tmp 4]
/-- padlock/padlocklaw05.in -/
def rc27 : RC :=
  (.seq
   (.reg false [⟨(some 4), .mov (.c (.bool false)), none⟩] [0, 1])
   (.seq
    (.seq
     (.reg false [⟨(some 5), .mov (.c (.int .i64 0)), none⟩] [0, 1, 5])
     (.block 0
      (.loop
       (.seq
        (.seq
         (.reg false [⟨(some 6), .mov (.t 5), none⟩,
           ⟨(some 7), .mov (.t 0), none⟩,
           ⟨(some 8), .len false (.t 7), none⟩,
           ⟨(some 9), .bin .lss true (.t 6) (.t 8), none⟩] [0, 1, 5, 9])
         (.cond 9
          (.reg false [] [0, 1, 5])
          (.seq
           (.reg false [] [])
           (.exit 0))))
        (.seq
         (.block 1
          (.seq
           (.reg false [⟨(some 12), .mov (.t 0), none⟩,
             ⟨(some 13), .mov (.t 5), none⟩,
             ⟨(some 14), .idxA 1 (.t 12) (.t 13), none⟩,
             ⟨(some 15), .loadP (.t 14) 1 false, none⟩,
             ⟨(some 16), .mov (.t 1), none⟩,
             ⟨(some 17), .bin .eql false (.t 15) (.t 16), none⟩] [0, 1, 5, 17])
           (.cond 17
            (.seq
             (.reg false [⟨(some 4), .mov (.c (.bool true)), none⟩] [4])
             .ret)
            (.reg false [] [0, 1, 5]))))
         (.reg false [⟨(some 10), .mov (.t 5), none⟩,
           ⟨(some 11), .bin .add true (.t 10) (.c (.int .i64 1)), none⟩,
           ⟨(some 5), .mov (.t 11), none⟩] [0, 1, 5]))))))
    (.seq
     (.reg false [⟨(some 4), .mov (.c (.bool false)), none⟩] [4])
     .ret)))
def rs27 : List RS := [.tmp 4]
/-- padlock/padlocklaw01.Over -/
def rc19 : RC :=
  (.seq
   (.reg false [⟨(some 2), .mov (.c (.int .i64 0)), none⟩] [0])
   (.seq
    (.seq
     (.reg false [⟨(some 4), .mov (.t 0), none⟩,
       ⟨(some 5), .len false (.t 4), none⟩,
       ⟨(some 6), .bin .gtr true (.t 5) (.c (.int .i64 40)), none⟩] [0, 6])
     (.cond 6
      (.seq
       (.reg false [⟨(some 2), .mov (.c (.int .i64 1)), none⟩] [2])
       .ret)
      (.reg false [] [0])))
    (.seq
     (.seq
      (.reg false [⟨(some 3), .mov (.c (.int .i64 0)), none⟩] [0, 3])
      (.block 0
       (.loop
        (.seq
         (.seq
          (.reg false [⟨(some 7), .mov (.t 3), none⟩,
            ⟨(some 8), .mov (.t 0), none⟩,
            ⟨(some 9), .len false (.t 8), none⟩,
            ⟨(some 10), .bin .lss true (.t 7) (.t 9), none⟩] [0, 3, 10])
          (.cond 10
           (.reg false [] [0, 3])
           (.seq
            (.reg false [] [])
            (.exit 0))))
         (.seq
          (.block 1
           (.seq
            (.reg false [⟨(some 13), .mov (.t 0), none⟩,
              ⟨(some 14), .mov (.t 3), none⟩,
              ⟨(some 15), .idxA 1 (.t 13) (.t 14), none⟩,
              ⟨(some 16), .loadP (.t 15) 1 false, none⟩,
              ⟨(some 17), .len true (.t 16), none⟩,
              ⟨(some 18), .bin .gtr true (.t 17) (.c (.int .i64 200)), none⟩] [0, 3, 18])
            (.cond 18
             (.seq
              (.reg false [⟨(some 2), .mov (.c (.int .i64 1)), none⟩] [2])
              .ret)
             (.reg false [] [0, 3]))))
          (.reg false [⟨(some 11), .mov (.t 3), none⟩,
            ⟨(some 12), .bin .add true (.t 11) (.c (.int .i64 1)), none⟩,
            ⟨(some 3), .mov (.t 12), none⟩] [0, 3]))))))
     (.seq
      (.reg false [⟨(some 2), .mov (.c (.int .i64 0)), none⟩] [2])
      .ret))))
def rs19 : List RS := [.tmp 2]
/-- padlock/padlockref01.SameTexts -/
def rc20 : RC :=
  (.seq
   (.reg false [⟨(some 4), .mov (.c (.bool false)), none⟩] [0, 1])
   (.seq
    (.seq
     (.reg false [⟨(some 6), .mov (.t 0), none⟩,
       ⟨(some 7), .len false (.t 6), none⟩,
       ⟨(some 8), .mov (.t 1), none⟩,
       ⟨(some 9), .len false (.t 8), none⟩,
       ⟨(some 10), .bin .neq true (.t 7) (.t 9), none⟩] [0, 1, 10])
     (.cond 10
      (.seq
       (.reg false [⟨(some 4), .mov (.c (.bool false)), none⟩] [4])
       .ret)
      (.reg false [] [0, 1])))
    (.seq
     (.seq
      (.reg false [⟨(some 5), .mov (.c (.int .i64 0)), none⟩] [0, 1, 5])
      (.block 0
       (.loop
        (.seq
         (.seq
          (.reg false [⟨(some 11), .mov (.t 5), none⟩,
            ⟨(some 12), .mov (.t 0), none⟩,
            ⟨(some 13), .len false (.t 12), none⟩,
            ⟨(some 14), .bin .lss true (.t 11) (.t 13), none⟩] [0, 1, 5, 14])
          (.cond 14
           (.reg false [] [0, 1, 5])
           (.seq
            (.reg false [] [])
            (.exit 0))))
         (.seq
          (.block 1
           (.seq
            (.reg true [⟨(some 17), .mov (.t 0), none⟩,
              ⟨(some 18), .mov (.t 5), none⟩,
              ⟨(some 19), .idxA 1 (.t 17) (.t 18), none⟩,
              ⟨(some 20), .loadP (.t 19) 1 false, none⟩,
              ⟨(some 21), .mov (.t 1), none⟩,
              ⟨(some 22), .mov (.t 5), none⟩,
              ⟨(some 23), .idxA 1 (.t 21) (.t 22), none⟩,
              ⟨(some 24), .loadP (.t 23) 1 false, none⟩,
              ⟨(some 25), .bin .neq false (.t 20) (.t 24), none⟩] [0, 1, 5, 25])
            (.cond 25
             (.seq
              (.reg false [⟨(some 4), .mov (.c (.bool false)), none⟩] [4])
              .ret)
             (.reg false [] [0, 1, 5]))))
          (.reg false [⟨(some 15), .mov (.t 5), none⟩,
            ⟨(some 16), .bin .add true (.t 15) (.c (.int .i64 1)), none⟩,
            ⟨(some 5), .mov (.t 16), none⟩] [0, 1, 5]))))))
     (.seq
      (.reg false [⟨(some 4), .mov (.c (.bool true)), none⟩] [4])
      .ret))))
def rs20 : List RS := [.tmp 4]
theorem pf18 (a : Tx) (b : Tx) (h : a.length ≤ 1000000) : PFx Try.prog 18 [.str a, .str b] (.str (com a b)) := by
  refine PFx_of_W (rc := rc18) (rs := rs18) Try.func18 rfl T10_ok hm (by kernel_rfl) (by kernel_rfl) (by simp [Try.ntmps18]) ?_
  simp [rc18, rs18]
  refine W_varU (fun k : Nat => k ≤ a.length ∧ com a b = comK a b k) (fun k => k) (fun k => [(5, .int .i64 k)]) a.length ⟨Nat.le_refl _, rfl⟩ (by simp) ?_
  rintro k ⟨hk, hc⟩
  cases k with
  | zero =>
    simp [hc, comK]
  | succ k =>
    have hl : (a.take (k + 1)).length ≤ 1000000 := by simp; omega
    have h1 : (k : Int) + 1 ≤ a.length := by omega
    have h2 : ((k : Int) + 1).toNat = k + 1 := by omega
    have h3 : (0 : Int) < k + 1 := by omega
    have h4 : (0 : Int) ≤ k + 1 := by omega
    have q1 := T12_eq a (a.take (k + 1)) hl
    have q2 := T12_eq b (a.take (k + 1)) hl
    cases w1 : wi a (a.take (k + 1))
    · have hc' : com a b = comK a b k := by rw [hc, comK, w1]; rfl
      simp [h1, h2, h3, h4, q1, q2, w1, hc']
      exact ⟨by omega, k, ⟨by omega, rfl⟩, by omega, by omega⟩
    · cases w2 : wi b (a.take (k + 1))
      · have hc' : com a b = comK a b k := by rw [hc, comK, w1, w2]; rfl
        simp [h1, h2, h3, h4, q1, q2, w1, w2, hc']
        exact ⟨by omega, k, ⟨by omega, rfl⟩, by omega, by omega⟩
      · have hc' : com a b = a.take (k + 1) := by rw [hc, comK, w1, w2]; rfl
        simp [h1, h2, h3, h4, q1, q2, w1, w2, hc']
noncomputable def T18 : Tab := tabAdd T10 18 (fun z : Tx × Tx => z.1.length ≤ 1000000) (fun z => [.str z.1, .str z.2]) (fun z => .str (com z.1 z.2))
@[simp] theorem T18_eq (a : Tx) (b : Tx) (h : a.length ≤ 1000000) : T18 18 [.str a, .str b] = some (.str (com a b)) := tabAdd_eq (a := (a, b)) (by simp +contextual [Int.natCast_inj]) h rfl
@[simp] theorem T18_ne {g : Nat} {xs : List AV} (h : g ≠ 18) : T18 g xs = T10 g xs := tabAdd_ne h
theorem T18_ok : Sound Try.prog T18 := tabAdd_sound T10_ok fun z h => pf18 z.1 z.2 h
theorem pf24 (s : Tx) (l : List Tx) (h : l.length ≤ 1000000 ∧ ∀ x ∈ l, x.length ≤ 1000000) : PFx Try.prog 24 [.str s, .sl (l.map .str) l.length] (.int .i64 (lon s l)) := by
  refine PFx_of_W (rc := rc24) (rs := rs24) Try.func24 rfl T18_ok hm (by kernel_rfl) (by kernel_rfl) (by simp [Try.ntmps24]) ?_
  simp [rc24, rs24]
  refine W_forU l.length (fun _ => True) (fun k => [(5, .int .i64 (lonK s l k)), (6, .int .i64 k)]) trivial (by simp [lonK]) (fun k hk _ => ?_) fun _ => ?_
  · have hb := lonK_lt s l k
    have e1 : l.getD k [] = l[k] := by simp [List.getD, hk]
    have q := T12_eq s l[k] (h.2 _ (List.getElem_mem hk))
    by_cases h0 : lonK s l k < 0
    · cases h1 : wi s l[k] <;> simp [hk, h0, h1, q, lonK, e1] <;> omega
    · have h2 : (lonK s l k).toNat < l.length := by omega
      have h3 : lonK s l k < l.length := by omega
      have h4 : 0 ≤ lonK s l k := by omega
      have e2 : l.getD (lonK s l k).toNat [] = l[(lonK s l k).toNat] := by simp [List.getD, h2]
      cases h1 : wi s l[k]
      · simp [hk, h0, h1, q, lonK, e1] ; omega
      · by_cases h5 : l[(lonK s l k).toNat].length < l[k].length
        · have h5' : (l[(lonK s l k).toNat].length : Int) < l[k].length := by omega
          simp [hk, h0, h1, h2, h3, h4, h5, h5', q, lonK, e1, e2]; omega
        · have h5' : ¬ (l[(lonK s l k).toNat].length : Int) < l[k].length := by omega
          simp [hk, h0, h1, h2, h3, h4, h5, h5', q, lonK, e1, e2]; omega
  · simp [lon]
noncomputable def T24 : Tab := tabAdd T18 24 (fun z : Tx × (List Tx) => z.2.length ≤ 1000000 ∧ ∀ x ∈ z.2, x.length ≤ 1000000) (fun z => [.str z.1, .sl (z.2.map .str) z.2.length]) (fun z => .int .i64 (lon z.1 z.2))
@[simp] theorem T24_eq (s : Tx) (l : List Tx) (h : l.length ≤ 1000000 ∧ ∀ x ∈ l, x.length ≤ 1000000) : T24 24 [.str s, .sl (l.map .str) l.length] = some (.int .i64 (lon s l)) := tabAdd_eq (a := (s, l)) (by simp +contextual [Int.natCast_inj]) h rfl
@[simp] theorem T24_ne {g : Nat} {xs : List AV} (h : g ≠ 24) : T24 g xs = T18 g xs := tabAdd_ne h
theorem T24_ok : Sound Try.prog T24 := tabAdd_sound T18_ok fun z h => pf24 z.1 z.2 h
theorem pf26 (s : Tx) (l : List Tx) (h : s.length ≤ 1000000 ∧ l.length ≤ 1000000 ∧ ∀ x ∈ l, x.length ≤ 1000000) : PFx Try.prog 26 [.str s, .sl (l.map .str) l.length] (.bool (nest s l)) := by
  refine PFx_of_W (rc := rc26) (rs := rs26) Try.func26 rfl T24_ok hm (by kernel_rfl) (by kernel_rfl) (by simp [Try.ntmps26]) ?_
  simp [rc26, rs26]
  refine W_forU l.length (fun k => ∀ x ∈ l.take k, (wi x s || wi s x) = false) (fun k => [(5, .int .i64 k)]) (by simp) (by simp) (fun k hk hp => ?_) fun hp => ?_
  · have q := T12_eq s l[k] (h.2.2 _ (List.getElem_mem hk))
    cases h1 : wi s l[k]
    · cases h2 : wi l[k] s
      · simp [hk, h1, h2, q, h.1]
        exact ⟨by omega, by omega, fun x hx => by simpa using take_all (fun x => (wi x s || wi s x) = false) hk hp (by simp [h1, h2]) x hx⟩
      · simp [hk, h1, h2, q, h.1]
        exact ⟨by omega, List.any_eq_true.2 ⟨_, List.getElem_mem hk, by simp [h2]⟩⟩
    · simp [hk, h1, q, h.1]
      exact ⟨by omega, List.any_eq_true.2 ⟨_, List.getElem_mem hk, by simp [h1]⟩⟩
  · simp
    rw [List.take_length] at hp
    unfold nest
    rw [List.any_eq_false]
    exact fun x hx => by simpa using hp x hx
noncomputable def T26 : Tab := tabAdd T24 26 (fun z : Tx × (List Tx) => z.1.length ≤ 1000000 ∧ z.2.length ≤ 1000000 ∧ ∀ x ∈ z.2, x.length ≤ 1000000) (fun z => [.str z.1, .sl (z.2.map .str) z.2.length]) (fun z => .bool (nest z.1 z.2))
@[simp] theorem T26_eq (s : Tx) (l : List Tx) (h : s.length ≤ 1000000 ∧ l.length ≤ 1000000 ∧ ∀ x ∈ l, x.length ≤ 1000000) : T26 26 [.str s, .sl (l.map .str) l.length] = some (.bool (nest s l)) := tabAdd_eq (a := (s, l)) (by simp +contextual [Int.natCast_inj]) h rfl
@[simp] theorem T26_ne {g : Nat} {xs : List AV} (h : g ≠ 26) : T26 g xs = T24 g xs := tabAdd_ne h
theorem T26_ok : Sound Try.prog T26 := tabAdd_sound T24_ok fun z h => pf26 z.1 z.2 h
theorem pf27 (l : List Tx) (s : Tx) (h : l.length ≤ 1000000) : PFx Try.prog 27 [.sl (l.map .str) l.length, .str s] (.bool (decide (s ∈ l))) := by
  refine PFx_of_W (rc := rc27) (rs := rs27) Try.func27 rfl T26_ok hm (by kernel_rfl) (by kernel_rfl) (by simp [Try.ntmps27]) ?_
  simp [rc27, rs27]
  refine W_forU l.length (fun k => ∀ x ∈ l.take k, x ≠ s) (fun k => [(5, .int .i64 k)]) (by simp) (by simp) (fun k hk hp => ?_) fun hp => ?_
  · by_cases he : l[k] = s
    · have hm : s ∈ l := he ▸ List.getElem_mem hk
      simp [hk, he, hm]
      omega
    · simp [hk, he]
      exact ⟨by omega, by omega, take_all (fun x => x ≠ s) hk hp he⟩
  · rw [List.take_length] at hp
    simp
    exact fun hm => hp s hm rfl
noncomputable def T27 : Tab := tabAdd T26 27 (fun z : (List Tx) × Tx => z.1.length ≤ 1000000) (fun z => [.sl (z.1.map .str) z.1.length, .str z.2]) (fun z => .bool (decide (z.2 ∈ z.1)))
@[simp] theorem T27_eq (l : List Tx) (s : Tx) (h : l.length ≤ 1000000) : T27 27 [.sl (l.map .str) l.length, .str s] = some (.bool (decide (s ∈ l))) := tabAdd_eq (a := (l, s)) (by simp +contextual [Int.natCast_inj]) h rfl
@[simp] theorem T27_ne {g : Nat} {xs : List AV} (h : g ≠ 27) : T27 g xs = T26 g xs := tabAdd_ne h
theorem T27_ok : Sound Try.prog T27 := tabAdd_sound T26_ok fun z h => pf27 z.1 z.2 h
def few (ls : List (List UInt8)) : Prop := ls.length ≤ 40 ∧ ∀ s ∈ ls, s.length ≤ 200
theorem pf19 (ls : List (List UInt8)) (h : ls.length ≤ 9223372036854775807) : PFx Try.prog 19 [.sl (ls.map .str) ls.length] (.int .i64 (open Classical in if few ls then 0 else 1)) := by
  refine PFx_of_W (rc := rc19) (rs := rs19) Try.func19 rfl T27_ok hm (by kernel_rfl) (by kernel_rfl) (by simp [Try.ntmps19]) ?_
  rcases Int.lt_or_le 40 ls.length with h4 | h4
  · have hf : ¬ few ls := fun hf => by have := hf.1; omega
    simp [rc19, rs19, h4, hf]
  · have h4' : ¬ (40 : Int) < ls.length := by omega
    simp [rc19, rs19, h4']
    refine W_forU ls.length (fun k => ∀ s ∈ ls.take k, s.length ≤ 200) (fun k => [(3, .int .i64 k)]) (by simp) (by simp) (fun k hk hp => ?_) fun hp => ?_
    · by_cases he : (200 : Int) < (ls[k]).length
      · have hf : ¬ few ls := fun hf => by have := hf.2 _ (List.getElem_mem hk); omega
        simp [hk, he, hf]
        omega
      · simp [hk, he]
        exact ⟨by omega, by omega, take_all (fun s : List UInt8 => s.length ≤ 200) hk hp (by omega)⟩
    · have hf : few ls := ⟨by omega, by rwa [List.take_length] at hp⟩
      simp [hf]
noncomputable def T19 : Tab := tabAdd T27 19 (fun z : (List (List UInt8)) => z.length ≤ 9223372036854775807) (fun z => [.sl (z.map .str) z.length]) (fun z => .int .i64 (open Classical in if few z then 0 else 1))
@[simp] theorem T19_eq (ls : List (List UInt8)) (h : ls.length ≤ 9223372036854775807) : T19 19 [.sl (ls.map .str) ls.length] = some (.int .i64 (open Classical in if few ls then 0 else 1)) := tabAdd_eq (a := ls) (by simp +contextual [Int.natCast_inj]) h rfl
@[simp] theorem T19_ne {g : Nat} {xs : List AV} (h : g ≠ 19) : T19 g xs = T27 g xs := tabAdd_ne h
theorem T19_ok : Sound Try.prog T19 := tabAdd_sound T27_ok fun z h => pf19 z h
theorem pf20 (a : List Tx) (b : List Tx) (h : a.length ≤ 1000000) : PFx Try.prog 20 [.sl (a.map .str) a.length, .sl (b.map .str) b.length] (.bool (decide (a = b))) := by
  refine PFx_of_W (rc := rc20) (rs := rs20) Try.func20 rfl T19_ok hm (by kernel_rfl) (by kernel_rfl) (by simp [Try.ntmps20]) ?_
  by_cases hl : a.length = b.length
  · simp [rc20, rs20, hl]
    refine W_forU b.length (fun k => a.take k = b.take k) (fun k => [(5, .int .i64 k)]) (by simp) (by simp) (fun k hk hp => ?_) fun hp => ?_
    · have hk' : k < a.length := by omega
      by_cases he : a[k] = b[k]
      · simp [hk, hk', he, hl]
        exact ⟨by omega, by omega, by rw [take_one a k hk', take_one b k hk, hp, he]⟩
      · simp [hk, hk', he, hl]
        exact ⟨by omega, fun h => by subst h; exact he rfl⟩
    · simp
      rw [← hl, List.take_length, hl, List.take_length] at hp
      exact hp
  · have hl' : ¬ (a.length : Int) = b.length := by omega
    simp [rc20, rs20, hl']
    intro h; subst h; exact hl rfl
noncomputable def T20 : Tab := tabAdd T19 20 (fun z : (List Tx) × (List Tx) => z.1.length ≤ 1000000) (fun z => [.sl (z.1.map .str) z.1.length, .sl (z.2.map .str) z.2.length]) (fun z => .bool (decide (z.1 = z.2)))
@[simp] theorem T20_eq (a : List Tx) (b : List Tx) (h : a.length ≤ 1000000) : T20 20 [.sl (a.map .str) a.length, .sl (b.map .str) b.length] = some (.bool (decide (a = b))) := tabAdd_eq (a := (a, b)) (by simp +contextual [Int.natCast_inj]) h rfl
@[simp] theorem T20_ne {g : Nat} {xs : List AV} (h : g ≠ 20) : T20 g xs = T19 g xs := tabAdd_ne h
theorem T20_ok : Sound Try.prog T20 := tabAdd_sound T19_ok fun z h => pf20 z.1 z.2 h
theorem pf21 (t : Tx) (l : List Tx) (h : l.length ≤ 1000000 ∧ ∀ x ∈ l, x.length ≤ 1000000) : PFx Try.prog 21 [.str t, .sl (l.map .str) l.length] (.row 1 ((ord (kids t l)).map .str) (ord (kids t l)).length) := by
  refine PFx_of_W (rc := rc21) (rs := rs21) Try.func21 rfl T20_ok hm (by kernel_rfl) (by kernel_rfl) (by simp [Try.ntmps21]) ?_
  simp [rc21, rs21]
  refine W_forU l.length (fun _ => True) (fun k => [(5, .mrow 1 ((kids t (l.take k)).map .str) (kids t (l.take k)).length), (12, .int .i64 k)]) trivial (by simp [kids]) (fun k hk _ => ?_) fun _ => ?_
  · have q := T9_eq l[k] t (h.2 _ (List.getElem_mem hk))
    have e := kids_one t l[k]
    have hn := kids_len t (l.take k)
    rw [List.length_take] at hn
    cases hb : be l[k] t
    · rw [hb] at e
      have e2 : kids t (l.take (k + 1)) = kids t (l.take k) := by rw [take_one l k hk, kids_app, e]; simp
      simp [hk, q, hb, e2]
      omega
    · rw [hb] at e
      have e2 : kids t (l.take (k + 1)) = kids t (l.take k) ++ [child l[k] t] := by rw [take_one l k hk, kids_app, e]; simp
      generalize kids t (l.take k) = ks at e2 hn
      simp [hk, q, hb, e2]
      omega
  · have hn := kids_len t l
    have q1 := T34B_eq (kids t l) (by omega)
    have q2 := T37_eq ((kids t l).mergeSort fun x y => !ltStr y x) (by rw [List.length_mergeSort]; omega)
    rw [compact_sort _ _ (fun _ _ => rfl), List.length_mergeSort] at q2
    simp [q1, q2]
noncomputable def T21 : Tab := tabAdd T20 21 (fun z : Tx × (List Tx) => z.2.length ≤ 1000000 ∧ ∀ x ∈ z.2, x.length ≤ 1000000) (fun z => [.str z.1, .sl (z.2.map .str) z.2.length]) (fun z => .row 1 ((ord (kids z.1 z.2)).map .str) (ord (kids z.1 z.2)).length)
@[simp] theorem T21_eq (t : Tx) (l : List Tx) (h : l.length ≤ 1000000 ∧ ∀ x ∈ l, x.length ≤ 1000000) : T21 21 [.str t, .sl (l.map .str) l.length] = some (.row 1 ((ord (kids t l)).map .str) (ord (kids t l)).length) := tabAdd_eq (a := (t, l)) (by simp +contextual [Int.natCast_inj]) h rfl
@[simp] theorem T21_ne {g : Nat} {xs : List AV} (h : g ≠ 21) : T21 g xs = T20 g xs := tabAdd_ne h
theorem T21_ok : Sound Try.prog T21 := tabAdd_sound T20_ok fun z h => pf21 z.1 z.2 h
theorem pf38 (l : List Tx) (s : Tx) (h : l.length ≤ 1000000) : PFx Try.prog 38 [.row 1 (l.map .str) l.length, .str s] (.row 1 ((into l s).map .str) (into l s).length) := by
  refine PFx_of_W (rc := rc38) (rs := rs38) Try.func38 rfl T21_ok hm (by kernel_rfl) (by kernel_rfl) (by simp [Try.ntmps38]) ?_
  simp [rc38, rs38]
  have hpl := posn_le l s
  have ht : (l.map AV.str).take l.length = l.map .str := List.take_of_length_le (by simp)
  refine W_forU (posn l s) (fun _ => True) (fun k => [(5, .int .i64 k)]) trivial (by simp) (fun k hk _ => ?_) fun _ => ?_
  · have h1 : k < l.length := by omega
    have h2 : Op.bytesLess l[k] s = true := by rw [less_lt]; simpa [ltStr] using posn_lt hk h1
    simp [h1, h2]
    omega
  · by_cases h1 : posn l s < l.length
    · have h2 : Op.bytesLess l[posn l s] s = false := by rw [less_lt]; simpa [ltStr] using posn_at h1
      by_cases h3 : l[posn l s] = s
      · have e : into l s = l := by unfold into; rw [List.getElem?_eq_getElem h1, h3, if_pos rfl]
        have h4 : Op.bytesLess s s = false := by rw [less_lt]; simp [ltStr, lt_irr]
        simp [h1, h2, h3, e]
        exact ⟨by omega, h4, by omega⟩
      · have e : into l s = l.take (posn l s) ++ s :: l.drop (posn l s) := by unfold into; rw [List.getElem?_eq_getElem h1, if_neg (by simpa using h3)]
        simp [h1, h2, h3, e, ht]
        omega
    · have e : into l s = l.take (posn l s) ++ s :: l.drop (posn l s) := by unfold into; rw [List.getElem?_eq_none (by omega), if_neg (by simp)]
      simp [h1, e, ht]
      omega
noncomputable def T38 : Tab := tabAdd T21 38 (fun z : (List Tx) × Tx => z.1.length ≤ 1000000) (fun z => [.row 1 (z.1.map .str) z.1.length, .str z.2]) (fun z => .row 1 ((into z.1 z.2).map .str) (into z.1 z.2).length)
@[simp] theorem T38_eq (l : List Tx) (s : Tx) (h : l.length ≤ 1000000) : T38 38 [.row 1 (l.map .str) l.length, .str s] = some (.row 1 ((into l s).map .str) (into l s).length) := tabAdd_eq (a := (l, s)) (by simp +contextual [Int.natCast_inj]) h rfl
@[simp] theorem T38_ne {g : Nat} {xs : List AV} (h : g ≠ 38) : T38 g xs = T21 g xs := tabAdd_ne h
theorem T38_ok : Sound Try.prog T38 := tabAdd_sound T21_ok fun z h => pf38 z.1 z.2 h
theorem pf22 (t : Tx) (l : List Tx) (h : t.length ≤ 1000000 ∧ l.length ≤ 1000000 ∧ ∀ x ∈ l, x.length ≤ 1000000) : PFx Try.prog 22 [.str t, .sl (l.map .str) l.length] (.row 1 ((ord (kids t l)).map .str) (ord (kids t l)).length) := by
  refine PFx_of_W (rc := rc22) (rs := rs22) Try.func22 rfl T38_ok hm (by kernel_rfl) (by kernel_rfl) (by simp [Try.ntmps22]) ?_
  simp [rc22, rs22]
  refine W_forU l.length (fun _ => True) (fun k => [(5, .row 1 ((ord (kids t (l.take k))).map .str) (ord (kids t (l.take k))).length), (6, .int .i64 k)]) trivial (by simp [kids, ord]) (fun k hk _ => ?_) fun _ => ?_
  · have q := T10_eq l[k] t ⟨h.2.2 _ (List.getElem_mem hk), h.1⟩
    have e := kids_one t l[k]
    have hn := kids_len t (l.take k)
    have ho := ord_len (kids t (l.take k))
    rw [List.length_take] at hn
    cases hb : be l[k] t
    · rw [hb] at e
      have e2 : kids t (l.take (k + 1)) = kids t (l.take k) := by rw [take_one l k hk, kids_app, e]; simp
      simp [hk, q, hb, e2]
      omega
    · rw [hb] at e
      have e2 : ord (kids t (l.take (k + 1))) = into (ord (kids t (l.take k))) (child l[k] t) := by rw [take_one l k hk, kids_app, e]; simp [ord]
      have q2 := T38_eq (ord (kids t (l.take k))) (child l[k] t) (by omega)
      generalize ord (kids t (l.take k)) = ks at e2 q2
      simp [hk, q, hb, e2, q2]
      omega
  · simp
noncomputable def T22 : Tab := tabAdd T38 22 (fun z : Tx × (List Tx) => z.1.length ≤ 1000000 ∧ z.2.length ≤ 1000000 ∧ ∀ x ∈ z.2, x.length ≤ 1000000) (fun z => [.str z.1, .sl (z.2.map .str) z.2.length]) (fun z => .row 1 ((ord (kids z.1 z.2)).map .str) (ord (kids z.1 z.2)).length)
@[simp] theorem T22_eq (t : Tx) (l : List Tx) (h : t.length ≤ 1000000 ∧ l.length ≤ 1000000 ∧ ∀ x ∈ l, x.length ≤ 1000000) : T22 22 [.str t, .sl (l.map .str) l.length] = some (.row 1 ((ord (kids t l)).map .str) (ord (kids t l)).length) := tabAdd_eq (a := (t, l)) (by simp +contextual [Int.natCast_inj]) h rfl
@[simp] theorem T22_ne {g : Nat} {xs : List AV} (h : g ≠ 22) : T22 g xs = T38 g xs := tabAdd_ne h
theorem T22_ok : Sound Try.prog T22 := tabAdd_sound T38_ok fun z h => pf22 z.1 z.2 h
end Go.Proofs.Ytnhelmnenhphjaa

