/- The program's entry: a value's bytes. -/
import Derived.Test.YtbikpgaiocjnoaaY1
set_option linter.unusedVariables false
set_option linter.unusedSimpArgs false
namespace Go.Proofs.Ytbikpgaiocjnoaa
open Go.Proofs.Ytbikpgaiocjnoaa.Pad Go.Proofs.Ytbikpgaiocjnoaa.Pad.En
theorem row_inj {α : Type} {f : Tx → α} : ∀ a b : Tx, AV.row 1 (bytesAV a) a.length = AV.row 1 (bytesAV b) b.length → f a = f b := by
  intro a b h
  simp only [AV.row.injEq, bytesAV_inj, true_and] at h
  rw [h.1]
/-- padlock/entry.kindOf -/
def rc38 : RC :=
  (.seq
   (.reg false [⟨(some 2), .mov (.c (.int .u8 0)), none⟩] [0])
   (.seq
    (.seq
     (.reg false [⟨(some 3), .mov (.t 0), none⟩] [3])
     (.cond 3
      (.seq
       (.reg false [⟨(some 2), .mov (.c (.int .u8 2)), none⟩] [2])
       .ret)
      (.reg false [] [])))
    (.seq
     (.reg false [⟨(some 2), .mov (.c (.int .u8 1)), none⟩] [2])
     .ret)))
def rs38 : List RS := [.tmp 2]
/-- padlock/entry.addNum -/
def rc39 : RC :=
  (.seq
   (.reg false [⟨(some 6), .nilR 1, none⟩] [0, 1, 2])
   (.seq
    (.reg false [⟨(some 7), .steal 0, none⟩,
      ⟨(some 8), .mov (.t 1), none⟩,
      ⟨(some 9), .mov (.t 2), none⟩,
      ⟨(some 10), .call 59 [(false, (.c (.row 1 [] 0))), (false, (.t 8)), (false, (.t 9))], none⟩,
      ⟨(some 11), .app 1 1 (.t 7) (.t 10), none⟩,
      ⟨(some 6), .steal 11, none⟩] [6])
    .ret))
def rs39 : List RS := [.tmp 6]
/-- padlock/entry.addRow -/
def rc40 : RC :=
  (.seq
   (.reg false [⟨(some 4), .nilR 1, none⟩] [0, 1])
   (.seq
    (.reg false [⟨(some 8), .mov (.t 1), none⟩,
      ⟨(some 9), .call 60 [(false, (.c (.row 1 [] 0))), (false, (.t 8))], none⟩,
      ⟨(some 7), .mov (.t 9), none⟩,
      ⟨(some 10), .ext (.t 7) 0, none⟩,
      ⟨(some 11), .ext (.t 7) 1, none⟩,
      ⟨(some 5), .steal 10, none⟩,
      ⟨(some 6), .mov (.t 11), none⟩] [0, 5])
    (.seq
     (.reg false [⟨(some 12), .steal 0, none⟩,
       ⟨(some 13), .mov (.t 5), none⟩,
       ⟨(some 14), .app 1 1 (.t 12) (.t 13), none⟩,
       ⟨(some 4), .steal 14, none⟩] [4])
     .ret)))
def rs40 : List RS := [.tmp 4]
/-- padlock/entry.add -/
def rc27 : RC :=
  (.seq
   (.reg false [⟨(some 4), .nilR 1, none⟩] [0, 1])
   (.seq
    (.seq
     (.reg false [⟨(some 15), .mov (.t 1), none⟩] [0, 15])
     (.block 0
      (.seq
       (.reg false [⟨(some 16), .isNil false false (.t 15), none⟩] [0, 15, 16])
       (.cond 16
        (.seq
         (.reg false [⟨(some 5), .mov (.t 15), none⟩] [0])
         (.reg false [⟨(some 17), .steal 0, none⟩,
           ⟨(some 18), .mkSl 1 1 [(.int .u8 0)] [(0, 1, (.c (.int .u8 0)))], none⟩,
           ⟨(some 19), .app 1 1 (.t 17) (.t 18), none⟩,
           ⟨(some 0), .steal 19, none⟩] [0]))
        (.seq
         (.reg false [⟨(some 20), .asI 4 true (.bool false) (.t 15), none⟩,
           ⟨(some 21), .ext (.t 20) 1, none⟩,
           ⟨(some 22), .ext (.t 20) 0, none⟩] [0, 15, 21, 22])
         (.cond 21
          (.seq
           (.reg false [⟨(some 6), .mov (.t 22), none⟩] [0, 6])
           (.reg false [⟨(some 23), .steal 0, none⟩,
             ⟨(some 24), .mov (.t 6), none⟩,
             ⟨(some 25), .call 38 [(false, (.t 24))], none⟩,
             ⟨(some 26), .mkSl 1 1 [(.int .u8 0)] [(0, 1, (.t 25))], none⟩,
             ⟨(some 27), .app 1 1 (.t 23) (.t 26), none⟩,
             ⟨(some 0), .steal 27, none⟩] [0]))
          (.seq
           (.reg false [⟨(some 28), .asI 22 true (.int .u64 0) (.t 15), none⟩,
             ⟨(some 29), .ext (.t 28) 1, none⟩,
             ⟨(some 30), .ext (.t 28) 0, none⟩] [0, 15, 29, 30])
           (.cond 29
            (.seq
             (.reg false [⟨(some 7), .mov (.t 30), none⟩] [0, 7])
             (.reg false [⟨(some 31), .steal 0, none⟩,
               ⟨(some 32), .mkSl 1 1 [(.int .u8 0)] [(0, 1, (.c (.int .u8 3)))], none⟩,
               ⟨(some 33), .app 1 1 (.t 31) (.t 32), none⟩,
               ⟨(some 34), .mov (.t 7), none⟩,
               ⟨(some 35), .call 39 [(true, (.t 33)), (false, (.c (.int .i64 8))), (false, (.t 34))], none⟩,
               ⟨(some 0), .steal 35, none⟩] [0]))
            (.seq
             (.reg false [⟨(some 36), .asI 9 true (.str []) (.t 15), none⟩,
               ⟨(some 37), .ext (.t 36) 1, none⟩,
               ⟨(some 38), .ext (.t 36) 0, none⟩] [0, 15, 37, 38])
             (.cond 37
              (.seq
               (.reg false [⟨(some 8), .mov (.t 38), none⟩] [0, 8])
               (.reg false [⟨(some 39), .steal 0, none⟩,
                 ⟨(some 40), .mkSl 1 1 [(.int .u8 0)] [(0, 1, (.c (.int .u8 4)))], none⟩,
                 ⟨(some 41), .app 1 1 (.t 39) (.t 40), none⟩,
                 ⟨(some 42), .mov (.t 8), none⟩,
                 ⟨(some 43), .call 40 [(true, (.t 41)), (false, (.t 42))], none⟩,
                 ⟨(some 0), .steal 43, none⟩] [0]))
              (.seq
               (.reg false [⟨(some 44), .asI 57 true (.sl [] 0) (.t 15), none⟩,
                 ⟨(some 45), .ext (.t 44) 1, none⟩,
                 ⟨(some 46), .ext (.t 44) 0, none⟩] [0, 15, 45, 46])
               (.cond 45
                (.seq
                 (.reg false [⟨(some 9), .steal 46, none⟩] [0, 9])
                 (.seq
                  (.reg false [⟨(some 47), .steal 0, none⟩,
                    ⟨(some 48), .mkSl 1 1 [(.int .u8 0)] [(0, 1, (.c (.int .u8 5)))], none⟩,
                    ⟨(some 49), .app 1 1 (.t 47) (.t 48), none⟩,
                    ⟨(some 50), .mov (.t 9), none⟩,
                    ⟨(some 51), .len false (.t 50), none⟩,
                    ⟨(some 52), .conv true .u64 (.t 51), none⟩,
                    ⟨(some 53), .call 39 [(true, (.t 49)), (false, (.c (.int .i64 1))), (false, (.t 52))], none⟩,
                    ⟨(some 0), .steal 53, none⟩] [0, 9])
                  (.seq
                   (.reg false [⟨(some 54), .mov (.t 9), none⟩,
                     ⟨(some 55), .len false (.t 54), none⟩,
                     ⟨(some 56), .mov (.c (.int .i64 0)), none⟩] [0, 54, 55, 56])
                   (.block 1
                    (.loop
                     (.seq
                      (.reg false [⟨(some 57), .bin .lss true (.t 56) (.t 55), none⟩] [0, 54, 55, 56, 57])
                      (.seq
                       (.cond 57
                        (.reg false [] [0, 54, 55, 56])
                        (.seq
                         (.reg false [] [0])
                         (.exit 1)))
                       (.seq
                        (.block 2
                         (.seq
                          (.reg false [⟨(some 58), .idxA 1 (.t 54) (.t 56), none⟩,
                            ⟨(some 59), .loadP (.t 58) 1 false, none⟩,
                            ⟨(some 11), .mov (.t 59), none⟩] [0, 11, 54, 55, 56])
                          (.reg false [⟨(some 60), .steal 0, none⟩,
                            ⟨(some 61), .mov (.t 11), none⟩,
                            ⟨(some 62), .call 27 [(true, (.t 60)), (false, (.t 61))], none⟩,
                            ⟨(some 0), .steal 62, none⟩] [0, 54, 55, 56])))
                        (.reg false [⟨(some 63), .bin .add true (.t 56) (.c (.int .i64 1)), none⟩,
                          ⟨(some 56), .mov (.t 63), none⟩] [0, 54, 55, 56])))))))))
                (.seq
                 (.reg false [⟨(some 64), .asI 61 true (.sl [] 0) (.t 15), none⟩,
                   ⟨(some 65), .ext (.t 64) 1, none⟩,
                   ⟨(some 66), .ext (.t 64) 0, none⟩] [0, 65, 66])
                 (.cond 65
                  (.seq
                   (.reg false [⟨(some 12), .steal 66, none⟩] [0, 12])
                   (.seq
                    (.reg false [⟨(some 67), .steal 0, none⟩,
                      ⟨(some 68), .mkSl 1 1 [(.int .u8 0)] [(0, 1, (.c (.int .u8 6)))], none⟩,
                      ⟨(some 69), .app 1 1 (.t 67) (.t 68), none⟩,
                      ⟨(some 70), .mov (.t 12), none⟩,
                      ⟨(some 71), .len false (.t 70), none⟩,
                      ⟨(some 72), .conv true .u64 (.t 71), none⟩,
                      ⟨(some 73), .call 39 [(true, (.t 69)), (false, (.c (.int .i64 1))), (false, (.t 72))], none⟩,
                      ⟨(some 0), .steal 73, none⟩] [0, 12])
                    (.seq
                     (.reg false [⟨(some 74), .mov (.t 12), none⟩,
                       ⟨(some 75), .len false (.t 74), none⟩,
                       ⟨(some 76), .mov (.c (.int .i64 0)), none⟩] [0, 74, 75, 76])
                     (.block 3
                      (.loop
                       (.seq
                        (.reg false [⟨(some 77), .bin .lss true (.t 76) (.t 75), none⟩] [0, 74, 75, 76, 77])
                        (.seq
                         (.cond 77
                          (.reg false [] [0, 74, 75, 76])
                          (.seq
                           (.reg false [] [0])
                           (.exit 3)))
                         (.seq
                          (.block 4
                           (.seq
                            (.reg false [⟨(some 78), .idxA 2 (.t 74) (.t 76), none⟩,
                              ⟨(some 79), .loadP (.t 78) 2 true, none⟩,
                              ⟨(some 14), .alloc [(.str []), .nilI], none⟩,
                              ⟨none, .stB 14 2 (.t 79), none⟩] [0, 14, 74, 75, 76])
                            (.reg true [⟨(some 80), .steal 0, none⟩,
                              ⟨(some 81), .fldB 14 0, none⟩,
                              ⟨(some 82), .loadR 81 14 1 false, none⟩,
                              ⟨(some 83), .call 40 [(true, (.t 80)), (false, (.t 82))], none⟩,
                              ⟨(some 84), .fldB 14 1, none⟩,
                              ⟨(some 85), .loadR 84 14 1 false, none⟩,
                              ⟨(some 86), .call 27 [(true, (.t 83)), (false, (.t 85))], none⟩,
                              ⟨(some 0), .steal 86, none⟩] [0, 74, 75, 76])))
                          (.reg false [⟨(some 87), .bin .add true (.t 76) (.c (.int .i64 1)), none⟩,
                            ⟨(some 76), .mov (.t 87), none⟩] [0, 74, 75, 76])))))))))
                  (.reg false [] [0])))))))))))))))
    (.seq
     (.reg false [⟨(some 88), .steal 0, none⟩,
       ⟨(some 4), .steal 88, none⟩] [4])
     .ret)))
def rs27 : List RS := [.tmp 4]
/-- padlock/entry.Put -/
def rc11 : RC :=
  (.seq
   (.reg false [⟨(some 2), .nilR 1, none⟩,
     ⟨(some 3), .mov (.c (.int .i64 0)), none⟩] [0])
   (.seq
    (.seq
     (.reg false [⟨(some 5), .mov (.t 0), none⟩,
       ⟨(some 6), .call 13 [(false, (.t 5))], none⟩,
       ⟨(some 4), .mov (.t 6), none⟩] [0, 4])
     (.seq
      (.reg false [⟨(some 7), .mov (.t 4), none⟩,
        ⟨(some 8), .bin .neq true (.t 7) (.c (.int .i64 0)), none⟩] [0, 4, 8])
      (.cond 8
       (.seq
        (.reg false [⟨(some 9), .mov (.t 4), none⟩,
          ⟨(some 2), .nilR 1, none⟩,
          ⟨(some 3), .mov (.t 9), none⟩] [2, 3])
        .ret)
       (.reg false [] [0]))))
    (.seq
     (.reg false [⟨(some 10), .mov (.t 0), none⟩,
       ⟨(some 11), .call 27 [(true, (.c (.row 1 [] 0))), (false, (.t 10))], none⟩,
       ⟨(some 2), .steal 11, none⟩,
       ⟨(some 3), .mov (.c (.int .i64 0)), none⟩] [2, 3])
     .ret)))
def rs11 : List RS := [.tmp 2, .tmp 3]
theorem pf38 (b : Bool)  : PFx Try.prog 38 [.bool b] (.int .u8 (if b then 2 else 1)) := by
  refine PFx_of_W (rc := rc38) (rs := rs38) Try.func38 rfl T13_ok hm (by kernel_rfl) (by kernel_rfl) (by simp [Try.ntmps38]) ?_
  cases b <;> simp [rc38, rs38]
noncomputable def T38 : Tab := tabAdd T13 38 (fun _ : Bool => True) (fun z => [.bool z]) (fun z => .int .u8 (if z then 2 else 1))
@[simp] theorem T38_eq (b : Bool)  : T38 38 [.bool b] = some (.int .u8 (if b then 2 else 1)) := tabAdd_eq (a := b) (by simp +contextual [Int.natCast_inj]) trivial rfl
@[simp] theorem T38_ne {g : Nat} {xs : List AV} (h : g ≠ 38) : T38 g xs = T13 g xs := tabAdd_ne h
theorem T38_ok : Sound Try.prog T38 := tabAdd_sound T13_ok fun z _ => pf38 z 
theorem pf39 (l : Tx) (K : Nat) (v : Nat) (h : 1 ≤ K ∧ K ≤ 8 ∧ l.length ≤ 800000 ∧ v < 18446744073709551616) : PFx Try.prog 39 [.row 1 (bytesAV l) l.length, .int .i64 K, .int .u64 v] (.row 1 (bytesAV (l ++ beB K v)) (l.length + K)) := by
  refine PFx_of_W (rc := rc39) (rs := rs39) Try.func39 rfl T38_ok hm (by kernel_rfl) (by kernel_rfl) (by simp [Try.ntmps39]) ?_
  have q := T59_eq [] K v ⟨by decide, h.2.2.2⟩
  rw [numB_in [] K v ⟨h.1, h.2.1⟩] at q
  simp at q
  simp [rc39, rs39, q]
  exact ⟨⟨by omega, by omega⟩, (bytesAV_app _ _).symm⟩
noncomputable def T39 : Tab := tabAdd T38 39 (fun z : Tx × Nat × Nat => 1 ≤ z.2.1 ∧ z.2.1 ≤ 8 ∧ z.1.length ≤ 800000 ∧ z.2.2 < 18446744073709551616) (fun z => [.row 1 (bytesAV z.1) z.1.length, .int .i64 z.2.1, .int .u64 z.2.2]) (fun z => .row 1 (bytesAV (z.1 ++ beB z.2.1 z.2.2)) (z.1.length + z.2.1))
@[simp] theorem T39_eq (l : Tx) (K : Nat) (v : Nat) (h : 1 ≤ K ∧ K ≤ 8 ∧ l.length ≤ 800000 ∧ v < 18446744073709551616) : T39 39 [.row 1 (bytesAV l) l.length, .int .i64 K, .int .u64 v] = some (.row 1 (bytesAV (l ++ beB K v)) (l.length + K)) := tabAdd_eq (a := (l, K, v)) (by rintro ⟨a, b, c⟩ ⟨a', b', c'⟩ h; simp [Int.natCast_inj] at h; obtain ⟨⟨h1, _⟩, h2, h3⟩ := h; subst h1 h2 h3; rfl) h rfl
@[simp] theorem T39_ne {g : Nat} {xs : List AV} (h : g ≠ 39) : T39 g xs = T38 g xs := tabAdd_ne h
theorem T39_ok : Sound Try.prog T39 := tabAdd_sound T38_ok fun z h => pf39 z.1 z.2.1 z.2.2 h
theorem pf40 (l : Tx) (s : Tx) (h : l.length ≤ 800000 ∧ s.length ≤ 65535) : PFx Try.prog 40 [.row 1 (bytesAV l) l.length, .str s] (.row 1 (bytesAV (l ++ rowB s)) (l.length + (2 + s.length))) := by
  refine PFx_of_W (rc := rc40) (rs := rs40) Try.func40 rfl T39_ok hm (by kernel_rfl) (by kernel_rfl) (by simp [Try.ntmps40]) ?_
  have q := T60_eq [] s ⟨by decide, h.2⟩
  simp at q
  simp [rc40, rs40, q]
  exact ⟨⟨by omega, by omega⟩, (bytesAV_app _ _).symm⟩
noncomputable def T40 : Tab := tabAdd T39 40 (fun z : Tx × Tx => z.1.length ≤ 800000 ∧ z.2.length ≤ 65535) (fun z => [.row 1 (bytesAV z.1) z.1.length, .str z.2]) (fun z => .row 1 (bytesAV (z.1 ++ rowB z.2)) (z.1.length + (2 + z.2.length)))
@[simp] theorem T40_eq (l : Tx) (s : Tx) (h : l.length ≤ 800000 ∧ s.length ≤ 65535) : T40 40 [.row 1 (bytesAV l) l.length, .str s] = some (.row 1 (bytesAV (l ++ rowB s)) (l.length + (2 + s.length))) := tabAdd_eq (a := (l, s)) (by rintro ⟨a, b⟩ ⟨a', b'⟩ h; simp at h; obtain ⟨⟨h1, _⟩, h2⟩ := h; subst h1 h2; rfl) h rfl
@[simp] theorem T40_ne {g : Nat} {xs : List AV} (h : g ≠ 40) : T40 g xs = T39 g xs := tabAdd_ne h
theorem T40_ok : Sound Try.prog T40 := tabAdd_sound T39_ok fun z h => pf40 z.1 z.2 h
theorem nodes_get (l : List Vl) (i : Nat) (h : i < l.length) : (nodes l)[i]'(by rw [nodes_len]; exact h) = nodeOf l[i] := by
  have := nodes_drop l i h
  rw [List.drop_eq_getElem_cons (by rw [nodes_len]; exact h)] at this
  exact (List.cons.inj this).1
theorem nodeP_get (l : List (Tx × Vl)) (i : Nat) (h : i < l.length) : (nodeP l)[i]'(by rw [nodeP_len]; exact h) = nodeOf l[i].2 := by
  have := nodeP_drop l i h
  rw [List.drop_eq_getElem_cons (by rw [nodeP_len]; exact h)] at this
  exact (List.cons.inj this).1
theorem byte1 (n : Nat) (h : n ≤ 64) : beB 1 n = [UInt8.ofNat n] := by
  have : n % 256 = n := by omega
  simp [beB, this]
noncomputable def R27 (m : Nat) : Tab := tabAdd T40 27 (fun z : Tx × Vl => (z.1.length + (encN (nodeOf z.2)).length ≤ 800000 ∧ (∃ d, chk d (nodeOf z.2) = 0)) ∧ z.2.sz < m) (fun z => [.row 1 (bytesAV z.1) z.1.length, z.2.av ids]) (fun z => .row 1 (bytesAV (z.1 ++ encN (nodeOf z.2))) (z.1.length + (encN (nodeOf z.2)).length))
theorem R27_eq (m : Nat) (l : Tx) (v : Vl) (h : l.length + (encN (nodeOf v)).length ≤ 800000 ∧ (∃ d, chk d (nodeOf v) = 0)) (hm : v.sz < m) : R27 m 27 [.row 1 (bytesAV l) l.length, v.av ids] = some (.row 1 (bytesAV (l ++ encN (nodeOf v))) (l.length + (encN (nodeOf v)).length)) := tabAdd_eq (a := (l, v)) (by rintro ⟨a, b⟩ ⟨a', b'⟩ h; simp only [List.cons.injEq, AV.row.injEq, bytesAV_inj, true_and, and_true] at h; obtain ⟨⟨h1, _⟩, h2⟩ := h; obtain rfl := vav_inj ids ids_apart _ _ h2; subst h1; rfl) ⟨h, hm⟩ rfl
@[simp] theorem R27_ne {m g : Nat} {xs : List AV} (h : g ≠ 27) : R27 m g xs = T40 g xs := tabAdd_ne h
theorem pf27 (l : Tx) (v : Vl) (h : l.length + (encN (nodeOf v)).length ≤ 800000 ∧ (∃ d, chk d (nodeOf v) = 0)) : PFx Try.prog 27 [.row 1 (bytesAV l) l.length, v.av ids] (.row 1 (bytesAV (l ++ encN (nodeOf v))) (l.length + (encN (nodeOf v)).length)) := by
  refine tabRec (T := T40) (p := fun z : Tx × Vl => z.1.length + (encN (nodeOf z.2)).length ≤ 800000 ∧ (∃ d, chk d (nodeOf z.2) = 0)) (args := fun z => [.row 1 (bytesAV z.1) z.1.length, z.2.av ids]) (res := fun z => .row 1 (bytesAV (z.1 ++ encN (nodeOf z.2))) (z.1.length + (encN (nodeOf z.2)).length)) (fun z => z.2.sz) T40_ok (fun z h hT => ?_) (by unfold inPlace; omega) (l, v) h
  obtain ⟨l, v⟩ := z
  try dsimp only at h
  replace hT : Sound Try.prog (R27 (v.sz)) := hT
  refine PFx_of_W (rc := rc27) (rs := rs27) Try.func27 rfl hT hm (by kernel_rfl) (by kernel_rfl) (by simp [Try.ntmps27]) ?_
  obtain ⟨hl, d, hd⟩ := h
  cases v with
  | nil =>
    simp [nodeOf, encN] at hl ⊢
    simp [rc27, rs27, Vl.av]
    exact ⟨⟨by omega, by omega⟩, by simp [bytesAV]⟩
  | bool b =>
    cases b <;> simp [nodeOf, encN, bv] at hl ⊢ <;> simp [rc27, rs27, Vl.av]
    all_goals exact ⟨⟨by omega, by omega⟩, by simp [bytesAV]⟩
  | num n =>
    simp [nodeOf, encN] at hl ⊢
    have q : T39 39 [.row 1 (bytesAV l ++ [.int .u8 3]) (l.length + 1), .int .i64 8, .int .u64 (bv n)] = some (.row 1 (bytesAV (l ++ 3 :: beB 8 n.toNat)) (l.length + 9)) := by
      have := T39_eq (l ++ [3]) 8 n.toNat ⟨by decide, by decide, by simp; omega, n.isLt⟩
      simpa [bytesAV, bv] using this
    simp [rc27, rs27, Vl.av, q]
    omega
  | int n => simp [nodeOf, chk, nd9] at hd
  | str s =>
    obtain ⟨_, c2, _⟩ := chk_kind (show chk d (.mk 3 0 s [] []) = 0 by simpa only [nodeOf] using hd)
    simp [nodeOf, encN] at hl ⊢
    have q : T40 40 [.row 1 (bytesAV l ++ [.int .u8 4]) (l.length + 1), .str s] = some (.row 1 (bytesAV (l ++ 4 :: rowB s)) (l.length + (rowB s).length + 1)) := by
      have := T40_eq (l ++ [4]) s ⟨by simp; omega, c2 (by decide)⟩
      have e : (rowB s).length = 2 + s.length := by simp
      rw [e]
      have e2 : l.length + (2 + s.length) + 1 = l.length + 1 + (2 + s.length) := by omega
      rw [e2]
      simpa [bytesAV] using this
    simp [rc27, rs27, Vl.av, q]
    omega
  | list l' =>
    obtain ⟨_, _, c3⟩ := chk_kind (show chk d (.mk 4 0 [] (nodes l') []) = 0 by simpa only [nodeOf] using hd)
    obtain ⟨g1, g2, g3⟩ := c3 (by decide)
    rw [nodes_len] at g2
    have hE : encN (nodeOf (.list l')) = 5 :: UInt8.ofNat l'.length :: encL false [] 0 (nodes l') := by simp [nodeOf, encN, nodes_len]
    rw [hE] at hl ⊢
    simp only [List.length_cons] at hl
    have q : T39 39 [.row 1 (bytesAV l ++ [.int .u8 5]) (l.length + 1), .int .i64 1, .int .u64 l'.length] = some (.row 1 (bytesAV (l ++ [5, UInt8.ofNat l'.length])) (l.length + 2)) := by
      have := T39_eq (l ++ [5]) 1 l'.length ⟨by decide, by decide, by simp; omega, by omega⟩
      rw [byte1 _ g2] at this
      simpa [bytesAV] using this
    obtain ⟨H, hH⟩ : ∃ H, H = l ++ [5, UInt8.ofNat l'.length] := ⟨_, rfl⟩
    have hHl : H.length = l.length + 2 := by rw [hH]; simp
    rw [← hH] at q
    simp [rc27, rs27, Vl.av, q]
    refine ⟨⟨by omega, by omega⟩, by omega, ?_⟩
    refine W_forU l'.length (fun _ => True) (fun i => [(0, .row 1 (bytesAV (H ++ encL false [] 0 ((nodes l').take i))) (l.length + 2 + (encL false [] 0 ((nodes l').take i)).length)), (56, .int .i64 i)]) trivial (by simp [encL, hHl]) (fun i hi _ => ?_) fun _ => ?_
    · have hi' : (i : Int) < l'.length := by omega
      have hin : i < (nodes l').length := by rw [nodes_len]; exact hi
      obtain ⟨k1, _⟩ := chkL_kid g3 i hin
      have hle := encL_le false [] (nodes l') i hin
      have e := encL_step false [] (nodes l') i hin
      rw [nodes_get l' i hi] at k1 e
      rw [e] at hle
      simp only [cond_false, List.nil_append, List.length_append] at hle e
      have qq := R27_eq (Vl.sz (.list l')) (H ++ encL false [] 0 ((nodes l').take i)) l'[i] ⟨by rw [List.length_append, hHl]; omega, _, k1⟩ (size_item hi)
      have eL : (H ++ encL false [] 0 ((nodes l').take i)).length = l.length + 2 + (encL false [] 0 ((nodes l').take i)).length := by rw [List.length_append, hHl]
      rw [eL] at qq
      have hat := vls_at l' i (by simpa using hi)
      rw [e]
      generalize encL false [] 0 ((nodes l').take i) = E at qq hle ⊢
      rcases vav_form ids l'[i] with ⟨u, x, ee⟩ | ee <;> rw [ee] at qq hat <;> simp [hi, hi', hat, qq]
      all_goals repeat' refine And.intro ?_ ?_
      all_goals first | omega | simp
    · simp
      have : (nodes l').take l'.length = nodes l' := by rw [← nodes_len l', List.take_length]
      rw [this, hH]
      simp
      omega
  | pairs l' =>
    obtain ⟨_, _, c3⟩ := chk_kind (show chk d (.mk 5 0 [] (nodeP l') (l'.map Prod.fst)) = 0 by simpa only [nodeOf] using hd)
    obtain ⟨g1, g2, g3⟩ := c3 (by decide)
    rw [nodeP_len] at g2
    have hE : encN (nodeOf (.pairs l')) = 6 :: UInt8.ofNat l'.length :: encL true (l'.map Prod.fst) 0 (nodeP l') := by simp [nodeOf, encN, nodeP_len]
    rw [hE] at hl ⊢
    simp only [List.length_cons] at hl
    have q : T39 39 [.row 1 (bytesAV l ++ [.int .u8 6]) (l.length + 1), .int .i64 1, .int .u64 l'.length] = some (.row 1 (bytesAV (l ++ [6, UInt8.ofNat l'.length])) (l.length + 2)) := by
      have := T39_eq (l ++ [6]) 1 l'.length ⟨by decide, by decide, by simp; omega, by omega⟩
      rw [byte1 _ g2] at this
      simpa [bytesAV] using this
    obtain ⟨H, hH⟩ : ∃ H, H = l ++ [6, UInt8.ofNat l'.length] := ⟨_, rfl⟩
    have hHl : H.length = l.length + 2 := by rw [hH]; simp
    rw [← hH] at q
    simp [rc27, rs27, Vl.av, q]
    refine ⟨⟨by omega, by omega⟩, by omega, ?_⟩
    refine W_forU l'.length (fun _ => True) (fun i => [(0, .row 1 (bytesAV (H ++ encL true (l'.map Prod.fst) 0 ((nodeP l').take i))) (l.length + 2 + (encL true (l'.map Prod.fst) 0 ((nodeP l').take i)).length)), (76, .int .i64 i)]) trivial (by simp [encL, hHl]) (fun i hi _ => ?_) fun _ => ?_
    · have hi' : (i : Int) < l'.length := by omega
      have hin : i < (nodeP l').length := by rw [nodeP_len]; exact hi
      obtain ⟨k1, k2⟩ := chkL_kid g3 i hin
      have k2 := k2 (by decide)
      have hle := encL_le true (l'.map Prod.fst) (nodeP l') i hin
      have e := encL_step true (l'.map Prod.fst) (nodeP l') i hin
      rw [Nat.zero_add, nm_fst l' i hi] at k2
      rw [nodeP_get l' i hi] at k1 e
      rw [nm_fst l' i hi] at e
      rw [e] at hle
      simp only [cond_true, List.length_append, rowB_len] at hle e
      have eL : (H ++ encL true (l'.map Prod.fst) 0 ((nodeP l').take i)).length = l.length + 2 + (encL true (l'.map Prod.fst) 0 ((nodeP l').take i)).length := by rw [List.length_append, hHl]
      have q1 := T40_eq (H ++ encL true (l'.map Prod.fst) 0 ((nodeP l').take i)) l'[i].1 ⟨by rw [eL]; omega, k2⟩
      have qq := R27_eq (Vl.sz (.pairs l')) (H ++ encL true (l'.map Prod.fst) 0 ((nodeP l').take i) ++ rowB l'[i].1) l'[i].2 ⟨by rw [List.length_append, eL, rowB_len]; omega, _, k1⟩ (size_pair hi)
      rw [eL] at q1
      have eL2 : (H ++ encL true (l'.map Prod.fst) 0 ((nodeP l').take i) ++ rowB l'[i].1).length = l.length + 2 + (encL true (l'.map Prod.fst) 0 ((nodeP l').take i)).length + (2 + l'[i].1.length) := by rw [List.length_append, eL, rowB_len]
      rw [eL2] at qq
      have hg := prs_get ids l' i hi
      have h2 : 2 ≤ l'.length * 2 - i * 2 := by omega
      rw [e]
      simp only [List.append_assoc] at q1 qq
      generalize encL true (l'.map Prod.fst) 0 ((nodeP l').take i) = E at q1 qq hle ⊢
      rcases vav_form ids l'[i].2 with ⟨u, x, ee⟩ | ee <;> rw [ee] at qq hg <;> simp [hi, hi', h2, hg, q1, qq]
      all_goals repeat' refine And.intro ?_ ?_
      all_goals first | omega | simp
    · simp
      have : (nodeP l').take l'.length = nodeP l' := by rw [← nodeP_len l', List.take_length]
      rw [this, hH]
      simp
      omega
noncomputable def T27 : Tab := tabAdd T40 27 (fun z : Tx × Vl => z.1.length + (encN (nodeOf z.2)).length ≤ 800000 ∧ (∃ d, chk d (nodeOf z.2) = 0)) (fun z => [.row 1 (bytesAV z.1) z.1.length, z.2.av ids]) (fun z => .row 1 (bytesAV (z.1 ++ encN (nodeOf z.2))) (z.1.length + (encN (nodeOf z.2)).length))
@[simp] theorem T27_eq (l : Tx) (v : Vl) (h : l.length + (encN (nodeOf v)).length ≤ 800000 ∧ (∃ d, chk d (nodeOf v) = 0)) : T27 27 [.row 1 (bytesAV l) l.length, v.av ids] = some (.row 1 (bytesAV (l ++ encN (nodeOf v))) (l.length + (encN (nodeOf v)).length)) := tabAdd_eq (a := (l, v)) (by rintro ⟨a, b⟩ ⟨a', b'⟩ h; simp only [List.cons.injEq, AV.row.injEq, bytesAV_inj, true_and, and_true] at h; obtain ⟨⟨h1, _⟩, h2⟩ := h; obtain rfl := vav_inj ids ids_apart _ _ h2; subst h1; rfl) h rfl
@[simp] theorem T27_ne {g : Nat} {xs : List AV} (h : g ≠ 27) : T27 g xs = T40 g xs := tabAdd_ne h
theorem T27_ok : Sound Try.prog T27 := tabAdd_sound T40_ok fun z h => pf27 z.1 z.2 h
theorem pf11 (v : Vl) (h : v.small) : PFx Try.prog 11 [v.av ids] (.tup [.sl (bytesAV (putB v)) (putB v).length, .int .i64 (chk 0 (nodeOf v))]) := by
  refine PFx_of_W (rc := rc11) (rs := rs11) Try.func11 rfl T27_ok hm (by kernel_rfl) (by kernel_rfl) (by simp [Try.ntmps11]) ?_
  have q := T13_eq v h.1
  by_cases hc : chk 0 (nodeOf v) = 0
  · have q2 := T27_eq [] v ⟨by have := h.2 hc; simp; omega, 0, hc⟩
    rw [hc] at q
    simp at q2
    have hp : putB v = encN (nodeOf v) := by unfold putB; rw [if_pos hc]
    rcases vav_form ids v with ⟨u, x, e⟩ | e <;> rw [e] at q q2 ⊢ <;> simp [rc11, rs11, q, q2, hc, hp]
  · have hc' : ¬ (chk 0 (nodeOf v) : Int) = 0 := by omega
    have hp : putB v = [] := by unfold putB; rw [if_neg hc]
    rcases vav_form ids v with ⟨u, x, e⟩ | e <;> rw [e] at q ⊢ <;> simp [rc11, rs11, q, hc, hc', hp]
noncomputable def T11 : Tab := tabAdd T27 11 (fun z : Vl => z.small) (fun z => [z.av ids]) (fun z => .tup [.sl (bytesAV (putB z)) (putB z).length, .int .i64 (chk 0 (nodeOf z))])
@[simp] theorem T11_eq (v : Vl) (h : v.small) : T11 11 [v.av ids] = some (.tup [.sl (bytesAV (putB v)) (putB v).length, .int .i64 (chk 0 (nodeOf v))]) := tabAdd_eq (a := v) (vl_inj1 (f := fun v => AV.tup [.sl (bytesAV (putB v)) (putB v).length, .int .i64 (chk 0 (nodeOf v))])) h rfl
@[simp] theorem T11_ne {g : Nat} {xs : List AV} (h : g ≠ 11) : T11 g xs = T27 g xs := tabAdd_ne h
theorem T11_ok : Sound Try.prog T11 := tabAdd_sound T27_ok fun z h => pf11 z h
end Go.Proofs.Ytbikpgaiocjnoaa

