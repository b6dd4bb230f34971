/- entry: nodes and values. -/
import Derived.Test.YtbikpgaiocjnoaaX1
set_option linter.unusedVariables false
set_option linter.unusedSimpArgs false
namespace Go.Proofs.Ytbikpgaiocjnoaa
open Go.Proofs.Ytbikpgaiocjnoaa.Pad Go.Proofs.Ytbikpgaiocjnoaa.Pad.En
/-- padlock/padlocklaw10.Back -/
def rc18 : RC :=
  (.seq
   (.reg false [⟨(some 4), .alloc [(.int .u8 0), (.int .u64 0), (.str []), (.sl [] 0), (.sl [] 0)], none⟩] [0, 1, 4])
   (.seq
    (.seq
     (.reg false [⟨(some 15), .mov (.t 1), none⟩,
       ⟨(some 16), .bin .gtr true (.t 15) (.c (.int .i64 8)), none⟩] [0, 1, 4, 16])
     (.cond 16
      (.seq
       (.reg false [⟨(some 17), .build [(.int .u8 0), (.int .u64 0), (.str []), (.sl [] 0), (.sl [] 0)] [(0, 1, (.c (.int .u8 9)))], none⟩,
         ⟨none, .stB 4 5 (.t 17), none⟩] [4])
       .ret)
      (.reg false [] [0, 1, 4])))
    (.seq
     (.seq
      (.reg false [⟨(some 18), .mov (.t 0), none⟩] [1, 4, 18])
      (.block 0
       (.seq
        (.reg false [⟨(some 19), .isNil false false (.t 18), none⟩] [1, 4, 18, 19])
        (.cond 19
         (.seq
          (.reg false [⟨(some 5), .mov (.t 18), none⟩] [4])
          (.seq
           (.reg false [⟨(some 20), .build [(.int .u8 0), (.int .u64 0), (.str []), (.sl [] 0), (.sl [] 0)] [], none⟩,
             ⟨none, .stB 4 5 (.t 20), none⟩] [4])
           .ret))
         (.seq
          (.reg false [⟨(some 21), .asI 4 true (.bool false) (.t 18), none⟩,
            ⟨(some 22), .ext (.t 21) 1, none⟩,
            ⟨(some 23), .ext (.t 21) 0, none⟩] [1, 4, 18, 22, 23])
          (.cond 22
           (.seq
            (.reg false [⟨(some 6), .mov (.t 23), none⟩] [4, 6])
            (.seq
             (.seq
              (.reg false [⟨(some 24), .mov (.t 6), none⟩] [4, 24])
              (.cond 24
               (.seq
                (.reg false [⟨(some 25), .build [(.int .u8 0), (.int .u64 0), (.str []), (.sl [] 0), (.sl [] 0)] [(0, 1, (.c (.int .u8 1))), (1, 1, (.c (.int .u64 1)))], none⟩,
                  ⟨none, .stB 4 5 (.t 25), none⟩] [4])
                .ret)
               (.reg false [] [4])))
             (.seq
              (.reg false [⟨(some 26), .build [(.int .u8 0), (.int .u64 0), (.str []), (.sl [] 0), (.sl [] 0)] [(0, 1, (.c (.int .u8 1)))], none⟩,
                ⟨none, .stB 4 5 (.t 26), none⟩] [4])
              .ret)))
           (.seq
            (.reg false [⟨(some 27), .asI 22 true (.int .u64 0) (.t 18), none⟩,
              ⟨(some 28), .ext (.t 27) 1, none⟩,
              ⟨(some 29), .ext (.t 27) 0, none⟩] [1, 4, 18, 28, 29])
            (.cond 28
             (.seq
              (.reg false [⟨(some 7), .mov (.t 29), none⟩] [4, 7])
              (.seq
               (.reg false [⟨(some 30), .mov (.t 7), none⟩,
                 ⟨(some 31), .build [(.int .u8 0), (.int .u64 0), (.str []), (.sl [] 0), (.sl [] 0)] [(0, 1, (.c (.int .u8 2))), (1, 1, (.t 30))], none⟩,
                 ⟨none, .stB 4 5 (.t 31), none⟩] [4])
               .ret))
             (.seq
              (.reg false [⟨(some 32), .asI 9 true (.str []) (.t 18), none⟩,
                ⟨(some 33), .ext (.t 32) 1, none⟩,
                ⟨(some 34), .ext (.t 32) 0, none⟩] [1, 4, 18, 33, 34])
              (.cond 33
               (.seq
                (.reg false [⟨(some 8), .mov (.t 34), none⟩] [4, 8])
                (.seq
                 (.reg false [⟨(some 35), .mov (.t 8), none⟩,
                   ⟨(some 36), .build [(.int .u8 0), (.int .u64 0), (.str []), (.sl [] 0), (.sl [] 0)] [(0, 1, (.c (.int .u8 3))), (2, 1, (.t 35))], none⟩,
                   ⟨none, .stB 4 5 (.t 36), none⟩] [4])
                 .ret))
               (.seq
                (.reg false [⟨(some 37), .asI 57 true (.sl [] 0) (.t 18), none⟩,
                  ⟨(some 38), .ext (.t 37) 1, none⟩,
                  ⟨(some 39), .ext (.t 37) 0, none⟩] [1, 4, 18, 38, 39])
                (.cond 38
                 (.seq
                  (.reg false [⟨(some 9), .steal 39, none⟩] [1, 4, 9])
                  (.seq
                   (.reg false [⟨(some 40), .build [(.int .u8 0), (.int .u64 0), (.str []), (.nilS 5), (.nilS 1)] [(0, 1, (.c (.int .u8 4)))], none⟩,
                     ⟨(some 10), .allocO [(.int .u8 0), (.int .u64 0), (.str []), (.nilS 5), (.nilS 1)], none⟩,
                     ⟨none, .stO 10 5 (.t 40), none⟩] [1, 4, 9, 10])
                   (.seq
                    (.seq
                     (.reg false [⟨(some 11), .mov (.c (.int .i64 0)), none⟩] [1, 4, 9, 10, 11])
                     (.block 1
                      (.loop
                       (.seq
                        (.seq
                         (.reg false [⟨(some 41), .mov (.t 11), none⟩,
                           ⟨(some 42), .mov (.t 9), none⟩,
                           ⟨(some 43), .len false (.t 42), none⟩,
                           ⟨(some 44), .bin .lss true (.t 41) (.t 43), none⟩] [1, 4, 9, 10, 11, 44])
                         (.cond 44
                          (.reg false [] [1, 4, 9, 10, 11])
                          (.seq
                           (.reg false [] [4, 10])
                           (.exit 1))))
                        (.seq
                         (.block 2
                          (.reg true [⟨(some 47), .fldO 10 3, none⟩,
                            ⟨(some 48), .takeO 47 10, none⟩,
                            ⟨(some 49), .mov (.t 9), none⟩,
                            ⟨(some 50), .mov (.t 11), none⟩,
                            ⟨(some 51), .idxA 1 (.t 49) (.t 50), none⟩,
                            ⟨(some 52), .loadP (.t 51) 1 false, none⟩,
                            ⟨(some 53), .mov (.t 1), none⟩,
                            ⟨(some 54), .bin .add true (.t 53) (.c (.int .i64 1)), none⟩,
                            ⟨(some 55), .call 18 [(false, (.t 52)), (false, (.t 54))], none⟩,
                            ⟨(some 56), .mkSl 5 1 [(.int .u8 0), (.int .u64 0), (.str []), (.sl [] 0), (.sl [] 0)] [(0, 5, (.t 55))], none⟩,
                            ⟨(some 57), .app 5 80 (.t 48) (.t 56), none⟩,
                            ⟨(some 58), .fldO 10 3, none⟩,
                            ⟨none, .putO 58 10 57, none⟩] [1, 4, 9, 10, 11]))
                         (.reg false [⟨(some 45), .mov (.t 11), none⟩,
                           ⟨(some 46), .bin .add true (.t 45) (.c (.int .i64 1)), none⟩,
                           ⟨(some 11), .mov (.t 46), none⟩] [1, 4, 9, 10, 11]))))))
                    (.seq
                     (.reg false [⟨(some 59), .loadO 10 5 true, none⟩,
                       ⟨none, .stB 4 5 (.t 59), none⟩] [4])
                     .ret))))
                 (.seq
                  (.reg false [⟨(some 60), .asI 61 true (.sl [] 0) (.t 18), none⟩,
                    ⟨(some 61), .ext (.t 60) 1, none⟩,
                    ⟨(some 62), .ext (.t 60) 0, none⟩] [1, 4, 61, 62])
                  (.cond 61
                   (.seq
                    (.reg false [⟨(some 12), .steal 62, none⟩] [1, 4, 12])
                    (.seq
                     (.reg false [⟨(some 63), .build [(.int .u8 0), (.int .u64 0), (.str []), (.nilS 5), (.nilS 1)] [(0, 1, (.c (.int .u8 5)))], none⟩,
                       ⟨(some 13), .allocO [(.int .u8 0), (.int .u64 0), (.str []), (.nilS 5), (.nilS 1)], none⟩,
                       ⟨none, .stO 13 5 (.t 63), none⟩] [1, 4, 12, 13])
                     (.seq
                      (.seq
                       (.reg false [⟨(some 14), .mov (.c (.int .i64 0)), none⟩] [1, 4, 12, 13, 14])
                       (.block 3
                        (.loop
                         (.seq
                          (.seq
                           (.reg false [⟨(some 64), .mov (.t 14), none⟩,
                             ⟨(some 65), .mov (.t 12), none⟩,
                             ⟨(some 66), .len false (.t 65), none⟩,
                             ⟨(some 67), .bin .lss true (.t 64) (.t 66), none⟩] [1, 4, 12, 13, 14, 67])
                           (.cond 67
                            (.reg false [] [1, 4, 12, 13, 14])
                            (.seq
                             (.reg false [] [4, 13])
                             (.exit 3))))
                          (.seq
                           (.block 4
                            (.seq
                             (.reg true [⟨(some 70), .fldO 13 4, none⟩,
                               ⟨(some 71), .takeO 70 13, none⟩,
                               ⟨(some 72), .mov (.t 12), none⟩,
                               ⟨(some 73), .mov (.t 14), none⟩,
                               ⟨(some 74), .idxA 2 (.t 72) (.t 73), none⟩,
                               ⟨(some 75), .fldP 0 (.t 74), none⟩,
                               ⟨(some 76), .loadP (.t 75) 1 false, none⟩,
                               ⟨(some 77), .mkSl 1 1 [(.str [])] [(0, 1, (.t 76))], none⟩,
                               ⟨(some 78), .app 1 16 (.t 71) (.t 77), none⟩,
                               ⟨(some 79), .fldO 13 4, none⟩,
                               ⟨none, .putO 79 13 78, none⟩] [1, 4, 12, 13, 14])
                             (.reg true [⟨(some 80), .fldO 13 3, none⟩,
                               ⟨(some 81), .takeO 80 13, none⟩,
                               ⟨(some 82), .mov (.t 12), none⟩,
                               ⟨(some 83), .mov (.t 14), none⟩,
                               ⟨(some 84), .idxA 2 (.t 82) (.t 83), none⟩,
                               ⟨(some 85), .fldP 1 (.t 84), none⟩,
                               ⟨(some 86), .loadP (.t 85) 1 false, none⟩,
                               ⟨(some 87), .mov (.t 1), none⟩,
                               ⟨(some 88), .bin .add true (.t 87) (.c (.int .i64 1)), none⟩,
                               ⟨(some 89), .call 18 [(false, (.t 86)), (false, (.t 88))], none⟩,
                               ⟨(some 90), .mkSl 5 1 [(.int .u8 0), (.int .u64 0), (.str []), (.sl [] 0), (.sl [] 0)] [(0, 5, (.t 89))], none⟩,
                               ⟨(some 91), .app 5 80 (.t 81) (.t 90), none⟩,
                               ⟨(some 92), .fldO 13 3, none⟩,
                               ⟨none, .putO 92 13 91, none⟩] [1, 4, 12, 13, 14])))
                           (.reg false [⟨(some 68), .mov (.t 14), none⟩,
                             ⟨(some 69), .bin .add true (.t 68) (.c (.int .i64 1)), none⟩,
                             ⟨(some 14), .mov (.t 69), none⟩] [1, 4, 12, 13, 14]))))))
                      (.seq
                       (.reg false [⟨(some 93), .loadO 13 5 true, none⟩,
                         ⟨none, .stB 4 5 (.t 93), none⟩] [4])
                       .ret))))
                   (.reg false [] [4])))))))))))))))
     (.seq
      (.reg false [⟨(some 94), .build [(.int .u8 0), (.int .u64 0), (.str []), (.sl [] 0), (.sl [] 0)] [(0, 1, (.c (.int .u8 9)))], none⟩,
        ⟨none, .stB 4 5 (.t 94), none⟩] [4])
      .ret))))
def rs18 : List RS := [.cell 4 5 true]
/-- The numbers of the types here. -/
def ids : Ids := ⟨4, 22, 9, 57, 61, 3⟩
theorem ids_apart : ids.apart := by unfold Ids.apart ids; decide
theorem vl_inj2 {α : Type} {f : Vl → Nat → α} : ∀ a b : Vl × Nat, [a.1.av ids, AV.int .i64 a.2] = [b.1.av ids, AV.int .i64 b.2] → f a.1 a.2 = f b.1 b.2 := by
  rintro ⟨x, i⟩ ⟨y, j⟩ h
  simp only [List.cons.injEq, AV.int.injEq, true_and, and_true, Int.natCast_inj] at h
  rw [vav_inj ids ids_apart _ _ h.1, h.2]
@[simp] theorem ids_b : ids.b = 4 := rfl
@[simp] theorem ids_u : ids.u = 22 := rfl
@[simp] theorem ids_s : ids.s = 9 := rfl
@[simp] theorem ids_l : ids.l = 57 := rfl
@[simp] theorem ids_p : ids.p = 61 := rfl
@[simp] theorem ids_i : ids.i = 3 := rfl
theorem vls_at (l : List Vl) (i : Nat) (h : i < (vls ids l).length) : (vls ids l)[i] = (l[i]'(by simpa using h)).av ids := vls_get ids l i (by simpa using h)
theorem backs_step (d : Nat) (l : List Vl) (i : Nat) (h : i < l.length) : avs (backs d (l.take (i + 1))) = avs (backs d (l.take i)) ++ (back d l[i]).av := by
  rw [avs_add, backs_map, backs_map, List.take_succ_eq_append_getElem h, List.map_append]; rfl
theorem backP_step (d : Nat) (l : List (Tx × Vl)) (i : Nat) (h : i < l.length) : avs (backP d (l.take (i + 1))) = avs (backP d (l.take i)) ++ (back d l[i].2).av := by
  rw [avs_add, backP_map, backP_map, List.take_succ_eq_append_getElem h, List.map_append]; rfl
theorem prs_at (l : List (Tx × Vl)) (i : Nat) (h : i < l.length) : (prs ids l)[i * 2]? = some (.str l[i].1) ∧ (prs ids l)[i * 2 + 1]? = some (l[i].2.av ids) := by
  have hg := prs_get ids l i h
  have h0 := congrArg (fun m => m[0]?) hg
  have h1 := congrArg (fun m => m[1]?) hg
  simp only [List.getElem?_take, List.getElem?_drop] at h0 h1
  simpa using And.intro h0 h1
theorem bv0 : bv 0#64 = 0 := rfl
theorem bv1 : bv 1#64 = 1 := rfl
noncomputable def R18 (m : Nat) : Tab := tabAdd T8 18 (fun z : Vl × Nat => (z.2 ≤ 100 ∧ z.1.fine) ∧ z.1.sz < m) (fun z => [z.1.av ids, .int .i64 z.2]) (fun z => .agg (back z.2 z.1).av)
theorem R18_eq (m : Nat) (v : Vl) (d : Nat) (h : d ≤ 100 ∧ v.fine) (hm : v.sz < m) : R18 m 18 [v.av ids, .int .i64 d] = some (.agg (back d v).av) := tabAdd_eq (a := (v, d)) (vl_inj2 (f := fun v d => AV.agg (back d v).av)) ⟨h, hm⟩ rfl
@[simp] theorem R18_ne {m g : Nat} {xs : List AV} (h : g ≠ 18) : R18 m g xs = T8 g xs := tabAdd_ne h
theorem pf18 (v : Vl) (d : Nat) (h : d ≤ 100 ∧ v.fine) : PFx Try.prog 18 [v.av ids, .int .i64 d] (.agg (back d v).av) := by
  refine tabRec (T := T8) (p := fun z : Vl × Nat => z.2 ≤ 100 ∧ z.1.fine) (args := fun z => [z.1.av ids, .int .i64 z.2]) (res := fun z => .agg (back z.2 z.1).av) (fun z => z.1.sz) T8_ok (fun z h hT => ?_) (by unfold inPlace; omega) (v, d) h
  obtain ⟨v, d⟩ := z
  try dsimp only at h
  replace hT : Sound Try.prog (R18 (v.sz)) := hT
  refine PFx_of_W (rc := rc18) (rs := rs18) Try.func18 rfl hT hm (by kernel_rfl) (by kernel_rfl) (by simp [Try.ntmps18]) ?_
  by_cases h8 : 8 < d
  · have h8' : (8 : Int) < d := by omega
    have hb : back d v = nd9 := by cases v <;> simp [back, h8]
    rw [hb]
    cases v <;> simp [rc18, rs18, h8, h8', Vl.av, nd9, Nd.av, avs, bv0]
  have h8' : ¬ (8 : Int) < d := by omega
  cases v with
  | nil => simp [rc18, rs18, h8, h8', Vl.av, back, Nd.av, avs, bv0]
  | bool b => cases b <;> simp [rc18, rs18, h8, h8', Vl.av, back, Nd.av, avs, bv0, bv1]
  | num n => simp [rc18, rs18, h8, h8', Vl.av, back, Nd.av, avs]
  | str s => simp [rc18, rs18, h8, h8', Vl.av, back, Nd.av, avs, bv0]
  | int n => simp [rc18, rs18, h8, h8', Vl.av, back, nd9, Nd.av, avs, bv0]
  | list l =>
    obtain ⟨hd, hf⟩ := h
    rw [Vl.fine] at hf
    simp [rc18, rs18, h8, h8', Vl.av]
    refine W_varU (fun i : Nat => i ≤ l.length) (fun i => l.length - i) (fun i => [(10, .obox [.int .u8 4, .int .u64 0, .str [], .row 5 (avs (backs (d + 1) (l.take i))) i, .row 1 [] 0]), (11, .int .i64 i)]) 0 (Nat.zero_le _) (by simp [backs, avs]) ?_
    intro i hi
    rcases Nat.lt_or_ge i l.length with hlt | hge
    · have hlt' : (i : Int) < l.length := by omega
      have q := R18_eq (Vl.sz (.list l)) l[i] (d + 1) ⟨by omega, fines_get l hf.2 i hlt⟩ (size_item hlt)
      rw [Int.natCast_add, Int.natCast_one] at q
      have hs := backs_step (d + 1) l i hlt
      have hl0 : (backs (d + 1) (l.take i)).length = i := by rw [backs_map]; simp; omega
      generalize back (d + 1) l[i] = y at q hs
      obtain ⟨k, n, s, ks, ns⟩ := y
      have hat := vls_at l i (by simpa using hlt)
      generalize l[i] = x at q hat
      have fin : ∃ y, y ≤ l.length ∧ l.length - y < l.length - i ∧ (avs (backs (d + 1) (l.take i)) ++ [.int .u8 k.toNat, .int .u64 (bv n), .str s, .sl (avs ks) ks.length, .sl (ns.map .str) ns.length] = avs (backs (d + 1) (l.take y)) ∧ i + 1 = y) ∧ (i : Int) + 1 = y :=
        ⟨i + 1, by omega, by omega, ⟨by rw [hs, Nd.av], rfl⟩, by omega⟩
      cases x <;> simp [Vl.av, Nd.av] at q hat <;> simp [hlt, hlt', hat, q, Nd.av, hl0, -exists_eq_right] <;> exact ⟨by omega, ⟨by omega, by omega⟩, ⟨by omega, by omega⟩, ⟨by omega, by omega⟩, fin⟩
    · have e : i = l.length := by omega
      subst e
      have hbl : (backs (d + 1) l).length = l.length := by rw [backs_map, List.length_map]
      simp
      rw [back, if_neg h8, Nd.av, hbl]
      rfl
  | pairs l =>
    obtain ⟨hd, hf⟩ := h
    rw [Vl.fine] at hf
    simp [rc18, rs18, h8, h8', Vl.av]
    refine W_varU (fun i : Nat => i ≤ l.length) (fun i => l.length - i) (fun i => [(13, .obox [.int .u8 5, .int .u64 0, .str [], .row 5 (avs (backP (d + 1) (l.take i))) i, .row 1 ((l.take i).map fun p => .str p.1) i]), (14, .int .i64 i)]) 0 (Nat.zero_le _) (by simp [backP, avs]) ?_
    intro i hi
    rcases Nat.lt_or_ge i l.length with hlt | hge
    · have hlt' : (i : Int) < l.length := by omega
      have q := R18_eq (Vl.sz (.pairs l)) l[i].2 (d + 1) ⟨by omega, fineP_get l hf.2 i hlt⟩ (size_pair hlt)
      rw [Int.natCast_add, Int.natCast_one] at q
      have hs := backP_step (d + 1) l i hlt
      have hn : ((l.take (i + 1)).map fun p => AV.str p.1) = ((l.take i).map fun p => AV.str p.1) ++ [.str l[i].1] := by rw [List.take_succ_eq_append_getElem hlt, List.map_append]; rfl
      have hat := prs_at l i hlt
      have h2 : 2 ≤ l.length * 2 - i * 2 := by omega
      have h3 : 0 < l.length * 2 - i * 2 := by omega
      have h4 : 0 < l.length * 2 - (i * 2 + 1) := by omega
      have hl0 : (backP (d + 1) (l.take i)).length = i := by rw [backP_map]; simp; omega
      have hl1 : ((l.take i).map fun p => AV.str p.1).length = i := by simp; omega
      generalize back (d + 1) l[i].2 = y at q hs
      obtain ⟨k, n, s, ks, ns⟩ := y
      generalize l[i] = x at q hat hn
      obtain ⟨t, x⟩ := x
      simp only at q hat hn
      obtain ⟨hat0, hat1⟩ := hat
      obtain ⟨u0, hat0⟩ := List.getElem?_eq_some_iff.1 hat0
      obtain ⟨u1, hat1⟩ := List.getElem?_eq_some_iff.1 hat1
      have fin : ∃ y, y ≤ l.length ∧ l.length - y < l.length - i ∧ ((avs (backP (d + 1) (l.take i)) ++ [.int .u8 k.toNat, .int .u64 (bv n), .str s, .sl (avs ks) ks.length, .sl (ns.map .str) ns.length] = avs (backP (d + 1) (l.take y)) ∧ i + 1 = y) ∧ (l.map fun p => AV.str p.1).take i ++ [.str t] = (l.map fun p => AV.str p.1).take y ∧ i + 1 = y) ∧ (i : Int) + 1 = y :=
        ⟨i + 1, by omega, by omega, ⟨⟨by rw [hs, Nd.av], rfl⟩, by rw [← List.map_take, ← List.map_take]; exact hn.symm, rfl⟩, by omega⟩
      cases x <;> simp [Vl.av, Nd.av] at q hat1 <;> simp [hlt, hlt', h2, h3, h4, hat0, hat1, q, Nd.av, hl0, hl1] <;> exact ⟨⟨by omega, by omega, by omega⟩, by omega, ⟨by omega, by omega⟩, ⟨by omega, by omega⟩, ⟨by omega, by omega⟩, fin⟩
    · have e : i = l.length := by omega
      subst e
      have hbl : (backP (d + 1) l).length = l.length := by rw [backP_map, List.length_map]
      simp
      rw [back, if_neg h8, Nd.av, hbl, List.map_map, List.length_map]
      rfl
noncomputable def T18 : Tab := tabAdd T8 18 (fun z : Vl × Nat => z.2 ≤ 100 ∧ z.1.fine) (fun z => [z.1.av ids, .int .i64 z.2]) (fun z => .agg (back z.2 z.1).av)
@[simp] theorem T18_eq (v : Vl) (d : Nat) (h : d ≤ 100 ∧ v.fine) : T18 18 [v.av ids, .int .i64 d] = some (.agg (back d v).av) := tabAdd_eq (a := (v, d)) (vl_inj2 (f := fun v d => AV.agg (back d v).av)) h rfl
@[simp] theorem T18_ne {g : Nat} {xs : List AV} (h : g ≠ 18) : T18 g xs = T8 g xs := tabAdd_ne h
theorem T18_ok : Sound Try.prog T18 := tabAdd_sound T8_ok fun z h => pf18 z.1 z.2 h
end Go.Proofs.Ytbikpgaiocjnoaa

