/- The laws of entry: what values are looked at. -/
import Derived.Test.YtbikpgaiocjnoaaX7
set_option linter.unusedVariables false
set_option linter.unusedSimpArgs false
namespace Go.Proofs.Ytbikpgaiocjnoaa
open Go.Proofs.Ytbikpgaiocjnoaa.Pad Go.Proofs.Ytbikpgaiocjnoaa.Pad.En
/-- padlock/padlocklaw10.EntryLooks -/
def rc5_3 : RC :=
  (.seq
   (.reg false [⟨(some 126), .loadB 3 5 true, none⟩,
     ⟨(some 127), .call 12 [(false, (.t 126)), (false, (.c (.int .i64 0)))], none⟩,
     ⟨(some 128), .bin .eql true (.t 127) (.c (.int .i64 0)), none⟩,
     ⟨(some 129), .mov (.t 128), none⟩,
     ⟨(some 130), .loadB 4 5 true, (some (129, true))⟩,
     ⟨(some 131), .call 12 [(false, (.t 130)), (false, (.c (.int .i64 0)))], (some (129, true))⟩,
     ⟨(some 132), .bin .eql true (.t 131) (.c (.int .i64 0)), (some (129, true))⟩,
     ⟨(some 133), .pick (.t 129) (.t 132) (.c (.bool false)), none⟩,
     ⟨(some 16), .mov (.t 133), none⟩] [3, 4, 7, 8, 16])
   (.seq
    (.reg false [⟨(some 134), .mov (.t 7), none⟩,
      ⟨(some 135), .mov (.t 8), none⟩,
      ⟨(some 136), .call 23 [(false, (.t 134)), (false, (.t 135))], none⟩,
      ⟨(some 137), .mov (.t 16), none⟩,
      ⟨(some 138), .mov (.t 137), none⟩,
      ⟨(some 139), .loadB 3 5 true, (some (138, true))⟩,
      ⟨(some 140), .loadB 4 5 true, (some (138, true))⟩,
      ⟨(some 141), .call 17 [(false, (.t 139)), (false, (.t 140))], (some (138, true))⟩,
      ⟨(some 142), .pick (.t 138) (.t 141) (.c (.bool false)), none⟩,
      ⟨(some 143), .beq false none (.t 136) (.t 142), none⟩,
      ⟨(some 144), .mov (.t 143), none⟩,
      ⟨(some 145), .call 9 [], (some (144, true))⟩,
      ⟨(some 146), .pick (.t 144) (.t 145) (.c (.bool false)), none⟩,
      ⟨(some 6), .mov (.t 146), none⟩] [6])
    .ret))
def rc5_2 : RC :=
  (.seq
   (.reg false [⟨(some 90), .mov (.t 7), none⟩,
     ⟨(some 91), .mov (.t 2), none⟩,
     ⟨(some 92), .call 21 [(false, (.t 90)), (false, (.t 91))], none⟩,
     ⟨(some 89), .mov (.t 92), none⟩,
     ⟨(some 93), .ext (.t 89) 0, none⟩,
     ⟨(some 94), .ext (.t 89) 1, none⟩,
     ⟨(some 13), .mov (.t 93), none⟩,
     ⟨(some 14), .mov (.t 94), none⟩] [2, 3, 4, 7, 8, 13, 14])
   (.seq
    (.reg false [⟨(some 95), .loadB 3 5 true, none⟩,
      ⟨(some 96), .mov (.t 2), none⟩,
      ⟨(some 97), .call 22 [(false, (.t 95)), (false, (.t 96))], none⟩,
      ⟨(some 15), .mov (.t 97), none⟩] [3, 4, 7, 8, 13, 14, 15])
    (.seq
     (.seq
      (.reg true [⟨(some 98), .mov (.t 14), none⟩,
        ⟨(some 99), .mov (.t 15), none⟩,
        ⟨(some 100), .bin .geq true (.t 99) (.c (.int .i64 0)), none⟩,
        ⟨(some 101), .beq true none (.t 98) (.t 100), none⟩,
        ⟨(some 102), .mov (.t 101), none⟩,
        ⟨(some 103), .mov (.t 14), (some (102, false))⟩,
        ⟨(some 104), .mov (.t 103), (some (102, false))⟩,
        ⟨(some 105), .mov (.t 13), (some (104, true))⟩,
        ⟨(some 106), .call 18 [(false, (.t 105)), (false, (.c (.int .i64 0)))], (some (104, true))⟩,
        ⟨(some 107), .fldB 3 3, (some (104, true))⟩,
        ⟨(some 108), .loadR 107 3 1 false, (some (104, true))⟩,
        ⟨(some 109), .mov (.t 15), (some (104, true))⟩,
        ⟨(some 110), .idxA 5 (.t 108) (.t 109), (some (104, true))⟩,
        ⟨(some 111), .loadP (.t 110) 5 true, (some (104, true))⟩,
        ⟨(some 112), .call 10 [(false, (.t 111))], (some (104, true))⟩,
        ⟨(some 113), .call 18 [(false, (.t 112)), (false, (.c (.int .i64 0)))], (some (104, true))⟩,
        ⟨(some 114), .call 17 [(false, (.t 106)), (false, (.t 113))], (some (104, true))⟩,
        ⟨(some 115), .un .not (.t 114), (some (104, true))⟩,
        ⟨(some 116), .pick (.t 104) (.t 115) (.c (.bool false)), (some (102, false))⟩,
        ⟨(some 117), .pick (.t 102) (.c (.bool true)) (.t 116), none⟩,
        ⟨(some 118), .mov (.t 117), none⟩,
        ⟨(some 119), .mov (.t 14), (some (118, false))⟩,
        ⟨(some 120), .un .not (.t 119), (some (118, false))⟩,
        ⟨(some 121), .mov (.t 120), (some (118, false))⟩,
        ⟨(some 122), .mov (.t 13), (some (121, true))⟩,
        ⟨(some 123), .isNil false true (.t 122), (some (121, true))⟩,
        ⟨(some 124), .pick (.t 121) (.t 123) (.c (.bool false)), (some (118, false))⟩,
        ⟨(some 125), .pick (.t 118) (.c (.bool true)) (.t 124), none⟩] [3, 4, 7, 8, 125])
      (.cond 125
       (.seq
        (.reg false [⟨(some 6), .mov (.c (.bool false)), none⟩] [6])
        .ret)
       (.reg false [] [3, 4, 7, 8])))
     rc5_3)))
def rc5_1 : RC :=
  (.seq
   (.reg false [⟨(some 39), .mov (.t 7), none⟩,
     ⟨(some 40), .call 20 [(false, (.t 39))], none⟩,
     ⟨(some 38), .mov (.t 40), none⟩,
     ⟨(some 41), .ext (.t 38) 0, none⟩,
     ⟨(some 42), .ext (.t 38) 1, none⟩,
     ⟨(some 11), .mov (.t 41), none⟩,
     ⟨(some 12), .mov (.t 42), none⟩] [2, 3, 4, 7, 8, 9, 10, 11, 12])
   (.seq
    (.seq
     (.reg false [⟨(some 43), .mov (.t 10), none⟩,
       ⟨(some 44), .fldB 3 0, none⟩,
       ⟨(some 45), .loadR 44 3 1 false, none⟩,
       ⟨(some 46), .bin .eql false (.t 45) (.c (.int .u8 3)), none⟩,
       ⟨(some 47), .beq true none (.t 43) (.t 46), none⟩,
       ⟨(some 48), .mov (.t 47), none⟩,
       ⟨(some 49), .mov (.t 10), (some (48, false))⟩,
       ⟨(some 50), .mov (.t 49), (some (48, false))⟩,
       ⟨(some 51), .mov (.t 9), (some (50, true))⟩,
       ⟨(some 52), .fldB 3 2, (some (50, true))⟩,
       ⟨(some 53), .loadR 52 3 1 false, (some (50, true))⟩,
       ⟨(some 54), .bin .neq false (.t 51) (.t 53), (some (50, true))⟩,
       ⟨(some 55), .pick (.t 50) (.t 54) (.c (.bool false)), (some (48, false))⟩,
       ⟨(some 56), .pick (.t 48) (.c (.bool true)) (.t 55), none⟩,
       ⟨(some 57), .mov (.t 56), none⟩,
       ⟨(some 58), .mov (.t 10), (some (57, false))⟩,
       ⟨(some 59), .un .not (.t 58), (some (57, false))⟩,
       ⟨(some 60), .mov (.t 59), (some (57, false))⟩,
       ⟨(some 61), .mov (.t 9), (some (60, true))⟩,
       ⟨(some 62), .bin .neq false (.t 61) (.c (.str [])), (some (60, true))⟩,
       ⟨(some 63), .pick (.t 60) (.t 62) (.c (.bool false)), (some (57, false))⟩,
       ⟨(some 64), .pick (.t 57) (.c (.bool true)) (.t 63), none⟩,
       ⟨(some 65), .mov (.t 64), none⟩,
       ⟨(some 66), .mov (.t 12), (some (65, false))⟩,
       ⟨(some 67), .fldB 3 0, (some (65, false))⟩,
       ⟨(some 68), .loadR 67 3 1 false, (some (65, false))⟩,
       ⟨(some 69), .bin .eql false (.t 68) (.c (.int .u8 2)), (some (65, false))⟩,
       ⟨(some 70), .beq true none (.t 66) (.t 69), (some (65, false))⟩,
       ⟨(some 71), .pick (.t 65) (.c (.bool true)) (.t 70), none⟩,
       ⟨(some 72), .mov (.t 71), none⟩,
       ⟨(some 73), .mov (.t 12), (some (72, false))⟩,
       ⟨(some 74), .mov (.t 73), (some (72, false))⟩,
       ⟨(some 75), .mov (.t 11), (some (74, true))⟩,
       ⟨(some 76), .fldB 3 1, (some (74, true))⟩,
       ⟨(some 77), .loadR 76 3 1 false, (some (74, true))⟩,
       ⟨(some 78), .bin .neq false (.t 75) (.t 77), (some (74, true))⟩,
       ⟨(some 79), .pick (.t 74) (.t 78) (.c (.bool false)), (some (72, false))⟩,
       ⟨(some 80), .pick (.t 72) (.c (.bool true)) (.t 79), none⟩,
       ⟨(some 81), .mov (.t 80), none⟩,
       ⟨(some 82), .mov (.t 12), (some (81, false))⟩,
       ⟨(some 83), .un .not (.t 82), (some (81, false))⟩,
       ⟨(some 84), .mov (.t 83), (some (81, false))⟩,
       ⟨(some 85), .mov (.t 11), (some (84, true))⟩,
       ⟨(some 86), .bin .neq false (.t 85) (.c (.int .u64 0)), (some (84, true))⟩,
       ⟨(some 87), .pick (.t 84) (.t 86) (.c (.bool false)), (some (81, false))⟩,
       ⟨(some 88), .pick (.t 81) (.c (.bool true)) (.t 87), none⟩] [2, 3, 4, 7, 8, 88])
     (.cond 88
      (.seq
       (.reg false [⟨(some 6), .mov (.c (.bool false)), none⟩] [6])
       .ret)
      (.reg false [] [2, 3, 4, 7, 8])))
    rc5_2))
def rc5 : RC :=
  (.seq
   (.reg false [⟨(some 3), .box (.t 0), none⟩,
     ⟨(some 4), .box (.t 1), none⟩,
     ⟨(some 6), .mov (.c (.bool false)), none⟩] [2, 3, 4])
   (.seq
    (.seq
     (.reg false [⟨(some 17), .loadB 3 5 true, none⟩,
       ⟨(some 18), .call 8 [(false, (.t 17))], none⟩,
       ⟨(some 19), .mov (.t 18), none⟩,
       ⟨(some 20), .loadB 4 5 true, (some (19, false))⟩,
       ⟨(some 21), .call 8 [(false, (.t 20))], (some (19, false))⟩,
       ⟨(some 22), .pick (.t 19) (.c (.bool true)) (.t 21), none⟩,
       ⟨(some 23), .mov (.t 22), none⟩,
       ⟨(some 24), .mov (.t 2), (some (23, false))⟩,
       ⟨(some 25), .len true (.t 24), (some (23, false))⟩,
       ⟨(some 26), .bin .gtr true (.t 25) (.c (.int .i64 200)), (some (23, false))⟩,
       ⟨(some 27), .pick (.t 23) (.c (.bool true)) (.t 26), none⟩] [2, 3, 4, 27])
     (.cond 27
      (.seq
       (.reg false [⟨(some 28), .call 9 [], none⟩,
         ⟨(some 6), .mov (.t 28), none⟩] [6])
       .ret)
      (.reg false [] [2, 3, 4])))
    (.seq
     (.reg true [⟨(some 29), .loadB 3 5 true, none⟩,
       ⟨(some 30), .call 10 [(false, (.t 29))], none⟩,
       ⟨(some 31), .loadB 4 5 true, none⟩,
       ⟨(some 32), .call 10 [(false, (.t 31))], none⟩,
       ⟨(some 7), .mov (.t 30), none⟩,
       ⟨(some 8), .mov (.t 32), none⟩] [2, 3, 4, 7, 8])
     (.seq
      (.reg false [⟨(some 34), .mov (.t 7), none⟩,
        ⟨(some 35), .call 19 [(false, (.t 34))], none⟩,
        ⟨(some 33), .mov (.t 35), none⟩,
        ⟨(some 36), .ext (.t 33) 0, none⟩,
        ⟨(some 37), .ext (.t 33) 1, none⟩,
        ⟨(some 9), .mov (.t 36), none⟩,
        ⟨(some 10), .mov (.t 37), none⟩] [2, 3, 4, 7, 8, 9, 10])
      rc5_1))))
def rs5 : List RS := [.tmp 6]
def Qt (rs : List RS) (r : AV) : Ex → St → Prop := fun e s => match e with | .exit _ => False | _ => okRes s rs ∧ resAV s rs = r
@[simp] theorem Qt_ret (rs : List RS) (r : AV) (s : St) : Qt rs r .ret s = (okRes s rs ∧ resAV s rs = r) := rfl
def isI (U : AV) : Prop := (∃ a b, U = .ifc a b) ∨ U = .nilI
theorem isI_own (v : Vl) : isI (v.av ids) := vav_form ids v
theorem looks3 (U U' : AV) (hU : isI U) (hU' : isI U') (x y : Nd) (hf : x.fine) (b : Bool) (hb : b = (decide (chk 0 x = 0 ∧ chk 0 y = 0) && same x y)) (e9 : T23 23 [U, U'] = some (.bool b)) :
    W T4 rc5_3 (Qt rs5 (.bool true)) [⟨3, .box x.av, True, false⟩, ⟨4, .box y.av, True, false⟩, ⟨7, U, True, false⟩, ⟨8, U', True, false⟩] := by
  have e6 := T12_eq x 0 (by decide)
  have e7 := T12_eq y 0 (by decide)
  have e8 := T17_eq x y hf
  simp only [Int.natCast_zero] at e6 e7
  have c1 : ((chk 0 x : Nat) : Int) = 0 ↔ chk 0 x = 0 := by omega
  have c2 : ((chk 0 y : Nat) : Int) = 0 ↔ chk 0 y = 0 := by omega
  obtain ⟨k, n, w, kids, names⟩ := x
  obtain ⟨k', n', w', kids', names'⟩ := y
  simp only [Nd.av] at e6 e7 e8 ⊢
  by_cases h1 : chk 0 (.mk k n w kids names) = 0 <;> by_cases h2 : chk 0 (.mk k' n' w' kids' names') = 0 <;> simp only [h1, h2] at c1 c2 hb <;> simp at hb <;>
  rcases hU with ⟨u, z, rfl⟩ | rfl <;> rcases hU' with ⟨u', z', rfl⟩ | rfl <;>
  simp [rc5_3, rs5, e6, e7, e8, e9, h1, h2, c1, c2, hb]
theorem looks2 (U U' V : AV) (hU : isI U) (hU' : isI U') (hV : isI V) (x y : Nd) (s : Tx) (hx : x.fine) (f : Bool) (i : Int) (e4 : T21 21 [U, .str s] = some (.tup [V, .bool f])) (e5 : find x s = i)
    (hc : (f = false ∧ i = -1 ∧ V = .nilI) ∨ ∃ (j : Nat) (h : j < x.kids.length), f = true ∧ i = j ∧ V = (own x.kids[j]).av ids)
    (next : W T4 rc5_3 (Qt rs5 (.bool true)) [⟨3, .box x.av, True, false⟩, ⟨4, .box y.av, True, false⟩, ⟨7, U, True, false⟩, ⟨8, U', True, false⟩]) :
    W T4 rc5_2 (Qt rs5 (.bool true)) [⟨2, .str s, True, false⟩, ⟨3, .box x.av, True, false⟩, ⟨4, .box y.av, True, false⟩, ⟨7, U, True, false⟩, ⟨8, U', True, false⟩] := by
  have hk : x.kids.length ≤ 1000000 := by obtain ⟨k, n, w, kids, names⟩ := x; rw [Nd.fine] at hx; exact hx.1
  have e6 := T22_eq x s hk
  rw [e5] at e6
  rcases hc with ⟨rfl, rfl, rfl⟩ | ⟨j, hj, rfl, rfl, rfl⟩
  · obtain ⟨k, n, w, kids, names⟩ := x
    obtain ⟨k', n', w', kids', names'⟩ := y
    simp only [Nd.av] at e6 next ⊢
    rcases hU with ⟨u, z, rfl⟩ | rfl <;> rcases hU' with ⟨u', z', rfl⟩ | rfl <;>
    simp [rc5_2, e4, e6, next]
  · have hkf := kid_at x j hj hx
    have o1 := T10_eq x.kids[j] hkf
    have o2 := T18_eq (own x.kids[j]) 0 ⟨by decide, own_fine _ hkf⟩
    have o3 := T17_eq (back 0 (own x.kids[j])) (back 0 (own x.kids[j])) (back_fine _ _ (own_fine _ hkf))
    rw [same_refl] at o3
    simp only [Int.natCast_zero] at o2
    have hg := avs_get x.kids j hj
    have hb : 5 ≤ x.kids.length * 5 - j * 5 := by omega
    have hj' : (j : Int) < x.kids.length := by omega
    obtain ⟨bk, hbk⟩ : ∃ bk, bk = back 0 (own x.kids[j]) := ⟨_, rfl⟩
    rw [← hbk] at o2 o3
    rw [← hg] at o1
    obtain ⟨V, hVe⟩ : ∃ V, V = (own x.kids[j]).av ids := ⟨_, rfl⟩
    rw [← hVe] at o1 o2 e4 hV
    obtain ⟨k, n, w, kids, names⟩ := x
    obtain ⟨k', n', w', kids', names'⟩ := y
    obtain ⟨k2, n2, w2, kids2, names2⟩ := bk
    simp only [Nd.av, Nd.kids] at e6 next o1 o2 o3 hb hj hj' hVe ⊢
    rcases hU with ⟨u, z, rfl⟩ | rfl <;> rcases hU' with ⟨u', z', rfl⟩ | rfl <;> rcases hV with ⟨v, c, rfl⟩ | rfl <;>
    simp [rc5_2, e4, e6, o1, o2, o3, hb, hj, hj', next]
theorem looks1 (U U' : AV) (hU : isI U) (hU' : isI U') (x y : Nd) (s : Tx) (b3 : Bool) (w3 : Tx) (m : BitVec 64) (b2 : Bool) (e3 : T20 20 [U] = some (.tup [.int .u64 (bv m), .bool b2]))
    (hc : match x with | .mk k n w _ _ => b3 = decide (k.toNat = 3) ∧ (w3 = if k.toNat = 3 then w else []) ∧ b2 = decide (k.toNat = 2) ∧ (m = if k.toNat = 2 then n else 0#64))
    (next : W T4 rc5_2 (Qt rs5 (.bool true)) [⟨2, .str s, True, false⟩, ⟨3, .box x.av, True, false⟩, ⟨4, .box y.av, True, false⟩, ⟨7, U, True, false⟩, ⟨8, U', True, false⟩]) :
    W T4 rc5_1 (Qt rs5 (.bool true)) [⟨2, .str s, True, false⟩, ⟨3, .box x.av, True, false⟩, ⟨4, .box y.av, True, false⟩, ⟨7, U, True, false⟩, ⟨8, U', True, false⟩, ⟨9, .str w3, True, false⟩, ⟨10, .bool b3, True, false⟩] := by
  obtain ⟨k, n, w, kids, names⟩ := x
  obtain ⟨k', n', w', kids', names'⟩ := y
  simp only [Nd.av] at next ⊢
  obtain ⟨rfl, rfl, rfl, rfl⟩ := hc
  rcases (show k.toNat = 3 ∨ k.toNat = 2 ∨ (k.toNat ≠ 3 ∧ k.toNat ≠ 2) by omega) with c | c | ⟨c, c'⟩
  · have d3 : (k.toNat : Int) = 3 := by omega
    have c2 : ¬ k.toNat = 2 := by omega
    rw [if_neg c2, decide_eq_false c2] at e3
    rw [if_pos c, decide_eq_true c]
    have z0 : bv 0#64 = 0 := rfl
    rw [z0] at e3
    rw [d3] at next ⊢
    rcases hU with ⟨u, z, rfl⟩ | rfl <;> rcases hU' with ⟨u', z', rfl⟩ | rfl <;>
    simp [rc5_1, e3, next]
  · have d2 : (k.toNat : Int) = 2 := by omega
    have c3 : ¬ k.toNat = 3 := by omega
    rw [if_pos c, decide_eq_true c] at e3
    rw [if_neg c3, decide_eq_false c3]
    rw [d2] at next ⊢
    rcases hU with ⟨u, z, rfl⟩ | rfl <;> rcases hU' with ⟨u', z', rfl⟩ | rfl <;>
    simp [rc5_1, e3, next]
  · have d3 : ¬ (k.toNat : Int) = 3 := by omega
    have d2 : ¬ (k.toNat : Int) = 2 := by omega
    rw [if_neg c', decide_eq_false c'] at e3
    rw [if_neg c, decide_eq_false c]
    have z0 : bv 0#64 = 0 := rfl
    rw [z0] at e3
    rcases hU with ⟨u, z, rfl⟩ | rfl <;> rcases hU' with ⟨u', z', rfl⟩ | rfl <;>
    simp [rc5_1, e3, d3, d2, next]
theorem pf5 (x : Nd) (y : Nd) (s : Tx)  : PFx Try.prog 5 [.agg x.av, .agg y.av, .str s] (.bool true) := by
  refine PFx_of_W (rc := rc5) (rs := rs5) Try.func5 rfl T4_ok hm (by kernel_rfl) (by kernel_rfl) (by simp [Try.ntmps5]) ?_
  have e0 := T8_eq x
  have e0' := T8_eq y
  cases ht : tooMuch x
  · rw [ht] at e0
    cases ht' : tooMuch y
    · rw [ht'] at e0'
      by_cases hl : (200 : Int) < s.length
      · obtain ⟨k, n, w, kids, names⟩ := x
        obtain ⟨k', n', w', kids', names'⟩ := y
        simp only [Nd.av] at e0 e0' ⊢
        simp [rc5, rs5, e0, e0', hl]
      · obtain ⟨hs, hf⟩ := much ht
        obtain ⟨hs', hf'⟩ := much ht'
        have e1 := T10_eq x hf
        have e1' := T10_eq y hf'
        have e2 := T19_eq (own x)
        have e3 := T20_eq (own x)
        have e4 := T21_eq (own x) s hs.1
        have e9 := T23_eq (own x) (own y) ⟨hs, hs'⟩
        have n3 := looks3 _ _ (isI_own (own x)) (isI_own (own y)) x y hf _ (sameV_own x y) e9
        have n2 := looks2 _ _ _ (isI_own (own x)) (isI_own (own y)) (isI_own (fdV (own x) s)) x y s hf _ _ e4 rfl (by
          unfold fdV fdB
          rcases find_spec x s with ⟨f1, f2⟩ | ⟨j, hj, f1, f2⟩
          · left; rw [f2]; exact ⟨rfl, f1, rfl⟩
          · right; exact ⟨j, hj, by rw [f2]; rfl, f1, by rw [f2]; rfl⟩) n3
        have n1 := looks1 _ _ (isI_own (own x)) (isI_own (own y)) x y s (isTx (own x)) (txV (own x)) (nuV (own x)) (isNu (own x)) e3 (by
          obtain ⟨k, n, w, kids, names⟩ := x
          exact ⟨own_str.1, own_str.2, own_num.1, own_num.2⟩) n2
        have fU := isI_own (own x)
        have fU' := isI_own (own y)
        generalize (own x).av ids = U at e1 e2 n1 fU
        generalize (own y).av ids = U' at e1' n1 fU'
        generalize isTx (own x) = b3 at e2 n1
        generalize txV (own x) = w3 at e2 n1
        obtain ⟨k, n, w, kids, names⟩ := x
        obtain ⟨k', n', w', kids', names'⟩ := y
        simp only [Nd.av] at e0 e0' e1 e1' n1 ⊢
        show W _ _ (Qt rs5 (.bool true)) _
        rcases fU with ⟨u, z, rfl⟩ | rfl <;> rcases fU' with ⟨u', z', rfl⟩ | rfl <;>
        simp [rc5, e0, e0', e1, e1', e2, hl, n1]
    · rw [ht'] at e0'
      obtain ⟨k, n, w, kids, names⟩ := x
      obtain ⟨k', n', w', kids', names'⟩ := y
      simp only [Nd.av] at e0 e0' ⊢
      simp [rc5, rs5, e0, e0']
  · rw [ht] at e0
    obtain ⟨k, n, w, kids, names⟩ := x
    obtain ⟨k', n', w', kids', names'⟩ := y
    simp only [Nd.av] at e0 ⊢
    simp [rc5, rs5, e0]
noncomputable def T5 : Tab := tabAdd T4 5 (fun _ : Nd × Nd × Tx => True) (fun z => [.agg z.1.av, .agg z.2.1.av, .str z.2.2]) (fun _ => .bool true)
@[simp] theorem T5_eq (x : Nd) (y : Nd) (s : Tx)  : T5 5 [.agg x.av, .agg y.av, .str s] = some (.bool true) := tabAdd_eq (a := (x, y, s)) (by intro a b _; rfl) trivial rfl
@[simp] theorem T5_ne {g : Nat} {xs : List AV} (h : g ≠ 5) : T5 g xs = T4 g xs := tabAdd_ne h
theorem T5_ok : Sound Try.prog T5 := tabAdd_sound T4_ok fun z _ => pf5 z.1 z.2.1 z.2.2 
end Go.Proofs.Ytbikpgaiocjnoaa

