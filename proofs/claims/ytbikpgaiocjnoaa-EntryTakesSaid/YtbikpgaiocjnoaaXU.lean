/- Bytes that end too early; nodes that are the same; how many bytes there are. No program is in here. -/
import Derived.Test.YtbikpgaiocjnoaaXV
set_option linter.unusedVariables false
set_option linter.unusedSimpArgs false
namespace Go.Proofs.Ytbikpgaiocjnoaa.Pad.En
mutual
/-- **Bytes that end too early are none's.** -/
theorem one_cut : ∀ (x : Nd) (d : Nat), d ≤ 4 → chk d x = 0 → ∀ (p : Tx) (n : Nat), n < (encN x).length → (oneN (4 - d) (p ++ (encN x).take n) p.length 0).2.2 = 3
  | .mk k v s kids names, d, hd, h, p, 0, hn => by
    obtain ⟨big, hbig⟩ : ∃ big, oneN (4 - d) = oneS big := by
      cases 4 - d with
      | zero => exact ⟨_, rfl⟩
      | succ g => exact ⟨_, rfl⟩
    have := takeNum_cut p [] 1 (by decide) (by decide) (by decide)
    rw [show ((1 : Nat) : Int) = 1 from rfl] at this
    rw [hbig, List.take_zero]
    unfold oneS
    rw [this, if_pos (by simp)]
  | .mk k v s kids names, d, hd, h, p, n + 1, hn => by
    obtain ⟨h1, h2, h3⟩ := chk_kind h
    have ho : ∃ big, oneN (4 - d) = oneS big ∧ (d < 4 → big = oneL (oneN (4 - (d + 1)))) := by
      rcases Nat.lt_or_ge d 4 with hlt | hge
      · obtain ⟨f, hf⟩ : ∃ f, 4 - d = f + 1 := ⟨4 - d - 1, by omega⟩
        exact ⟨_, by rw [hf]; rfl, fun _ => by rw [show 4 - (d + 1) = f by omega]⟩
      · exact ⟨_, by rw [show 4 - d = 0 by omega]; rfl, fun hh => by omega⟩
    obtain ⟨big, ho, hbig⟩ := ho
    rw [ho]
    have hk : k.toNat = 0 ∨ k.toNat = 1 ∨ k.toNat = 2 ∨ k.toNat = 3 ∨ k.toNat = 4 ∨ k.toNat = 5 := by omega
    rcases hk with hk | hk | hk | hk | hk | hk
    · have hE : encN (.mk k v s kids names) = [0] := by simp [encN, hk]
      rw [hE] at hn; simp at hn
    · have hE : (encN (.mk k v s kids names)).length = 1 := by by_cases hb : bv v = 1 <;> simp [encN, hk, hb]
      rw [hE] at hn; omega
    · have hE : encN (.mk k v s kids names) = 3 :: beB 8 v.toNat := by simp [encN, hk]
      rw [hE] at hn ⊢
      rw [List.take_succ_cons, oneS_at]
      have := takeNum_cut (p ++ [3]) ((beB 8 v.toNat).take n) 8 (by decide) (by decide) (by simp at hn ⊢; omega)
      rw [show ((8 : Nat) : Int) = 8 from rfl] at this
      rw [this]; simp
    · have hE : encN (.mk k v s kids names) = 4 :: rowB s := by simp [encN, hk]
      rw [hE] at hn ⊢
      rw [List.take_succ_cons, oneS_at, takeRow_cut (p ++ [4]) s n (h2 hk) (by simpa using hn)]; simp
    · obtain ⟨g1, g2, g3⟩ := h3 (by omega)
      have hE : encN (.mk k v s kids names) = 5 :: UInt8.ofNat kids.length :: encL false names 0 kids := by simp [encN, hk]
      rw [hE] at hn ⊢
      rw [List.take_succ_cons, oneS_at, hbig g1]
      have b5 : (5 : UInt8).toNat = 5 := rfl
      simp only [b5, show ¬ 6 < 5 by decide, show ¬ (5 : Nat) = 0 by decide, show ¬ 5 < 3 by decide, show ¬ (5 : Nat) = 3 by decide, show ¬ (5 : Nat) = 4 by decide, if_false]
      unfold oneL
      cases n with
      | zero =>
        have := takeNum_cut (p ++ [5]) [] 1 (by decide) (by decide) (by decide)
        rw [show ((1 : Nat) : Int) = 1 from rfl] at this
        rw [List.take_zero, this, if_neg (by simp)]
        exact itemsW_bad _ _ _ _ _ _ _ _ (by simp)
      | succ n =>
        have tk := take1 (p ++ [5]) ((encL false names 0 kids).take n) (UInt8.ofNat kids.length)
        rw [small_byte (by omega)] at tk
        rw [List.take_succ_cons, tk, if_neg (by omega)]
        have it := items_cut kids (d + 1) false names 0 (by omega) (by simpa [hk] using g3) (p ++ [5, UInt8.ofNat kids.length]) n [] [] (by simpa using hn) (fun hh => by cases hh)
        have e1 : (p ++ [5]) ++ UInt8.ofNat kids.length :: (encL false names 0 kids).take n = (p ++ [5, UInt8.ofNat kids.length]) ++ (encL false names 0 kids).take n := by simp
        have e2 : (p ++ [5, UInt8.ofNat kids.length]).length = (p ++ [5]).length + 1 := by simp
        rw [e1, ← e2]
        exact it
    · obtain ⟨g1, g2, g3⟩ := h3 (by omega)
      have hE : encN (.mk k v s kids names) = 6 :: UInt8.ofNat kids.length :: encL true names 0 kids := by simp [encN, hk]
      rw [hE] at hn ⊢
      rw [List.take_succ_cons, oneS_at, hbig g1]
      have b5 : (6 : UInt8).toNat = 6 := rfl
      simp only [b5, show ¬ 6 < 6 by decide, show ¬ (6 : Nat) = 0 by decide, show ¬ 6 < 3 by decide, show ¬ (6 : Nat) = 3 by decide, show ¬ (6 : Nat) = 4 by decide, if_false]
      unfold oneL
      cases n with
      | zero =>
        have := takeNum_cut (p ++ [6]) [] 1 (by decide) (by decide) (by decide)
        rw [show ((1 : Nat) : Int) = 1 from rfl] at this
        rw [List.take_zero, this, if_neg (by simp)]
        exact itemsW_bad _ _ _ _ _ _ _ _ (by simp)
      | succ n =>
        have tk := take1 (p ++ [6]) ((encL true names 0 kids).take n) (UInt8.ofNat kids.length)
        rw [small_byte (by omega)] at tk
        rw [List.take_succ_cons, tk, if_neg (by omega)]
        have it := items_cut kids (d + 1) true names 0 (by omega) (by simpa [hk] using g3) (p ++ [6, UInt8.ofNat kids.length]) n [] [] (by simpa using hn) (fun _ => ⟨rfl, fun hh => by omega⟩)
        have e1 : (p ++ [6]) ++ UInt8.ofNat kids.length :: (encL true names 0 kids).take n = (p ++ [6, UInt8.ofNat kids.length]) ++ (encL true names 0 kids).take n := by simp
        have e2 : (p ++ [6, UInt8.ofNat kids.length]).length = (p ++ [6]).length + 1 := by simp
        rw [e1, ← e2]
        exact it
theorem items_cut : ∀ (l : List Nd) (d : Nat) (q : Bool) (names : List Tx) (i : Nat), d ≤ 4 → chkL d q names i l = 0 → ∀ (p : Tx) (n : Nat) (ks : List Nd) (ns : List Tx), n < (encL q names i l).length → (q = true → ns.length = i ∧ (0 < i → nm ns (i - 1) = nm names (i - 1))) →
    (itemsW (oneN (4 - d)) (bif q then 6 else 5) (p ++ (encL q names i l).take n) l.length ks ns p.length 0).2.2 = 3
  | [], d, q, names, i, hd, h, p, n, ks, ns, hn, hq => by simp [encL] at hn
  | x :: l, d, q, names, i, hd, h, p, n, ks, ns, hn, hq => by
    obtain ⟨h1, h2, h3, h4⟩ := (chkL_cons ..).1 h
    rw [encL] at hn ⊢
    rw [List.length_cons, itemsW, if_neg (by simp)]
    cases q
    · simp only [cond_false, List.nil_append, if_neg (show ¬ (5 : Nat) = 6 by decide)] at hn ⊢
      by_cases hx : n < (encN x).length
      · have o := one_cut x d hd h3 p n hx
        rw [List.take_append_of_le_length (by omega), o]
        exact itemsW_bad _ _ _ _ _ _ _ _ (by decide)
      · obtain ⟨m, rfl⟩ : ∃ m, n = (encN x).length + m := ⟨n - (encN x).length, by omega⟩
        have o := one_enc x d hd h3 p ((encL false names (i + 1) l).take m)
        have it := items_cut l d false names (i + 1) hd h4 (p ++ encN x) m (ks ++ [nz x]) ns (by simp at hn; omega) (fun hh => by cases hh)
        rw [List.take_length_add_append, o]
        rw [List.append_assoc, List.length_append] at it
        simp only [cond_false] at it
        exact it
    · obtain ⟨q1, q2⟩ := hq rfl
      simp only [cond_true, if_pos (show (6 : Nat) = 6 from rfl)] at hn ⊢
      by_cases hr : n < (rowB (nm names i)).length
      · rw [List.take_append_of_le_length (by omega), takeRow_cut p (nm names i) n (h1 rfl) hr]
        simp
      · obtain ⟨n', rfl⟩ : ∃ m, n = (rowB (nm names i)).length + m := ⟨n - (rowB (nm names i)).length, by omega⟩
        have hless : ¬ (0 < ns.length ∧ Op.bytesLess (nm ns (ns.length - 1)) (nm names i) = false) := by
          rintro ⟨hp, hb⟩
          rw [q1, q2 (by omega), h2 rfl (by omega)] at hb
          cases hb
        rw [List.take_length_add_append]
        have rw1 := takeRow_row p (nm names i) ((encN x ++ encL true names (i + 1) l).take n') (h1 rfl)
        have e3 : ((p.length : Int) + 2 + ((nm names i).length : Int)) = ((p ++ rowB (nm names i)).length : Nat) := by simp; omega
        rw [e3, List.append_assoc] at rw1
        rw [rw1]
        simp only [true_and, if_neg hless, ne_eq, not_true_eq_false, if_false]
        by_cases hx : n' < (encN x).length
        · have o := one_cut x d hd h3 (p ++ rowB (nm names i)) n' hx
          rw [List.append_assoc] at o
          rw [List.take_append_of_le_length (by omega), o]
          exact itemsW_bad _ _ _ _ _ _ _ _ (by decide)
        · obtain ⟨m, rfl⟩ : ∃ m, n' = (encN x).length + m := ⟨n' - (encN x).length, by omega⟩
          have o := one_enc x d hd h3 (p ++ rowB (nm names i)) ((encL true names (i + 1) l).take m)
          have it := items_cut l d true names (i + 1) hd h4 ((p ++ rowB (nm names i)) ++ encN x) m (ks ++ [nz x]) (ns ++ [nm names i]) (by simp at hn; omega) (fun _ => ⟨by simp [q1], fun _ => by
            unfold nm; rw [Nat.add_sub_cancel, ← q1]; simp⟩)
          rw [List.append_assoc] at o
          rw [List.take_length_add_append, o]
          rw [List.append_assoc, List.append_assoc, List.length_append] at it
          simp only [cond_true] at it
          exact it
end
/-! ### What comes back is as it was -/
theorem chkL_names (d : Nat) (p : Bool) (na nb : List Tx) : ∀ (l : List Nd) (i : Nat), (p = true → ∀ j, j < i + l.length → nm na j = nm nb j) → chkL d p na i l = chkL d p nb i l
  | [], i, _ => by simp [chkL]
  | x :: l, i, h => by
    rw [chkL, chkL, chkL_names d p na nb l (i + 1) (fun hp j hj => h hp j (by simp at hj ⊢; omega))]
    cases p
    · simp
    · rw [h rfl i (by simp), h rfl (i - 1) (by simp; omega)]
mutual
theorem chk_nz : ∀ (x : Nd) (d : Nat), chk d (nz x) = chk d x
  | .mk k n s kids names, d => by
    unfold nz
    have hk : k.toNat = 0 ∨ k.toNat = 1 ∨ k.toNat = 2 ∨ k.toNat = 3 ∨ k.toNat = 4 ∨ k.toNat = 5 ∨ 5 < k.toNat := by omega
    rcases hk with hk | hk | hk | hk | hk | hk | hk
    · have hO : own (.mk k n s kids names) = .nil := by simp [own, hk]
      rw [hO]; simp [nodeOf, chk, hk]
    · have hO : own (.mk k n s kids names) = .bool (decide (bv n = 1)) := by simp [own, hk]
      rw [hO]; simp [nodeOf, chk, hk]
    · have hO : own (.mk k n s kids names) = .num n := by simp [own, hk]
      rw [hO]; simp [nodeOf, chk, hk]
    · have hO : own (.mk k n s kids names) = .str s := by simp [own, hk]
      rw [hO]; simp [nodeOf, chk, hk]
    · have hO : own (.mk k n s kids names) = .list (owns kids) := by simp [own, hk]
      rw [hO]; simp [nodeOf, chk, hk, nodes_owns, chk_nzL kids (d + 1) false [] 0, chkL_names (d + 1) false [] names kids 0 (fun hh => by cases hh)]
    · have hO : own (.mk k n s kids names) = .pairs (ownP names 0 kids) := by simp [own, hk]
      have e := chkL_names (d + 1) true (nms names 0 kids.length) names kids 0 (fun _ j hj => by
        have := nms_at names kids.length 0 j (by omega)
        rwa [Nat.zero_add] at this)
      rw [hO]; simp [nodeOf, chk, hk, nodeP_ownP, fst_ownP, chk_nzL kids (d + 1) true (nms names 0 kids.length) 0, e]
    · have hO : own (.mk k n s kids names) = .int k := by
        unfold own
        rw [if_neg (by omega), if_neg (by omega), if_neg (by omega), if_neg (by omega), if_neg (by omega), if_neg (by omega)]
      rw [hO]; simp [nodeOf, nd9, chk, hk]
theorem chk_nzL : ∀ (l : List Nd) (d : Nat) (p : Bool) (names : List Tx) (i : Nat), chkL d p names i (l.map nz) = chkL d p names i l
  | [], d, p, names, i => rfl
  | x :: l, d, p, names, i => by rw [List.map_cons, chkL, chkL, chk_nz x d, chk_nzL l d p names (i + 1)]
end
theorem encL_names (p : Bool) (na nb : List Tx) : ∀ (l : List Nd) (i : Nat), (p = true → ∀ j, j < i + l.length → nm na j = nm nb j) → encL p na i l = encL p nb i l
  | [], i, _ => by simp [encL]
  | x :: l, i, h => by
    rw [encL, encL, encL_names p na nb l (i + 1) (fun hp j hj => h hp j (by simp at hj ⊢; omega))]
    cases p
    · simp
    · rw [h rfl i (by simp)]
mutual
theorem enc_nz : ∀ (x : Nd) (d : Nat), chk d x = 0 → encN (nz x) = encN x
  | .mk k n s kids names, d, h => by
    obtain ⟨h1, _, h3⟩ := chk_kind h
    unfold nz
    have hk : k.toNat = 0 ∨ k.toNat = 1 ∨ k.toNat = 2 ∨ k.toNat = 3 ∨ k.toNat = 4 ∨ k.toNat = 5 := by omega
    rcases hk with hk | hk | hk | hk | hk | hk
    · have hO : own (.mk k n s kids names) = .nil := by simp [own, hk]
      rw [hO]; simp [nodeOf, encN, hk]
    · have hO : own (.mk k n s kids names) = .bool (decide (bv n = 1)) := by simp [own, hk]
      rw [hO]
      by_cases hb : bv n = 1
      · have hb' : ((n.toNat : Nat) : Int) = 1 := hb
        simp [nodeOf, encN, hk, hb', bv]
      · have hb' : ¬ ((n.toNat : Nat) : Int) = 1 := hb
        simp [nodeOf, encN, hk, hb', bv]
    · have hO : own (.mk k n s kids names) = .num n := by simp [own, hk]
      rw [hO]; simp [nodeOf, encN, hk]
    · have hO : own (.mk k n s kids names) = .str s := by simp [own, hk]
      rw [hO]; simp [nodeOf, encN, hk]
    · have hO : own (.mk k n s kids names) = .list (owns kids) := by simp [own, hk]
      have g := (h3 (by omega)).2.2
      rw [hO]; simp [nodeOf, encN, hk, nodes_owns, enc_nzL kids (d + 1) (decide (k.toNat = 5)) names 0 g false [] 0, encL_names false [] names kids 0 (fun hh => by cases hh)]
    · have hO : own (.mk k n s kids names) = .pairs (ownP names 0 kids) := by simp [own, hk]
      have g := (h3 (by omega)).2.2
      have e := encL_names true (nms names 0 kids.length) names kids 0 (fun _ j hj => by
        have := nms_at names kids.length 0 j (by omega)
        rwa [Nat.zero_add] at this)
      rw [hO]; simp [nodeOf, encN, hk, nodeP_ownP, fst_ownP, enc_nzL kids (d + 1) (decide (k.toNat = 5)) names 0 g true (nms names 0 kids.length) 0, e]
theorem enc_nzL : ∀ (l : List Nd) (d : Nat) (p : Bool) (names : List Tx) (i : Nat), chkL d p names i l = 0 → ∀ (q : Bool) (ns : List Tx) (j : Nat), encL q ns j (l.map nz) = encL q ns j l
  | [], d, p, names, i, _, _, _, _ => rfl
  | x :: l, d, p, names, i, h, q, ns, j => by
    obtain ⟨_, _, h3, h4⟩ := (chkL_cons ..).1 h
    rw [List.map_cons, encL, encL, enc_nz x d h3, enc_nzL l d p names (i + 1) h4 q ns (j + 1)]
end
/-- The node of a value, where it isn't too deep. -/
theorem back_fits : ∀ (v : Vl) (d : Nat), d ≤ 4 → chk d (nodeOf v) = 0 → back d v = nodeOf v := by
  suffices key : ∀ (n : Nat) (v : Vl), v.sz < n → ∀ d, d ≤ 4 → chk d (nodeOf v) = 0 → back d v = nodeOf v from fun v => key (v.sz + 1) v (Nat.lt_succ_self _)
  intro n
  induction n with
  | zero => intro v h; omega
  | succ n ih =>
    intro v hv d hd h
    have h8 : ¬ 8 < d := by omega
    cases v with
    | nil => simp [back, nodeOf, h8]
    | bool b => simp [back, nodeOf, h8]
    | num x => simp [back, nodeOf, h8]
    | str s => simp [back, nodeOf, h8]
    | int k => simp [back, nodeOf]
    | list l =>
      rw [nodeOf] at h ⊢
      obtain ⟨_, _, h3⟩ := chk_kind h
      obtain ⟨g1, _, g3⟩ := h3 (by decide)
      have hnm : ∀ l, nodes l = l.map nodeOf := by
        intro l
        induction l with
        | nil => rfl
        | cons x l ih => rw [nodes, ih]; rfl
      rw [back, if_neg h8, backs_map, hnm]
      congr 1
      apply List.map_congr_left
      intro x hx
      have key : ∀ (l : List Vl) (i : Nat) (p : Bool) (names : List Tx), chkL (d + 1) p names i (l.map nodeOf) = 0 → ∀ x ∈ l, chk (d + 1) (nodeOf x) = 0 := by
        intro l
        induction l with
        | nil => intro _ _ _ _ x hx; simp at hx
        | cons y l ih =>
          intro i p names hc x hx
          rw [List.map_cons] at hc
          obtain ⟨_, _, c3, c4⟩ := (chkL_cons ..).1 hc
          rcases List.mem_cons.1 hx with rfl | hx
          · exact c3
          · exact ih _ _ _ c4 x hx
      obtain ⟨i, hi, rfl⟩ := List.getElem_of_mem hx
      have := size_item hi
      refine ih _ (by omega) (d + 1) (by omega) (key l 0 _ _ (hnm l ▸ g3) _ hx)
    | pairs l =>
      rw [nodeOf] at h ⊢
      obtain ⟨_, _, h3⟩ := chk_kind h
      obtain ⟨g1, _, g3⟩ := h3 (by decide)
      have hnm : ∀ l, nodeP l = l.map fun p => nodeOf p.2 := by
        intro l
        induction l with
        | nil => rfl
        | cons x l ih => obtain ⟨s, v⟩ := x; rw [nodeP, ih]; rfl
      rw [back, if_neg h8, backP_map, hnm]
      congr 1
      apply List.map_congr_left
      intro x hx
      have key : ∀ (l : List (Tx × Vl)) (i : Nat) (p : Bool) (names : List Tx), chkL (d + 1) p names i (l.map fun p => nodeOf p.2) = 0 → ∀ x ∈ l, chk (d + 1) (nodeOf x.2) = 0 := by
        intro l
        induction l with
        | nil => intro _ _ _ _ x hx; simp at hx
        | cons y l ih =>
          intro i p names hc x hx
          rw [List.map_cons] at hc
          obtain ⟨_, _, c3, c4⟩ := (chkL_cons ..).1 hc
          rcases List.mem_cons.1 hx with rfl | hx
          · exact c3
          · exact ih _ _ _ c4 x hx
      obtain ⟨i, hi, rfl⟩ := List.getElem_of_mem hx
      have := size_pair hi
      refine ih _ (by omega) (d + 1) (by omega) (key l 0 _ _ (hnm l ▸ g3) _ hx)
end Go.Proofs.Ytbikpgaiocjnoaa.Pad.En
