/- Values as bytes, and values taken of bytes. No program is in here. -/
import Derived.Test.YtbikpgaiocjnoaaXM
import Derived.Test.YtbikpgaiocjnoaaQW
set_option linter.unusedVariables false
set_option linter.unusedSimpArgs false
namespace Go.Proofs.Ytbikpgaiocjnoaa.Pad.En
mutual
/-- A value's bytes. -/
def encN : Nd → Tx
  | .mk k n s kids names => if k.toNat = 0 then [0] else if k.toNat = 1 then (if bv n = 1 then [2] else [1]) else if k.toNat = 2 then 3 :: beB 8 n.toNat else if k.toNat = 3 then 4 :: rowB s
    else UInt8.ofNat (k.toNat + 1) :: UInt8.ofNat kids.length :: encL (decide (k.toNat = 5)) names 0 kids
def encL (p : Bool) (names : List Tx) (i : Nat) : List Nd → Tx
  | [] => []
  | x :: xs => (bif p then rowB (nm names i) else []) ++ (encN x ++ encL p names (i + 1) xs)
end
mutual
/-- The node of a value, however deep. -/
def nodeOf : Vl → Nd
  | .nil => .mk 0 0 [] [] []
  | .bool b => .mk 1 (if b then 1 else 0) [] [] []
  | .num n => .mk 2 n [] [] []
  | .str s => .mk 3 0 s [] []
  | .list l => .mk 4 0 [] (nodes l) []
  | .pairs l => .mk 5 0 [] (nodeP l) (l.map Prod.fst)
  | .int _ => nd9
def nodes : List Vl → List Nd
  | [] => []
  | x :: xs => nodeOf x :: nodes xs
def nodeQ : Tx × Vl → Nd
  | (_, v) => nodeOf v
def nodeP : List (Tx × Vl) → List Nd
  | [] => []
  | x :: xs => nodeQ x :: nodeP xs
end
/-- A node as it comes back. -/
def nz (x : Nd) : Nd := nodeOf (own x)
def nms (names : List Tx) (i : Nat) : Nat → List Tx
  | 0 => []
  | m + 1 => nm names i :: nms names (i + 1) m
theorem nodes_owns : ∀ l : List Nd, nodes (owns l) = l.map nz
  | [] => rfl
  | x :: l => by rw [owns, nodes, nodes_owns l]; rfl
theorem nodeP_ownP (names : List Tx) : ∀ (l : List Nd) (i : Nat), nodeP (ownP names i l) = l.map nz
  | [], _ => rfl
  | x :: l, i => by rw [ownP, nodeP, nodeP_ownP names l]; rfl
theorem fst_ownP (names : List Tx) : ∀ (l : List Nd) (i : Nat), (ownP names i l).map Prod.fst = nms names i l.length
  | [], _ => rfl
  | x :: l, i => by rw [ownP, List.map_cons, fst_ownP names l]; rfl
@[simp] theorem nms_len (names : List Tx) : ∀ (m i : Nat), (nms names i m).length = m
  | 0, _ => rfl
  | m + 1, i => by rw [nms, List.length_cons, nms_len names m]
theorem nms_at (names : List Tx) : ∀ (m i j : Nat), j < m → nm (nms names i m) j = nm names (i + j)
  | m + 1, i, 0, _ => rfl
  | m + 1, i, j + 1, h => by
    have := nms_at names m (i + 1) j (by omega)
    rw [show i + (j + 1) = i + 1 + j by omega, ← this]; rfl
theorem chkL_cons (d : Nat) (p : Bool) (names : List Tx) (i : Nat) (x : Nd) (xs : List Nd) : chkL d p names i (x :: xs) = 0 ↔ (p = true → (nm names i).length ≤ 65535) ∧ (p = true → 0 < i → Op.bytesLess (nm names (i - 1)) (nm names i) = true) ∧ chk d x = 0 ∧ chkL d p names (i + 1) xs = 0 := by
  rw [chkL]
  constructor
  · intro h
    split at h
    · cases h
    · split at h
      · cases h
      · split at h
        · rename_i hh; exact (hh h).elim
        · rename_i h1 h2 h3
          refine ⟨fun hp => (Nat.lt_or_ge 65535 (nm names i).length).elim (fun hl => (h1 ⟨hp, hl⟩).elim) id, fun hp hi => ?_, by omega, h⟩
          cases hb : Op.bytesLess (nm names (i - 1)) (nm names i)
          · exact (h2 ⟨hp, hi, hb⟩).elim
          · rfl
  · rintro ⟨h1, h2, h3, h4⟩
    rw [if_neg (show ¬ (p = true ∧ 65535 < (nm names i).length) from fun ⟨a, b⟩ => by have := h1 a; omega), if_neg (fun hh => by rw [h2 hh.1 hh.2.1] at hh; cases hh.2.2), if_neg (by omega)]
    exact h4
theorem chk_kind {d : Nat} {k : UInt8} {n : BitVec 64} {s : Tx} {kids : List Nd} {names : List Tx} (h : chk d (.mk k n s kids names) = 0) : k.toNat ≤ 5 ∧ (k.toNat = 3 → s.length ≤ 65535) ∧ (4 ≤ k.toNat → d < 4 ∧ kids.length ≤ 64 ∧ chkL (d + 1) (decide (k.toNat = 5)) names 0 kids = 0) := by
  rw [chk] at h
  split at h
  · cases h
  · split at h
    · cases h
    · split at h
      · exact ⟨by omega, by omega, by omega⟩
      · split at h
        · cases h
        · split at h
          · cases h
          · exact ⟨by omega, by omega, fun _ => ⟨by omega, by omega, h⟩⟩
/-! ### Taken of bytes -/
def nd0 : Nd := .mk 0 0 [] [] []
def itemsW (rec : Tx → Int → Int → Nd × Int × Int) (k : Nat) (t : Tx) : Nat → List Nd → List Tx → Int → Int → Nd × Int × Int
  | 0, kids, names, a, b => (.mk (UInt8.ofNat (k - 1)) 0 [] kids names, a, b)
  | m + 1, kids, names, a, b => if b ≠ 0 then (.mk (UInt8.ofNat (k - 1)) 0 [] kids names, a, b) else if k = 6 then
      (if (if (takeRow t a b).2.2 = 0 ∧ 0 < names.length ∧ Op.bytesLess (nm names (names.length - 1)) (takeRow t a b).1 = false then 4 else (takeRow t a b).2.2) ≠ 0 then
        (nd0, (takeRow t a b).2.1, if (takeRow t a b).2.2 = 0 ∧ 0 < names.length ∧ Op.bytesLess (nm names (names.length - 1)) (takeRow t a b).1 = false then 4 else (takeRow t a b).2.2)
      else itemsW rec k t m (kids ++ [(rec t (takeRow t a b).2.1 0).1]) (names ++ [(takeRow t a b).1]) (rec t (takeRow t a b).2.1 0).2.1 (rec t (takeRow t a b).2.1 0).2.2)
    else itemsW rec k t m (kids ++ [(rec t a b).1]) names (rec t a b).2.1 (rec t a b).2.2
def oneL (rec : Tx → Int → Int → Nd × Int × Int) (k : Nat) (t : Tx) (a b : Int) : Nd × Int × Int :=
  itemsW rec k t (takeNum t a b 1).1 [] [] (takeNum t a b 1).2.1 (if (takeNum t a b 1).2.2 = 0 ∧ 64 < (takeNum t a b 1).1 then 5 else (takeNum t a b 1).2.2)
def oneS (big : Nat → Tx → Int → Int → Nd × Int × Int) (t : Tx) (a b : Int) : Nd × Int × Int :=
  if (takeNum t a b 1).2.2 ≠ 0 then (nd0, (takeNum t a b 1).2.1, (takeNum t a b 1).2.2) else if 6 < (takeNum t a b 1).1 then (nd0, (takeNum t a b 1).2.1, 22)
  else if (takeNum t a b 1).1 = 0 then (nd0, (takeNum t a b 1).2.1, (takeNum t a b 1).2.2) else if (takeNum t a b 1).1 < 3 then (.mk 1 (BitVec.ofNat 64 ((takeNum t a b 1).1 - 1)) [] [] [], (takeNum t a b 1).2.1, (takeNum t a b 1).2.2)
  else if (takeNum t a b 1).1 = 3 then (.mk 2 (BitVec.ofNat 64 (takeNum t (takeNum t a b 1).2.1 (takeNum t a b 1).2.2 8).1) [] [] [], (takeNum t (takeNum t a b 1).2.1 (takeNum t a b 1).2.2 8).2.1, (takeNum t (takeNum t a b 1).2.1 (takeNum t a b 1).2.2 8).2.2)
  else if (takeNum t a b 1).1 = 4 then (.mk 3 0 (takeRow t (takeNum t a b 1).2.1 (takeNum t a b 1).2.2).1 [] [], (takeRow t (takeNum t a b 1).2.1 (takeNum t a b 1).2.2).2.1, (takeRow t (takeNum t a b 1).2.1 (takeNum t a b 1).2.2).2.2)
  else big (takeNum t a b 1).1 t (takeNum t a b 1).2.1 (takeNum t a b 1).2.2
/-- A value, where so many may still be within one another. -/
def oneN : Nat → Tx → Int → Int → Nd × Int × Int
  | 0 => oneS fun _ _ a _ => (nd0, a, 24)
  | f + 1 => oneS (oneL (oneN f))
theorem take1 (p r : Tx) (x : UInt8) : takeNum (p ++ x :: r) p.length 0 1 = (x.toNat, ((p.length + 1 : Nat) : Int), 0) := by
  unfold takeNum
  rw [if_neg (by simp), if_neg (by simp; omega), if_neg (by simp; omega)]
  have : ((p ++ x :: r).drop ((p.length : Int)).toNat).take ((1 : Int)).toNat = [x] := by
    rw [Int.toNat_natCast, List.drop_left]; rfl
  rw [this]
  simp [numOf]
/-- What one begins with, a byte on. -/
theorem oneS_at (big : Nat → Tx → Int → Int → Nd × Int × Int) (p r : Tx) (x : UInt8) : oneS big (p ++ x :: r) p.length 0 =
    if 6 < x.toNat then (nd0, ((p ++ [x]).length : Int), 22) else if x.toNat = 0 then (nd0, ((p ++ [x]).length : Int), 0) else if x.toNat < 3 then (.mk 1 (BitVec.ofNat 64 (x.toNat - 1)) [] [] [], ((p ++ [x]).length : Int), 0)
    else if x.toNat = 3 then (.mk 2 (BitVec.ofNat 64 (takeNum ((p ++ [x]) ++ r) (p ++ [x]).length 0 8).1) [] [] [], (takeNum ((p ++ [x]) ++ r) (p ++ [x]).length 0 8).2.1, (takeNum ((p ++ [x]) ++ r) (p ++ [x]).length 0 8).2.2)
    else if x.toNat = 4 then (.mk 3 0 (takeRow ((p ++ [x]) ++ r) (p ++ [x]).length 0).1 [] [], (takeRow ((p ++ [x]) ++ r) (p ++ [x]).length 0).2.1, (takeRow ((p ++ [x]) ++ r) (p ++ [x]).length 0).2.2)
    else big x.toNat ((p ++ [x]) ++ r) (p ++ [x]).length 0 := by
  have e : p ++ x :: r = (p ++ [x]) ++ r := by simp
  have h := take1 p r x
  have hl : (p ++ [x]).length = p.length + 1 := by simp
  unfold oneS
  rw [h]
  simp only [ne_eq, not_true_eq_false, if_false, e, hl]
theorem small_byte {k : Nat} (h : k < 256) : (UInt8.ofNat k).toNat = k := by rw [UInt8.toNat_ofNat']; omega
mutual
/-- **Bytes of a value are taken as that value.** -/
theorem one_enc : ∀ (x : Nd) (d : Nat), d ≤ 4 → chk d x = 0 → ∀ p r : Tx, oneN (4 - d) (p ++ (encN x ++ r)) p.length 0 = (nz x, ((p.length + (encN x).length : Nat) : Int), 0)
  | .mk k n s kids names, d, hd, h, p, r => by
    obtain ⟨h1, h2, h3⟩ := chk_kind h
    have ho : ∃ big, oneN (4 - d) = oneS big ∧ (d < 4 → big = oneL (oneN (4 - (d + 1)))) := by
      rcases Nat.lt_or_ge d 4 with hlt | hge
      · obtain ⟨f, hf⟩ : ∃ f, 4 - d = f + 1 := ⟨4 - d - 1, by omega⟩
        exact ⟨_, by rw [hf]; rfl, fun _ => by rw [show 4 - (d + 1) = f by omega]⟩
      · exact ⟨_, by rw [show 4 - d = 0 by omega]; rfl, fun hh => by omega⟩
    obtain ⟨big, ho, hbig⟩ := ho
    rw [ho]
    unfold nz
    have hk : k.toNat = 0 ∨ k.toNat = 1 ∨ k.toNat = 2 ∨ k.toNat = 3 ∨ k.toNat = 4 ∨ k.toNat = 5 := by omega
    rcases hk with hk | hk | hk | hk | hk | hk
    · have hE : encN (.mk k n s kids names) = [0] := by simp [encN, hk]
      have hO : own (.mk k n s kids names) = .nil := by simp [own, hk]
      rw [hE, hO]
      simp only [List.cons_append, List.nil_append]
      rw [oneS_at]; simp [nodeOf, nd0]
    · by_cases hb : bv n = 1
      · have hE : encN (.mk k n s kids names) = [2] := by simp [encN, hk, hb]
        have hO : own (.mk k n s kids names) = .bool true := by simp [own, hk, hb]
        rw [hE, hO]
        simp only [List.cons_append, List.nil_append]
        rw [oneS_at]; simp [nodeOf, nd0]
      · have hE : encN (.mk k n s kids names) = [1] := by simp [encN, hk, hb]
        have hO : own (.mk k n s kids names) = .bool false := by simp [own, hk, hb]
        rw [hE, hO]
        simp only [List.cons_append, List.nil_append]
        rw [oneS_at]; simp [nodeOf, nd0]
    · have hE : encN (.mk k n s kids names) = 3 :: beB 8 n.toNat := by simp [encN, hk]
      have hO : own (.mk k n s kids names) = .num n := by simp [own, hk]
      rw [hE, hO]
      simp only [List.cons_append]
      have e := takeNum_be (p ++ [3]) r 8 n.toNat (by decide) (by decide)
      rw [List.append_assoc] at e
      rw [oneS_at]
      simp only [show ((8 : Nat) : Int) = 8 from rfl] at e
      rw [e]
      have hn : n.toNat % 256 ^ 8 = n.toNat := Nat.mod_eq_of_lt n.isLt
      simp [nodeOf, hn]
      omega
    · have hE : encN (.mk k n s kids names) = 4 :: rowB s := by simp [encN, hk]
      have hO : own (.mk k n s kids names) = .str s := by simp [own, hk]
      rw [hE, hO]
      simp only [List.cons_append]
      have e := takeRow_row (p ++ [4]) s r (h2 hk)
      rw [List.append_assoc] at e
      rw [oneS_at, e]
      simp [nodeOf]
      omega
    · obtain ⟨g1, g2, g3⟩ := h3 (by omega)
      have it := items_enc kids (d + 1) false names 0 (by omega) (by simpa [hk] using g3) (p ++ [5, UInt8.ofNat kids.length]) r [] [] (fun hh => by cases hh)
      have hE : encN (.mk k n s kids names) = 5 :: UInt8.ofNat kids.length :: encL false names 0 kids := by simp [encN, hk]
      have hO : own (.mk k n s kids names) = .list (owns kids) := by simp [own, hk]
      rw [hE, hO]
      simp only [List.cons_append]
      rw [oneS_at, hbig g1]
      have b5 : (5 : UInt8).toNat = 5 := rfl
      have tk := take1 (p ++ [5]) (encL false names 0 kids ++ r) (UInt8.ofNat kids.length)
      have hl := small_byte (k := kids.length) (by omega)
      rw [hl] at tk
      simp only [b5, show ¬ 6 < 5 by decide, show ¬ (5 : Nat) = 0 by decide, show ¬ 5 < 3 by decide, show ¬ (5 : Nat) = 3 by decide, show ¬ (5 : Nat) = 4 by decide, if_false]
      unfold oneL
      rw [tk]
      have e1 : (p ++ [5]) ++ UInt8.ofNat kids.length :: (encL false names 0 kids ++ r) = (p ++ [5, UInt8.ofNat kids.length]) ++ (encL false names 0 kids ++ r) := by simp
      have e2 : (p ++ [5, UInt8.ofNat kids.length]).length = (p ++ [5]).length + 1 := by simp
      rw [e1, if_neg (by omega), ← e2]
      simp only [cond_false] at it
      rw [it]
      simp [nodeOf, nodes_owns]
      omega
    · obtain ⟨g1, g2, g3⟩ := h3 (by omega)
      have it := items_enc kids (d + 1) true names 0 (by omega) (by simpa [hk] using g3) (p ++ [6, UInt8.ofNat kids.length]) r [] [] (fun _ => ⟨rfl, fun hh => by omega⟩)
      have hE : encN (.mk k n s kids names) = 6 :: UInt8.ofNat kids.length :: encL true names 0 kids := by simp [encN, hk]
      have hO : own (.mk k n s kids names) = .pairs (ownP names 0 kids) := by simp [own, hk]
      rw [hE, hO]
      simp only [List.cons_append]
      rw [oneS_at, hbig g1]
      have b5 : (6 : UInt8).toNat = 6 := rfl
      have tk := take1 (p ++ [6]) (encL true names 0 kids ++ r) (UInt8.ofNat kids.length)
      have hl := small_byte (k := kids.length) (by omega)
      rw [hl] at tk
      simp only [b5, show ¬ 6 < 6 by decide, show ¬ (6 : Nat) = 0 by decide, show ¬ 6 < 3 by decide, show ¬ (6 : Nat) = 3 by decide, show ¬ (6 : Nat) = 4 by decide, if_false]
      unfold oneL
      rw [tk]
      have e1 : (p ++ [6]) ++ UInt8.ofNat kids.length :: (encL true names 0 kids ++ r) = (p ++ [6, UInt8.ofNat kids.length]) ++ (encL true names 0 kids ++ r) := by simp
      have e2 : (p ++ [6, UInt8.ofNat kids.length]).length = (p ++ [6]).length + 1 := by simp
      rw [e1, if_neg (by omega), ← e2]
      simp only [cond_true] at it
      rw [it]
      simp [nodeOf, nodeP_ownP, fst_ownP]
      omega
theorem items_enc : ∀ (l : List Nd) (d : Nat) (q : Bool) (names : List Tx) (i : Nat), d ≤ 4 → chkL d q names i l = 0 → ∀ (p r : Tx) (ks : List Nd) (ns : List Tx), (q = true → ns.length = i ∧ (0 < i → nm ns (i - 1) = nm names (i - 1))) →
    itemsW (oneN (4 - d)) (bif q then 6 else 5) (p ++ (encL q names i l ++ r)) l.length ks ns p.length 0 = (.mk (bif q then 5 else 4) 0 [] (ks ++ l.map nz) (ns ++ (bif q then nms names i l.length else [])), ((p.length + (encL q names i l).length : Nat) : Int), 0)
  | [], d, q, names, i, hd, h, p, r, ks, ns, hq => by
    rw [List.length_nil, itemsW, encL]
    cases q <;> simp [nms]
  | x :: l, d, q, names, i, hd, h, p, r, ks, ns, hq => by
    obtain ⟨h1, h2, h3, h4⟩ := (chkL_cons ..).1 h
    rw [List.length_cons, itemsW, encL, if_neg (by simp)]
    cases q
    · have o := one_enc x d hd h3 p (encL false names (i + 1) l ++ r)
      have it := items_enc l d false names (i + 1) hd h4 (p ++ encN x) r (ks ++ [nz x]) ns (fun hh => by cases hh)
      simp only [cond_false, List.nil_append, if_neg (show ¬ (5 : Nat) = 6 by decide)]
      have e : p ++ (encN x ++ encL false names (i + 1) l ++ r) = p ++ (encN x ++ (encL false names (i + 1) l ++ r)) := by simp
      rw [e, o]
      have e2 : (p ++ encN x) ++ (encL false names (i + 1) l ++ r) = p ++ (encN x ++ (encL false names (i + 1) l ++ r)) := by simp
      rw [e2, List.length_append] at it
      simp only [cond_false] at it
      rw [it]
      simp [Nat.add_assoc]
    · obtain ⟨q1, q2⟩ := hq rfl
      have o := one_enc x d hd h3 (p ++ rowB (nm names i)) (encL true names (i + 1) l ++ r)
      have rw1 := takeRow_row p (nm names i) (encN x ++ (encL true names (i + 1) l ++ r)) (h1 rfl)
      have it := items_enc l d true names (i + 1) hd h4 ((p ++ rowB (nm names i)) ++ encN x) r (ks ++ [nz x]) (ns ++ [nm names i]) (fun _ => ⟨by simp [q1], fun _ => by
        unfold nm; rw [Nat.add_sub_cancel, ← q1]; simp⟩)
      simp only [cond_true, if_pos (show (6 : Nat) = 6 from rfl)]
      have e : p ++ (rowB (nm names i) ++ (encN x ++ encL true names (i + 1) l) ++ r) = (p ++ rowB (nm names i)) ++ (encN x ++ (encL true names (i + 1) l ++ r)) := by simp
      rw [List.length_append, rowB_len] at o
      have e3 : ((p.length : Int) + 2 + ((nm names i).length : Int)) = ((p.length + (2 + (nm names i).length) : Nat) : Int) := by omega
      rw [e3] at rw1
      rw [e, rw1]
      simp only
      rw [o]
      have hless : ¬ (0 = (0 : Int) ∧ 0 < ns.length ∧ Op.bytesLess (nm ns (ns.length - 1)) (nm names i) = false) := by
        rintro ⟨_, hp, hb⟩
        rw [q1, q2 (by omega), h2 rfl (by omega)] at hb
        cases hb
      simp only [if_neg hless, ne_eq, not_true_eq_false, if_false]
      have e2 : ((p ++ rowB (nm names i)) ++ encN x) ++ (encL true names (i + 1) l ++ r) = (p ++ rowB (nm names i)) ++ (encN x ++ (encL true names (i + 1) l ++ r)) := by simp
      rw [e2, List.length_append, List.length_append, rowB_len] at it
      simp only [cond_true] at it
      rw [it]
      simp [nms, Nat.add_assoc]
      intro h0 hb
      rw [q1, q2 (by omega), h2 rfl (by omega)] at hb
      cases hb
end
end Go.Proofs.Ytbikpgaiocjnoaa.Pad.En
