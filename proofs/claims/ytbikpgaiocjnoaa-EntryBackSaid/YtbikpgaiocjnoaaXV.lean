/- What was taken of bytes has those bytes; bytes that end too early. No program is in here. -/
import Derived.Test.YtbikpgaiocjnoaaXW
set_option linter.unusedVariables false
set_option linter.unusedSimpArgs false
namespace Go.Proofs.Ytbikpgaiocjnoaa.Pad
theorem takeNum_dec {t : List UInt8} {a : Int} {k : Nat} (h : (takeNum t a 0 k).2.2 = 0) : 0 ≤ a ∧ (takeNum t a 0 k).2.1 = a + k ∧ ∃ e, t.drop a.toNat = beB k (takeNum t a 0 k).1 ++ e := by
  obtain ⟨_, h1, h2, h3, h4, h5, h6⟩ := takeNum_ok h
  refine ⟨h1, h4, (t.drop a.toNat).drop k, ?_⟩
  have hl : ((t.drop a.toNat).take k).length = k := by simp; omega
  have := be_numOf ((t.drop a.toNat).take k)
  rw [hl] at this
  rw [h6, Int.toNat_natCast, this, List.take_append_drop]
theorem takeRow_dec {t : List UInt8} {a : Int} (h : (takeRow t a 0).2.2 = 0) : 0 ≤ a ∧ (takeRow t a 0).2.1 = a + 2 + (takeRow t a 0).1.length ∧ (takeRow t a 0).1.length ≤ 65535 ∧ ∃ e, t.drop a.toNat = rowB (takeRow t a 0).1 ++ e := by
  unfold takeRow at h ⊢
  by_cases h1 : (takeNum t a 0 2).2.2 = 0
  · rw [if_neg (by simpa using h1)] at h ⊢
    obtain ⟨g1, g2, e, g3⟩ := takeNum_dec (k := 2) h1
    rw [show ((2 : Nat) : Int) = 2 from rfl] at g2 g3
    have hlt := takeNum_lt2 (t := t) (a := a) (b := 0)
    by_cases h2 : (t.length : Int) - (takeNum t a 0 2).2.1 < (takeNum t a 0 2).1
    · rw [if_pos h2] at h; cases h
    · rw [if_neg h2] at h ⊢
      rw [g2] at h2 ⊢
      have ht : ((t.take (a + 2 + ((takeNum t a 0 2).1 : Int)).toNat).drop (a + 2).toNat).length = (takeNum t a 0 2).1 := by simp; omega
      refine ⟨g1, by simp only [ht], by simp only [ht]; omega, ?_⟩
      simp only
      have e2 : (a + 2).toNat = a.toNat + 2 := by omega
      have hd : t.drop (a + 2).toNat = e := by
        rw [e2, ← List.drop_drop, g3]; exact List.drop_left' (by simp)
      refine ⟨e.drop (takeNum t a 0 2).1, ?_⟩
      unfold rowB
      rw [ht, g3, List.append_assoc, List.drop_take, hd, show (a + 2 + ((takeNum t a 0 2).1 : Int)).toNat - (a + 2).toNat = (takeNum t a 0 2).1 by omega, List.take_append_drop]
  · rw [if_pos (by simpa using h1)] at h; exact (h1 h).elim
/-- Bytes that end too early. -/
theorem takeNum_cut (p l : List UInt8) (k : Nat) (h1 : 1 ≤ k) (h8 : k ≤ 8) (h : l.length < k) : takeNum (p ++ l) p.length 0 k = (0, (p.length : Int), 3) := by
  unfold takeNum
  rw [if_neg (by simp), if_neg (by simp; omega), if_pos (by simp; omega)]
theorem takeRow_cut (p s : List UInt8) (n : Nat) (hs : s.length ≤ 65535) (h : n < (rowB s).length) : takeRow (p ++ (rowB s).take n) p.length 0 = ([], (p.length : Int), 3) := by
  rw [rowB_len] at h
  have hl : ((rowB s).take n).length = n := by simp; omega
  by_cases h2 : n < 2
  · have := takeNum_cut p ((rowB s).take n) 2 (by decide) (by decide) (by omega)
    rw [show ((2 : Nat) : Int) = 2 from rfl] at this
    unfold takeRow
    rw [this, if_pos (by simp)]
  · have e1 : (rowB s).take n = beB 2 s.length ++ s.take (n - 2) := by
      unfold rowB
      rw [List.take_append, List.take_of_length_le (by simp; omega)]; simp
    have e2 := takeNum_be p (s.take (n - 2)) 2 s.length (by decide) (by decide)
    rw [show s.length % 256 ^ 2 = s.length from Nat.mod_eq_of_lt (by omega), List.append_assoc, ← e1, show ((2 : Nat) : Int) = 2 from rfl] at e2
    unfold takeRow
    rw [e2, if_neg (by simp), if_pos (by simp only [List.length_append, hl]; omega)]
end Go.Proofs.Ytbikpgaiocjnoaa.Pad
namespace Go.Proofs.Ytbikpgaiocjnoaa.Pad.En
theorem itemsW_bad (rec : Tx → Int → Int → Nd × Int × Int) (k : Nat) (t : Tx) (m : Nat) (ks : List Nd) (ns : List Tx) (a b : Int) (h : b ≠ 0) : (itemsW rec k t m ks ns a b).2.2 = b := by
  cases m with
  | zero => rfl
  | succ m => rw [itemsW, if_pos h]
/-- What is known of a taking. -/
def Taken (t : Tx) (a : Int) (x : Nd) (a' : Int) (d : Nat) : Prop := 0 ≤ a ∧ (∃ e, t.drop a.toNat = encN x ++ e) ∧ a' = a + (encN x).length ∧ chk d x = 0 ∧ nz x = x
theorem nz_map {l : List Nd} (h : ∀ x ∈ l, nz x = x) : l.map nz = l := by
  conv => rhs; rw [← List.map_id l]
  exact List.map_congr_left h
theorem items_dec (rec : Tx → Int → Int → Nd × Int × Int) (d : Nat) (t : Tx) (hrec : ∀ a, (rec t a 0).2.2 = 0 → Taken t a (rec t a 0).1 (rec t a 0).2.1 d) (q : Bool) : ∀ (m : Nat) (ks : List Nd) (ns : List Tx) (a : Int), 0 ≤ a →
    (itemsW rec (bif q then 6 else 5) t m ks ns a 0).2.2 = 0 → ∃ l ms e, (itemsW rec (bif q then 6 else 5) t m ks ns a 0).1 = .mk (bif q then 5 else 4) 0 [] (ks ++ l) (ns ++ ms) ∧ l.length = m ∧ (q = true → ms.length = m) ∧ (q = false → ms = []) ∧
      t.drop a.toNat = encL q (ns ++ ms) ns.length l ++ e ∧ (itemsW rec (bif q then 6 else 5) t m ks ns a 0).2.1 = a + (encL q (ns ++ ms) ns.length l).length ∧ chkL d q (ns ++ ms) ns.length l = 0 ∧ ∀ x ∈ l, nz x = x
  | 0, ks, ns, a, ha, h => by
    refine ⟨[], [], t.drop a.toNat, ?_, rfl, fun _ => rfl, fun _ => rfl, by simp [encL], by simp [itemsW, encL], by simp [chkL], fun _ hx => by simp at hx⟩
    cases q <;> simp [itemsW]
  | m + 1, ks, ns, a, ha, h => by
    cases q
    · have hk : ¬ (5 : Nat) = 6 := by decide
      simp only [cond_false] at h ⊢
      rw [itemsW, if_neg (by simp), if_neg hk] at h ⊢
      by_cases hb : (rec t a 0).2.2 = 0
      · obtain ⟨_, ⟨e, h1⟩, h2, h3, h4⟩ := hrec a hb
        rw [hb] at h ⊢
        obtain ⟨l, ms, e', i1, i2, i3, i4, i5, i6, i7, i8⟩ := items_dec rec d t hrec false m (ks ++ [(rec t a 0).1]) ns (rec t a 0).2.1 (by omega) h
        simp only [cond_false] at i1 i6
        obtain rfl := i4 rfl
        have ex : ∀ (i : Nat) (names names' : List Tx) (l : List Nd) (j : Nat), encL false names i l = encL false names' j l := by
          intro i names names' l
          induction l generalizing i with
          | nil => intro j; rfl
          | cons x l ih => intro j; rw [encL, encL, ih (i + 1) (j + 1)]; rfl
        have cx : ∀ (l : List Nd) (i j : Nat) (names : List Tx), chkL d false names i l = 0 → chkL d false names j l = 0 := by
          intro l
          induction l with
          | nil => intro _ _ _ _; simp [chkL]
          | cons x l ih =>
            intro i j names hc
            obtain ⟨_, _, c3, c4⟩ := (chkL_cons ..).1 hc
            exact (chkL_cons ..).2 ⟨(fun hh => by cases hh), (fun hh => by cases hh), c3, ih _ _ _ c4⟩
        refine ⟨(rec t a 0).1 :: l, [], e', by rw [i1]; simp, by simp [i2], fun hh => (by cases hh), fun _ => rfl, ?_, ?_, ?_, ?_⟩
        · rw [encL, cond_false, List.nil_append, h1, List.append_assoc]
          congr 1
          have : (rec t a 0).2.1.toNat = a.toNat + (encN (rec t a 0).1).length := by omega
          rw [this, ← List.drop_drop, h1, List.drop_left] at i5
          rw [i5, ex _ _ (ns ++ []) l (ns.length + 1)]
        · rw [i6, h2, encL, cond_false, List.nil_append, List.length_append, ex _ _ (ns ++ []) l (ns.length + 1)]
          omega
        · exact (chkL_cons ..).2 ⟨(fun hh => by cases hh), (fun hh => by cases hh), h3, cx _ _ _ _ i7⟩
        · intro x hx
          rcases List.mem_cons.1 hx with rfl | hx
          · exact h4
          · exact i8 x hx
      · rw [itemsW_bad _ _ _ _ _ _ _ _ hb] at h
        exact (hb h).elim
    · simp only [cond_true] at h ⊢
      rw [itemsW, if_neg (by simp), if_pos rfl] at h ⊢
      by_cases hr : (if (takeRow t a 0).2.2 = 0 ∧ 0 < ns.length ∧ Op.bytesLess (nm ns (ns.length - 1)) (takeRow t a 0).1 = false then (4 : Int) else (takeRow t a 0).2.2) = 0
      · rw [if_neg (by simpa using hr)] at h ⊢
        have hr0 : (takeRow t a 0).2.2 = 0 := by
          split at hr
          · cases hr
          · exact hr
        have hless : 0 < ns.length → Op.bytesLess (nm ns (ns.length - 1)) (takeRow t a 0).1 = true := fun hp => by
          cases hb : Op.bytesLess (nm ns (ns.length - 1)) (takeRow t a 0).1
          · rw [if_pos ⟨hr0, hp, hb⟩] at hr; cases hr
          · rfl
        obtain ⟨_, r1, r2, e0, r3⟩ := takeRow_dec hr0
        by_cases hb : (rec t (takeRow t a 0).2.1 0).2.2 = 0
        · obtain ⟨_, ⟨e, h1⟩, h2, h3, h4⟩ := hrec _ hb
          rw [hb] at h ⊢
          obtain ⟨l, ms, e', i1, i2, i3, i4, i5, i6, i7, i8⟩ := items_dec rec d t hrec true m (ks ++ [(rec t (takeRow t a 0).2.1 0).1]) (ns ++ [(takeRow t a 0).1]) (rec t (takeRow t a 0).2.1 0).2.1 (by omega) h
          simp only [cond_true] at i1 i6
          have en : ns ++ [(takeRow t a 0).1] ++ ms = ns ++ (takeRow t a 0).1 :: ms := by simp
          have el : (ns ++ [(takeRow t a 0).1]).length = ns.length + 1 := by simp
          rw [en] at i1 i5 i6 i7
          rw [el] at i5 i6 i7
          have nmr : nm (ns ++ (takeRow t a 0).1 :: ms) ns.length = (takeRow t a 0).1 := by unfold nm; simp
          have nmp : 0 < ns.length → nm (ns ++ (takeRow t a 0).1 :: ms) (ns.length - 1) = nm ns (ns.length - 1) := fun hp => by
            unfold nm
            rw [List.getD_eq_getElem?_getD, List.getD_eq_getElem?_getD, List.getElem?_append_left (by omega)]
          refine ⟨(rec t (takeRow t a 0).2.1 0).1 :: l, (takeRow t a 0).1 :: ms, e', by rw [i1]; simp, by simp [i2], fun _ => by simp [i3 rfl], fun hh => (by cases hh), ?_, ?_, ?_, ?_⟩
          · rw [encL, cond_true, nmr, r3, List.append_assoc, List.append_assoc]
            congr 1
            have q1 : (takeRow t a 0).2.1.toNat = a.toNat + (rowB (takeRow t a 0).1).length := by rw [rowB_len]; omega
            have q2 : (rec t (takeRow t a 0).2.1 0).2.1.toNat = (takeRow t a 0).2.1.toNat + (encN (rec t (takeRow t a 0).2.1 0).1).length := by omega
            rw [q1, ← List.drop_drop, r3, List.drop_left] at h1
            rw [q2, q1, ← List.drop_drop, ← List.drop_drop, r3, List.drop_left, h1, List.drop_left] at i5
            rw [h1, i5]
          · rw [i6, h2, r1, encL, cond_true, nmr, List.length_append, List.length_append, rowB_len]
            omega
          · exact (chkL_cons ..).2 ⟨fun _ => by rw [nmr]; exact r2, fun _ hp => by rw [nmr, nmp hp]; exact hless hp, h3, i7⟩
          · intro x hx
            rcases List.mem_cons.1 hx with rfl | hx
            · exact h4
            · exact i8 x hx
        · rw [itemsW_bad _ _ _ _ _ _ _ _ hb] at h
          exact (hb h).elim
      · rw [if_pos (by simpa using hr)] at h
        exact (hr h).elim
end Go.Proofs.Ytbikpgaiocjnoaa.Pad.En
namespace Go.Proofs.Ytbikpgaiocjnoaa.Pad.En
theorem drop_cons {t : Tx} {a : Int} {c : UInt8} {e : Tx} (h0 : 0 ≤ a) (h : t.drop a.toNat = c :: e) : t.drop (a + 1).toNat = e := by
  rw [show (a + 1).toNat = a.toNat + 1 by omega, ← List.drop_drop, h]; rfl
/-- One byte. -/
theorem byte_dec {t : Tx} {a : Int} (h : (takeNum t a 0 1).2.2 = 0) : 0 ≤ a ∧ (takeNum t a 0 1).2.1 = a + 1 ∧ ∃ c e, (takeNum t a 0 1).1 = UInt8.toNat c ∧ t.drop a.toNat = c :: e := by
  obtain ⟨h1, h2, e, h3⟩ := takeNum_dec (k := 1) h
  have hv : ((1 : Nat) : Int) = 1 := rfl
  rw [hv] at h2 h3
  have hlt := takeNum_lt (t := t) (a := a) (b := 0) 1
  rw [hv] at hlt
  refine ⟨h1, h2, UInt8.ofNat (takeNum t a 0 1).1, e, ?_, ?_⟩
  · rw [small_byte (by omega)]
  · rw [h3]
    simp only [beB, Nat.pow_zero, Nat.div_one, List.cons_append, List.nil_append, List.cons.injEq, and_true]
    apply UInt8.toNat_inj.1
    rw [small_byte (by omega), small_byte (by omega)]; omega
theorem byte_eq {x : UInt8} {k : Nat} (h : x.toNat = k) (hk : k < 256) : x = UInt8.ofNat k := by
  apply UInt8.toNat_inj.1; rw [small_byte hk, h]
/-- **What is taken of bytes has those bytes.** -/
theorem one_dec : ∀ (f : Nat), f ≤ 4 → ∀ (t : Tx) (a : Int), (oneN f t a 0).2.2 = 0 → Taken t a (oneN f t a 0).1 (oneN f t a 0).2.1 (4 - f)
  | f, hf, t, a, h => by
    obtain ⟨big, hbig, hb0, hb1⟩ : ∃ big, oneN f = oneS big ∧ (f = 0 → big = fun _ _ a _ => (nd0, a, 24)) ∧ ∀ g, f = g + 1 → big = oneL (oneN g) := by
      cases f with
      | zero => exact ⟨_, rfl, fun _ => rfl, fun g hg => by cases hg⟩
      | succ g => exact ⟨_, rfl, fun hh => (by cases hh), fun g' hg => by cases hg; rfl⟩
    rw [hbig] at h ⊢
    unfold oneS at h ⊢
    by_cases q0 : (takeNum t a 0 1).2.2 = 0
    · rw [if_neg (by simpa using q0)] at h ⊢
      obtain ⟨k1, k2, c, e, k3, k4⟩ := byte_dec q0
      rw [q0, k2, k3] at h ⊢
      have hd := drop_cons k1 k4
      by_cases q1 : 6 < c.toNat
      · rw [if_pos q1] at h; cases h
      rw [if_neg q1] at h ⊢
      by_cases q2 : c.toNat = 0
      · rw [if_pos q2]
        refine ⟨k1, ⟨e, ?_⟩, by simp [nd0, encN], by simp [nd0, chk], rfl⟩
        rw [k4, byte_eq q2 (by decide)]; rfl
      rw [if_neg q2] at h ⊢
      by_cases q3 : c.toNat < 3
      · rw [if_pos q3]
        have hc : c.toNat = 1 ∨ c.toNat = 2 := by omega
        rcases hc with hc | hc
        · rw [hc]
          refine ⟨k1, ⟨e, ?_⟩, by simp [encN, bv], by simp [chk], rfl⟩
          rw [k4, byte_eq hc (by decide)]; rfl
        · rw [hc]
          refine ⟨k1, ⟨e, ?_⟩, by simp [encN, bv], by simp [chk], rfl⟩
          rw [k4, byte_eq hc (by decide)]; rfl
      rw [if_neg q3] at h ⊢
      by_cases q4 : c.toNat = 3
      · rw [if_pos q4] at h ⊢
        obtain ⟨n1, n2, e', n3⟩ := takeNum_dec (k := 8) h
        have hl := takeNum_lt8 (t := t) (a := a + 1) (b := 0) (size := 8)
        have n2' : (takeNum t (a + 1) 0 8).2.1 = a + 1 + 8 := n2
        have n3' : t.drop (a + 1).toNat = beB 8 (takeNum t (a + 1) 0 8).1 ++ e' := n3
        refine ⟨k1, ⟨e', ?_⟩, ?_, by simp [chk], rfl⟩
        · rw [k4, ← hd, n3', byte_eq q4 (by decide)]
          simp [encN, Nat.mod_eq_of_lt hl]
        · simp only [n2']; simp [encN]; omega
      rw [if_neg q4] at h ⊢
      by_cases q5 : c.toNat = 4
      · rw [if_pos q5] at h ⊢
        obtain ⟨n1, n2, n3, e', n4⟩ := takeRow_dec h
        refine ⟨k1, ⟨e', ?_⟩, ?_, by simp [chk]; omega, rfl⟩
        · rw [k4, ← hd, n4, byte_eq q5 (by decide)]
          simp [encN]
        · simp only [n2]; simp [encN]; omega
      rw [if_neg q5] at h ⊢
      cases f with
      | zero => rw [hb0 rfl] at h; cases h
      | succ g =>
        rw [hb1 g rfl] at h ⊢
        unfold oneL at h ⊢
        by_cases r0 : (takeNum t (a + 1) 0 1).2.2 = 0
        · obtain ⟨_, j2, c2, e2, j3, j4⟩ := byte_dec r0
          have hd2 := drop_cons (by omega) j4
          rw [r0, j2, j3] at h ⊢
          by_cases r1 : 64 < c2.toNat
          · rw [if_pos ⟨rfl, r1⟩] at h
            rw [itemsW_bad _ _ _ _ _ _ _ _ (by decide)] at h
            cases h
          · rw [if_neg (fun hh => r1 hh.2)] at h ⊢
            have hc : c.toNat = (bif decide (c.toNat = 6) then 6 else 5) := by
              by_cases h6 : c.toNat = 6
              · simp [h6]
              · simp [h6]; omega
            have hrec : ∀ a, (oneN g t a 0).2.2 = 0 → Taken t a (oneN g t a 0).1 (oneN g t a 0).2.1 (4 - g) := fun a => one_dec g (by omega) t a
            obtain ⟨q, hq⟩ : ∃ q, q = decide (c.toNat = 6) := ⟨_, rfl⟩
            rw [← hq] at hc
            rw [hc] at h ⊢
            obtain ⟨l, ms, e', i1, i2, i3, i4, i5, i6, i7, i8⟩ := items_dec (oneN g) (4 - g) t hrec q c2.toNat [] [] (a + 1 + 1) (by omega) h
            rw [i1, i6]
            have hl64 : l.length ≤ 64 := by omega
            simp only [List.nil_append, List.length_nil] at i5 i7 ⊢
            rw [hd2] at i5
            have hlen : UInt8.ofNat l.length = c2 := by
              rw [i2]; apply UInt8.toNat_inj.1; rw [small_byte]; exact c2.toNat_lt
            have hd4 : 4 - (g + 1) + 1 = 4 - g := by omega
            cases q
            · have e5 : c.toNat = 5 := by simpa using hc
              obtain rfl := i4 rfl
              refine ⟨k1, ⟨e', ?_⟩, ?_, ?_, ?_⟩
              · rw [k4, ← hd, j4, i5, byte_eq e5 (by decide)]
                simp [encN, hlen]
              · simp [encN]; omega
              · have c1 : ¬ 4 ≤ 3 - g := by omega
                have c3 : ¬ 64 < l.length := by omega
                have c4 : 3 - g + 1 = 4 - g := by omega
                rw [chk]
                simp [c1, c3, c4, i7]
              · show nodeOf (own _) = _
                simp [own, nodeOf, nodes_owns, nz_map i8]
            · have e6 : c.toNat = 6 := by simpa using hc
              refine ⟨k1, ⟨e', ?_⟩, ?_, ?_, ?_⟩
              · rw [k4, ← hd, j4, i5, byte_eq e6 (by decide)]
                simp [encN, hlen]
              · simp [encN]; omega
              · have c1 : ¬ 4 ≤ 3 - g := by omega
                have c3 : ¬ 64 < l.length := by omega
                have c4 : 3 - g + 1 = 4 - g := by omega
                rw [chk]
                simp [c1, c3, c4, i7]
              · show nodeOf (own _) = _
                have hms := i3 rfl
                have nmsall : ∀ (ms : List Tx) (n : Nat) (pre : List Tx), ms.length = n → nms (pre ++ ms) pre.length n = ms := by
                  intro ms
                  induction ms with
                  | nil => intro n pre hn; simp at hn; subst hn; rfl
                  | cons s ms ih =>
                    intro n pre hn
                    simp at hn
                    subst hn
                    rw [nms]
                    have := ih ms.length (pre ++ [s]) rfl
                    rw [List.append_assoc, List.length_append] at this
                    simp only [List.length_cons, List.length_nil, List.cons_append, List.nil_append] at this
                    rw [this]
                    simp [nm]
                have hn2 := nmsall ms l.length [] (by omega)
                simp only [List.nil_append, List.length_nil] at hn2
                simp [own, nodeOf, nodeP_ownP, fst_ownP, nz_map i8, hn2]
        · have hz : (takeNum t (a + 1) 0 1).1 = 0 := by
            have := r0
            unfold takeNum at this ⊢
            split
            · rfl
            · rename_i h1
              split
              · rfl
              · rename_i h2
                split
                · rfl
                · rename_i h3
                  rw [if_neg h1, if_neg h2, if_neg h3] at this
                  exact (this rfl).elim
          rw [if_neg (fun hh => r0 hh.1), itemsW_bad _ _ _ _ _ _ _ _ r0] at h
          exact (r0 h).elim
    · rw [if_pos (by simpa using q0)] at h
      exact (q0 h).elim
end Go.Proofs.Ytbikpgaiocjnoaa.Pad.En
