/- Nodes that are the same; how many bytes there are. No program is in here. -/
import Derived.Test.YtbikpgaiocjnoaaXU
set_option linter.unusedVariables false
set_option linter.unusedSimpArgs false
namespace Go.Proofs.Ytbikpgaiocjnoaa.Pad.En
mutual
theorem same_refl : ∀ x : Nd, same x x = true
  | .mk k n s kids names => by
    rw [same, if_neg (by simp)]
    split
    · simp
    · split
      · simp
      · split
        · simp
        · split
          · rfl
          · rw [if_neg (by simp), sameL_refl]
theorem sameL_refl : ∀ (p : Bool) (names : List Tx) (i : Nat) (l : List Nd), sameL p names names i l l = true
  | p, names, i, [] => rfl
  | p, names, i, x :: l => by rw [sameL, if_neg (by simp), if_neg (by simp [same_refl x]), sameL_refl p names (i + 1) l]
end
mutual
theorem same_enc : ∀ (x y : Nd), same x y = true → encN x = encN y
  | .mk k n s ka na, .mk k' n' s' kb nb, h => by
    rw [same] at h
    by_cases hk : k.toNat = k'.toNat
    · rw [if_neg (by simpa using hk)] at h
      rw [encN, encN, ← hk]
      by_cases h0 : k.toNat = 0
      · rw [if_pos h0, if_pos h0]
      rw [if_neg h0, if_neg h0]
      by_cases h1 : k.toNat = 1
      · rw [if_pos h1] at h
        rw [if_pos h1, if_pos h1]
        by_cases hb : bv n = 1 <;> by_cases hb' : bv n' = 1 <;> simp [hb, hb'] at h ⊢
      rw [if_neg h1] at h
      rw [if_neg h1, if_neg h1]
      by_cases h2 : k.toNat = 2
      · rw [if_pos h2] at h
        rw [if_pos h2, if_pos h2]
        have : n = n' := by simpa using h
        rw [this]
      rw [if_neg h2] at h
      rw [if_neg h2, if_neg h2]
      by_cases h3 : k.toNat = 3
      · rw [if_pos h3] at h
        rw [if_pos h3, if_pos h3]
        have : s = s' := by simpa using h
        rw [this]
      rw [if_neg h3] at h
      rw [if_neg h3, if_neg h3, if_neg (by omega)] at *
      by_cases hl : ka.length = kb.length
      · rw [if_neg (by simpa using hl)] at h
        rw [hl, sameL_enc _ _ _ _ ka kb hl h]
      · rw [if_pos (by simpa using hl)] at h; cases h
    · rw [if_pos (by simpa using hk)] at h; cases h
theorem sameL_enc : ∀ (p : Bool) (na nb : List Tx) (i : Nat) (ka kb : List Nd), ka.length = kb.length → sameL p na nb i ka kb = true → encL p na i ka = encL p nb i kb
  | p, na, nb, i, [], [], _, _ => rfl
  | p, na, nb, i, [], _ :: _, hl, _ => by simp at hl
  | p, na, nb, i, _ :: _, [], hl, _ => by simp at hl
  | p, na, nb, i, x :: xs, y :: ys, hl, h => by
    rw [sameL] at h
    by_cases hp : p = true ∧ nm na i ≠ nm nb i
    · rw [if_pos hp] at h; cases h
    · rw [if_neg hp] at h
      by_cases hs : same x y = false
      · rw [if_pos hs] at h; cases h
      · rw [if_neg hs] at h
        rw [encL, encL, same_enc x y (by simpa using hs), sameL_enc p na nb (i + 1) xs ys (by simpa using hl) h]
        cases p
        · rfl
        · have : nm na i = nm nb i := by simpa using hp
          rw [this]
end
theorem nms_eq (na nb : List Tx) (m i j : Nat) (h : nms na i m = nms nb i m) (hj : j < m) : nm na (i + j) = nm nb (i + j) := by
  rw [← nms_at na m i j hj, ← nms_at nb m i j hj, h]
mutual
theorem same_nz : ∀ (x y : Nd) (d : Nat), chk d x = 0 → chk d y = 0 → nz x = nz y → same x y = true
  | .mk k n s ka na, .mk k' n' s' kb nb, d, h, h', e => by
    obtain ⟨a1, _, a3⟩ := chk_kind h
    obtain ⟨b1, _, b3⟩ := chk_kind h'
    unfold nz at e
    have kd : ∀ (k : UInt8) (n : BitVec 64) (s : Tx) (kids : List Nd) (names : List Tx), k.toNat ≤ 5 → (nodeOf (own (.mk k n s kids names))).kind = k := by
      intro k n s kids names hk
      have hc : k.toNat = 0 ∨ k.toNat = 1 ∨ k.toNat = 2 ∨ k.toNat = 3 ∨ k.toNat = 4 ∨ k.toNat = 5 := by omega
      rcases hc with hc | hc | hc | hc | hc | hc <;> (simp only [own, hc]; simp [nodeOf, Nd.kind]; rw [byte_eq hc (by decide)]; rfl)
    have hk : k = k' := by rw [← kd k n s ka na a1, ← kd k' n' s' kb nb b1, e]
    subst hk
    rw [same, if_neg (by simp)]
    have hc : k.toNat = 0 ∨ k.toNat = 1 ∨ k.toNat = 2 ∨ k.toNat = 3 ∨ k.toNat = 4 ∨ k.toNat = 5 := by omega
    rcases hc with hc | hc | hc | hc | hc | hc
    · simp [hc]
    · simp only [own, hc] at e
      simp [nodeOf] at e
      by_cases hb : bv n = 1 <;> by_cases hb' : bv n' = 1 <;> simp [hc, hb, hb'] at e ⊢
    · simp only [own, hc] at e
      simp [nodeOf] at e
      simp [hc, e]
    · simp only [own, hc] at e
      simp [nodeOf] at e
      simp [hc, e]
    · simp only [own, hc] at e
      simp [nodeOf, nodes_owns] at e
      have hl : ka.length = kb.length := by have := congrArg List.length e; simpa using this
      have g := (a3 (by omega)).2.2
      have g' := (b3 (by omega)).2.2
      simp [hc, hl, same_nzL ka kb (d + 1) false na nb 0 (by simpa [hc] using g) (by simpa [hc] using g') e (fun hh => by cases hh)]
    · simp only [own, hc] at e
      simp [nodeOf, nodeP_ownP, fst_ownP] at e
      have hl : ka.length = kb.length := by have := congrArg List.length e.1; simpa using this
      have g := (a3 (by omega)).2.2
      have g' := (b3 (by omega)).2.2
      have en := e.2
      rw [← hl] at en
      simp [hc, hl, same_nzL ka kb (d + 1) true na nb 0 (by simpa [hc] using g) (by simpa [hc] using g') e.1 (fun _ j hj => nms_eq na nb ka.length 0 j en hj)]
theorem same_nzL : ∀ (ka kb : List Nd) (d : Nat) (p : Bool) (na nb : List Tx) (i : Nat), chkL d p na i ka = 0 → chkL d p nb i kb = 0 → ka.map nz = kb.map nz → (p = true → ∀ j, j < ka.length → nm na (i + j) = nm nb (i + j)) → sameL p na nb i ka kb = true
  | [], kb, d, p, na, nb, i, _, _, e, _ => by cases kb <;> simp [sameL] at e ⊢
  | x :: xs, [], d, p, na, nb, i, _, _, e, _ => by simp at e
  | x :: xs, y :: ys, d, p, na, nb, i, h, h', e, hn => by
    obtain ⟨_, _, a3, a4⟩ := (chkL_cons ..).1 h
    obtain ⟨_, _, b3, b4⟩ := (chkL_cons ..).1 h'
    simp only [List.map_cons, List.cons.injEq] at e
    rw [sameL, if_neg (by rintro ⟨hp, hh⟩; exact hh (hn hp 0 (by simp))), if_neg (by rw [same_nz x y d a3 b3 e.1]; simp)]
    exact same_nzL xs ys d p na nb (i + 1) a4 b4 e.2 (fun hp j hj => by
      have := hn hp (j + 1) (by simp; omega)
      rwa [show i + (j + 1) = i + 1 + j by omega] at this)
end
/-- **Two that may be are the same just if their bytes are.** -/
theorem same_iff {x y : Nd} (hx : chk 0 x = 0) (hy : chk 0 y = 0) : same x y = true ↔ encN x = encN y := by
  refine ⟨same_enc x y, fun e => same_nz x y 0 hx hy ?_⟩
  have h1 := one_enc x 0 (by decide) hx [] []
  have h2 := one_enc y 0 (by decide) hy [] []
  rw [e] at h1
  rw [h1] at h2
  exact (Prod.mk.inj h2).1
theorem nm_long {names : List Tx} (h : longs names = false) (i : Nat) : (nm names i).length ≤ 200 := by
  unfold nm
  rw [List.getD_eq_getElem?_getD]
  cases hi : names[i]? with
  | none => simp
  | some s =>
    have hm := List.mem_of_getElem? hi
    rcases Nat.lt_or_ge 200 s.length with hh | hh
    · have : longs names = true := List.any_eq_true.2 ⟨s, hm, by simpa using hh⟩
      rw [this] at h; cases h
    · exact hh
mutual
/-- Not too much to be looked at: not too many bytes, nor items. -/
theorem enc_len : ∀ (x : Nd) (d : Nat) (left : Int), left ≤ 999 → ovr d left x ≤ left → x.fine ∧ ((encN x).length : Int) + 202 ≤ 420 * ovr d left x
  | .mk k n s kids names, d, left, hl, h => by
    rw [ovr] at h ⊢
    split at h
    · omega
    · rename_i hn
      rw [if_neg hn]
      simp only [not_or] at hn
      obtain ⟨n1, n2, n3, n4, n5, n6⟩ := hn
      have n6' : longs names = false := by simpa using n6
      obtain ⟨f1, f2⟩ := encL_len kids (d + 1) left 1 (decide (k.toNat = 5)) names 0 hl (by omega) (by omega) n6' h
      have hmono : 1 ≤ ovrL (d + 1) left 1 kids := (ovrL_le (d + 1) left 1 (by omega) (by omega) (by omega) kids).1
      refine ⟨?_, ?_⟩
      · rw [Nd.fine]; exact ⟨by omega, by omega, f1⟩
      · rw [encN]
        split
        · simp; omega
        · split
          · split <;> simp <;> omega
          · split
            · simp; omega
            · split
              · simp; omega
              · simp only [List.length_cons]; omega
theorem encL_len : ∀ (l : List Nd) (d : Nat) (left used : Int) (p : Bool) (names : List Tx) (i : Nat), left ≤ 999 → 1 ≤ used → used ≤ left → longs names = false → ovrL d left used l ≤ left → ndFine l ∧ ((encL p names i l).length : Int) ≤ 420 * (ovrL d left used l - used)
  | [], d, left, used, p, names, i, _, _, _, _, _ => by rw [ovrL, encL, ndFine]; simp
  | x :: l, d, left, used, p, names, i, hl, h1, hu, hn, h => by
    rw [ovrL] at h ⊢
    split at h
    · omega
    · rename_i hlt
      rw [if_neg hlt]
      have hp := (ovr_le d (left - used) (by omega) x).1
      obtain ⟨f1, e1⟩ := enc_len x d (left - used) (by omega) (by omega)
      obtain ⟨f2, e2⟩ := encL_len l d left (used + ovr d (left - used) x) p names (i + 1) hl (by omega) (by omega) hn h
      have hr : ((bif p then rowB (nm names i) else []).length : Int) ≤ 202 := by
        cases p
        · simp
        · have := nm_long hn i
          simp; omega
      rw [ndFine, encL]
      refine ⟨⟨f1, f2⟩, ?_⟩
      simp only [List.length_append]
      omega
end
theorem ownP_at (names : List Tx) : ∀ (l : List Nd) (i : Nat), ∀ p ∈ ownP names i l, ∃ x ∈ l, p.2 = own x
  | [], i, p, h => by simp [ownP] at h
  | x :: l, i, p, h => by
    rw [ownP] at h
    rcases List.mem_cons.1 h with rfl | h
    · exact ⟨x, List.mem_cons_self .., rfl⟩
    · obtain ⟨y, hy, e⟩ := ownP_at names l (i + 1) p h
      exact ⟨y, List.mem_cons_of_mem _ hy, e⟩
mutual
theorem own_fine : ∀ x : Nd, x.fine → (own x).fine
  | .mk k n s kids names, h => by
    rw [Nd.fine] at h
    rw [own]
    split
    · trivial
    · split
      · trivial
      · split
        · trivial
        · split
          · trivial
          · split
            · rw [Vl.fine]; exact ⟨by rw [owns_map, List.length_map]; exact h.1, owns_fine kids h.2.2⟩
            · split
              · rw [Vl.fine]; exact ⟨by rw [ownP_len]; exact h.1, ownP_fine names kids 0 h.2.2⟩
              · trivial
theorem owns_fine : ∀ l : List Nd, ndFine l → fines (owns l)
  | [], _ => by rw [owns, fines]; trivial
  | x :: l, h => by rw [ndFine] at h; rw [owns, fines]; exact ⟨own_fine x h.1, owns_fine l h.2⟩
theorem ownP_fine (names : List Tx) : ∀ (l : List Nd) (i : Nat), ndFine l → fineP (ownP names i l)
  | [], _, _ => by rw [ownP, fineP]; trivial
  | x :: l, i, h => by rw [ndFine] at h; rw [ownP, fineP, fineQ]; exact ⟨own_fine x h.1, ownP_fine names l (i + 1) h.2⟩
end
mutual
/-- A value that may be is fine. -/
theorem chk_fine : ∀ (x : Nd) (d : Nat), chk d x = 0 → (own x).fine
  | .mk k n s kids names, d, h => by
    obtain ⟨_, _, h3⟩ := chk_kind h
    rw [own]
    split
    · trivial
    · split
      · trivial
      · split
        · trivial
        · split
          · trivial
          · obtain ⟨_, g2, g3⟩ := h3 (by omega)
            split
            · rw [Vl.fine]; exact ⟨by rw [owns_map, List.length_map]; omega, chk_fines kids _ _ _ _ g3⟩
            · split
              · rw [Vl.fine]; exact ⟨by rw [ownP_len]; omega, chk_fineP names kids _ _ _ _ 0 g3⟩
              · trivial
theorem chk_fines : ∀ (l : List Nd) (d : Nat) (p : Bool) (names : List Tx) (i : Nat), chkL d p names i l = 0 → fines (owns l)
  | [], _, _, _, _, _ => by rw [owns, fines]; trivial
  | x :: l, d, p, names, i, h => by
    obtain ⟨_, _, a3, a4⟩ := (chkL_cons ..).1 h
    rw [owns, fines]; exact ⟨chk_fine x d a3, chk_fines l d p names (i + 1) a4⟩
theorem chk_fineP (na : List Tx) : ∀ (l : List Nd) (d : Nat) (p : Bool) (names : List Tx) (i j : Nat), chkL d p names i l = 0 → fineP (ownP na j l)
  | [], _, _, _, _, _, _ => by rw [ownP, fineP]; trivial
  | x :: l, d, p, names, i, j, h => by
    obtain ⟨_, _, a3, a4⟩ := (chkL_cons ..).1 h
    rw [ownP, fineP, fineQ]; exact ⟨chk_fine x d a3, chk_fineP na l d p names (i + 1) (j + 1) a4⟩
end
/-- The value of some bytes, and why there is none. -/
def tkE (s : Tx) : Int := endOf s (oneN 4 s 0 0).2.1 (oneN 4 s 0 0).2.2
def tkN (s : Tx) : Nd := if tkE s = 0 then (oneN 4 s 0 0).1 else nd0
theorem tk_at (x : Nd) (r : Tx) (h : chk 0 x = 0) : oneN 4 (encN x ++ r) 0 0 = (nz x, ((encN x).length : Int), 0) := by
  have := one_enc x 0 (by decide) h [] r
  simpa using this
theorem tk_enc {x : Nd} (h : chk 0 x = 0) : tkE (encN x) = 0 ∧ tkN (encN x) = nz x := by
  have e := tk_at x [] h
  rw [List.append_nil] at e
  have e0 : tkE (encN x) = 0 := by unfold tkE endOf; rw [e]; simp
  exact ⟨e0, by unfold tkN; rw [if_pos e0, e]⟩
theorem tk_more {x : Nd} (h : chk 0 x = 0) (b : UInt8) : tkE (encN x ++ [b]) = 4 := by
  unfold tkE endOf
  rw [tk_at x [b] h]
  simp
  omega
theorem enc_pos (x : Nd) : 0 < (encN x).length := by
  obtain ⟨k, n, s, kids, names⟩ := x
  rw [encN]
  split
  · simp
  · split
    · split <;> simp
    · split
      · simp
      · split <;> simp
theorem tk_less {x : Nd} (h : chk 0 x = 0) (n : Nat) (hn : n < (encN x).length) : tkE ((encN x).take n) = 3 := by
  have := one_cut x 0 (by decide) h [] n hn
  simp only [Nat.sub_zero, List.nil_append, List.length_nil] at this
  unfold tkE endOf
  rw [show ((0 : Nat) : Int) = 0 from rfl] at this
  rw [this]; simp
theorem tk_dec {s : Tx} (h : tkE s = 0) : chk 0 (tkN s) = 0 ∧ nz (tkN s) = tkN s ∧ encN (tkN s) = s := by
  unfold tkN
  rw [if_pos h]
  have h' := h
  unfold tkE endOf at h'
  by_cases hb : (oneN 4 s 0 0).2.2 = 0
  · rw [if_neg (by simpa using hb)] at h'
    obtain ⟨h1, ⟨e, h2⟩, h3, h4, h5⟩ := one_dec 4 (by decide) s 0 hb
    split at h'
    · cases h'
    · split at h'
      · cases h'
      · rename_i k1 k2
        have hl := congrArg List.length h2
        simp at hl
        have he : e = [] := List.eq_nil_of_length_eq_zero (by omega)
        rw [he] at h2
        simp at h2
        exact ⟨h4, h5, h2.symm⟩
  · rw [if_pos (by simpa using hb)] at h'
    exact (hb h').elim
theorem nz_nz (x : Nd) (h : nz x = x) : nodeOf (own x) = x := h
end Go.Proofs.Ytbikpgaiocjnoaa.Pad.En
