/- Texts as paths: which is below which one. No program is in here. -/
import Derived.Sort.LotA
import Derived.Lib.Bytealg
import Derived.Lib.LastIndexByte
import Derived.Lib.SlicesCompact
set_option linter.unusedVariables false
set_option linter.unusedSimpArgs false
namespace Go.Proofs.Ytnhelmnenhphjaa.Pad.Under
abbrev Tx := List UInt8
def wi (s t : Tx) : Bool := t.isEmpty || decide (s = t) || (t ++ [47]).isPrefixOf s
def be (s t : Tx) : Bool := wi s t && !decide (s = t)
/-- Behind a text and its slash. -/
def rest (s t : Tx) : Tx := if t.isEmpty then s else s.drop (t.length + 1)
def fst47 (l : Tx) : Nat := (l.takeWhile (· != 47)).length
def comp (l : Tx) : Tx := l.take (fst47 l + 1)
def child (s t : Tx) : Tx := if be s t then comp (rest s t) else []
def parK (l : Tx) : Nat → Tx
  | 0 => []
  | k + 1 => if l[k]? = some 47 then l.take k else parK l k
def par (l : Tx) : Tx := parK l l.length
def lcpN : Tx → Tx → Nat
  | x :: a, y :: b => if x = y then lcpN a b + 1 else 0
  | _, _ => 0
def comK (a b : Tx) : Nat → Tx
  | 0 => []
  | n + 1 => if wi a (a.take (n + 1)) && wi b (a.take (n + 1)) then a.take (n + 1) else comK a b n
def com (a b : Tx) : Tx := comK a b a.length
/-- As the program has it. -/
def beh (s t : Tx) : Tx × Bool := if t.isEmpty then (s, !s.isEmpty) else if t.isPrefixOf s then (if [47].isPrefixOf (s.drop t.length) then (s.drop (t.length + 1), true) else (s.drop t.length, false)) else ([], false)

theorem pre_iff {a b : Tx} : a.isPrefixOf b = true ↔ a <+: b := List.isPrefixOf_iff_prefix
theorem pre47 {s t : Tx} (h : t <+: s) : (t ++ [47] <+: s) ↔ [47] <+: s.drop t.length := by
  obtain ⟨u, rfl⟩ := h
  rw [List.drop_left, List.prefix_append_right_inj]
theorem beh_2 (s t : Tx) : (beh s t).2 = be s t := by
  unfold beh be wi
  by_cases h0 : t = []
  · subst h0
    cases s <;> simp
  · have he : t.isEmpty = false := by cases t <;> simp_all
    rw [he]
    simp only [Bool.false_eq_true, if_false, Bool.false_or]
    by_cases hp : t.isPrefixOf s = true
    · rw [if_pos hp]
      have hp' := pre_iff.1 hp
      by_cases h4 : [47].isPrefixOf (s.drop t.length) = true
      · have h5 : (t ++ [47]).isPrefixOf s = true := pre_iff.2 ((pre47 hp').2 (pre_iff.1 h4))
        have hne : ¬ s = t := by
          intro e
          have := (pre_iff.1 h5).length_le
          simp [e] at this
          omega
        rw [if_pos h4, h5]
        simp [hne]
      · have h5 : (t ++ [47]).isPrefixOf s = false := by
          cases hh : (t ++ [47]).isPrefixOf s
          · rfl
          · exact (h4 (pre_iff.2 ((pre47 hp').1 (pre_iff.1 hh)))).elim
        rw [if_neg h4, h5]
        by_cases e : s = t <;> simp [e]
    · rw [if_neg hp]
      have h5 : (t ++ [47]).isPrefixOf s = false := by
        cases hh : (t ++ [47]).isPrefixOf s
        · rfl
        · exact (hp (pre_iff.2 ((List.prefix_append t [47]).trans (pre_iff.1 hh)))).elim
      have hne : ¬ s = t := by rintro rfl; exact hp (pre_iff.2 (List.prefix_refl _))
      simp [h5, hne]
theorem beh_1 (s t : Tx) (h : be s t = true) : (beh s t).1 = rest s t := by
  rw [← beh_2] at h
  revert h
  unfold beh rest
  split
  · simp
  · split
    · split <;> simp
    · simp
theorem wi_pre {s t : Tx} (h : wi s t = true) : t <+: s := by
  unfold wi at h
  simp only [Bool.or_eq_true, decide_eq_true_eq, List.isEmpty_iff] at h
  rcases h with (rfl | rfl) | h
  · exact List.nil_prefix
  · exact List.prefix_refl _
  · exact (List.prefix_append t [47]).trans (pre_iff.1 h)
theorem wi_iff {s t : Tx} : wi s t = true ↔ t = [] ∨ s = t ∨ t ++ [47] <+: s := by
  unfold wi
  simp only [Bool.or_eq_true, decide_eq_true_eq, List.isEmpty_iff, pre_iff, or_assoc]
theorem wi_self (s : Tx) : wi s s = true := wi_iff.2 (.inr (.inl rfl))
theorem wi_nil (s : Tx) : wi s [] = true := wi_iff.2 (.inl rfl)
theorem wi_anti {a b : Tx} (h : wi a b = true) (k : wi b a = true) : a = b := (wi_pre k).eq_of_length (Nat.le_antisymm (wi_pre k).length_le (wi_pre h).length_le)
theorem wi_trans {a b c : Tx} (h : wi a b = true) (k : wi b c = true) : wi a c = true := by
  rcases wi_iff.1 k with rfl | rfl | k'
  · exact wi_nil a
  · exact h
  · rcases wi_iff.1 h with rfl | rfl | h'
    · simp at k'
    · exact k
    · exact wi_iff.2 (.inr (.inr (k'.trans (wi_pre h))))
/-- By places: what a text's own front is. -/
theorem wi_take {s : Tx} {n : Nat} (h0 : 0 < n) (hn : n ≤ s.length) : wi s (s.take n) = true ↔ n = s.length ∨ s[n]? = some 47 := by
  rw [wi_iff]
  have hne : s.take n ≠ [] := by
    intro e
    have := congrArg List.length e
    rw [List.length_take, List.length_nil] at this; omega
  constructor
  · rintro (h | h | h)
    · exact (hne h).elim
    · left
      have := congrArg List.length h
      simp at this; omega
    · right
      obtain ⟨u, hu⟩ := h
      have hl : (s.take n).length = n := by simp; omega
      have := congrArg (fun l => l[n]?) hu
      simp only [List.append_assoc] at this
      rw [List.getElem?_append_right (by omega), hl, Nat.sub_self] at this
      simpa using this.symm
  · rintro (h | h)
    · right; left; rw [h, List.take_length]
    · right; right
      have hlt : n < s.length := (List.getElem?_eq_some_iff.1 h).1
      have e : s.take n ++ [47] = s.take (n + 1) := by
        rw [List.take_add_one, h]; rfl
      rw [e]; exact List.take_prefix _ _
theorem lcp_le : ∀ (a b : Tx), lcpN a b ≤ a.length ∧ lcpN a b ≤ b.length
  | [], b => by simp [lcpN]
  | _ :: _, [] => by simp [lcpN]
  | x :: a, y :: b => by
    have := lcp_le a b
    simp only [lcpN]; split <;> simp <;> omega
theorem lcp_take : ∀ (a b : Tx), a.take (lcpN a b) = b.take (lcpN a b)
  | [], b => by simp [lcpN]
  | _ :: _, [] => by simp [lcpN]
  | x :: a, y :: b => by
    simp only [lcpN]
    split
    · rename_i h; simp [h, lcp_take a b]
    · simp
theorem lcp_most : ∀ (a b t : Tx), t <+: a → t <+: b → t.length ≤ lcpN a b
  | a, b, [], _, _ => by simp
  | [], b, z :: t, h, _ => by simp at h
  | _ :: _, [], z :: t, _, h => by simp at h
  | x :: a, y :: b, z :: t, h, k => by
    rw [List.cons_prefix_cons] at h k
    simp only [lcpN]
    rw [if_pos (by rw [← h.1, ← k.1])]
    have := lcp_most a b t h.2 k.2
    simp; omega
theorem lcp_comm : ∀ (a b : Tx), lcpN a b = lcpN b a
  | [], b => by cases b <;> simp [lcpN]
  | _ :: _, [] => by simp [lcpN]
  | x :: a, y :: b => by
    simp only [lcpN, lcp_comm a b]
    by_cases h : x = y
    · rw [if_pos h, if_pos h.symm]
    · rw [if_neg h, if_neg (Ne.symm h)]
theorem lcp_get {a b : Tx} {i : Nat} (h : i < lcpN a b) : a[i]? = b[i]? := by
  have := congrArg (fun l => l[i]?) (lcp_take a b)
  simpa [List.getElem?_take, h] using this
theorem comK_big {a b : Tx} : ∀ n, n ≤ a.length → lcpN a b ≤ n → comK a b n = comK a b (lcpN a b)
  | 0, _, h => by rw [Nat.le_zero.1 h]
  | n + 1, hn, h => by
    rcases Nat.lt_or_ge n (lcpN a b) with h1 | h1
    · rw [show lcpN a b = n + 1 by omega]
    · rw [show comK a b (n + 1) = if wi a (a.take (n + 1)) && wi b (a.take (n + 1)) then a.take (n + 1) else comK a b n from rfl, if_neg]
      · exact comK_big n (by omega) h1
      · intro hh
        simp only [Bool.and_eq_true] at hh
        have := lcp_most a b _ (wi_pre hh.1) (wi_pre hh.2)
        simp at this; omega
theorem comK_par {a b : Tx} : ∀ n, n < lcpN a b ∨ n = 0 → comK a b n = parK (a.take (lcpN a b)) (n + 1)
  | 0, _ => by
    simp only [comK, parK]; split <;> simp
  | n + 1, h => by
    have hl := lcp_le a b
    have hlt : n + 1 < lcpN a b := by omega
    have e1 : (a.take (lcpN a b))[n + 1]? = a[n + 1]? := by rw [List.getElem?_take, if_pos hlt]
    have w1 : wi a (a.take (n + 1)) = true ↔ a[n + 1]? = some 47 := by
      rw [wi_take (by omega) (by omega)]
      exact ⟨fun h => h.resolve_left (by omega), .inr⟩
    have hab : a.take (n + 1) = b.take (n + 1) := by
      have := congrArg (List.take (n + 1)) (lcp_take a b)
      rwa [List.take_take, List.take_take, Nat.min_eq_left (by omega)] at this
    have w2 : wi b (a.take (n + 1)) = true ↔ a[n + 1]? = some 47 := by
      rw [hab, wi_take (by omega) (by omega), lcp_get hlt]
      exact ⟨fun h => h.resolve_left (by omega), .inr⟩
    rw [parK, e1]
    unfold comK
    by_cases h4 : a[n + 1]? = some 47
    · rw [if_pos h4, w1.2 h4, w2.2 h4, List.take_take, Nat.min_eq_left (by omega)]; rfl
    · rw [if_neg h4, if_neg (by intro hh; simp only [Bool.and_eq_true] at hh; exact h4 (w1.1 hh.1)), comK_par n (by omega)]
/-- What the program tells is what the document does. -/
theorem com_eq (a b : Tx) : com a b = if wi a (a.take (lcpN a b)) && wi b (a.take (lcpN a b)) then a.take (lcpN a b) else par (a.take (lcpN a b)) := by
  have hl := lcp_le a b
  unfold com
  rw [comK_big a.length (Nat.le_refl _) hl.1]
  have hlen : (a.take (lcpN a b)).length = lcpN a b := by simp; omega
  unfold par
  rw [hlen]
  cases hN : lcpN a b with
  | zero => simp [comK, parK]
  | succ n =>
    rw [comK]
    split
    · rfl
    · have := comK_par (a := a) (b := b) n (by omega)
      rw [this, hN]
theorem parK_spec (l : Tx) : ∀ k, k ≤ l.length → (parK l k = [] ∧ ∀ i, i < k → l[i]? ≠ some 47) ∨ ∃ i, i < k ∧ l[i]? = some 47 ∧ parK l k = l.take i ∧ ∀ j, i < j → j < k → l[j]? ≠ some 47
  | 0, _ => .inl ⟨rfl, fun i h => by omega⟩
  | k + 1, hk => by
    unfold parK
    by_cases h : l[k]? = some 47
    · rw [if_pos h]
      exact .inr ⟨k, by omega, h, rfl, fun j h1 h2 => by omega⟩
    · rw [if_neg h]
      rcases parK_spec l k (by omega) with ⟨h1, h2⟩ | ⟨i, h1, h2, h3, h4⟩
      · exact .inl ⟨h1, fun i hi => by rcases Nat.lt_or_eq_of_le (Nat.le_of_lt_succ hi) with h' | rfl; exact h2 i h'; exact h⟩
      · exact .inr ⟨i, by omega, h2, h3, fun j h5 h6 => by rcases Nat.lt_or_eq_of_le (Nat.le_of_lt_succ h6) with h' | rfl; exact h4 j h5 h'; exact h⟩
theorem be_par {a : Tx} (h : a ≠ []) : be a (par a) = true := by
  unfold par
  rcases parK_spec a a.length (Nat.le_refl _) with ⟨h1, _⟩ | ⟨i, h1, h2, h3, _⟩
  · rw [h1]; unfold be wi; simp [h]
  · rw [h3]
    by_cases h0 : i = 0
    · subst h0; unfold be wi; simp [h]
    · have := (wi_take (s := a) (n := i) (by omega) (by omega)).2 (.inr h2)
      unfold be
      rw [this]
      have hne : ¬ a = a.take i := fun e => by have := congrArg List.length e; simp at this; omega
      simp [hne]
theorem com_wi (a b : Tx) : wi a (com a b) = true ∧ wi b (com a b) = true := by
  have key : ∀ n, wi a (comK a b n) = true ∧ wi b (comK a b n) = true := by
    intro n
    induction n with
    | zero => exact ⟨wi_nil _, wi_nil _⟩
    | succ n ih =>
      unfold comK
      split
      · rename_i h; simpa using h
      · exact ih
  exact key _
/-- Whatever both are within, that is within it. -/
theorem com_most {a b c : Tx} (h : wi a c = true) (k : wi b c = true) : wi (com a b) c = true ∧ c.length ≤ (com a b).length := by
  have ha := wi_pre h
  obtain ⟨n, hn, rfl⟩ : ∃ n, n ≤ a.length ∧ c = a.take n := ⟨c.length, ha.length_le, (List.prefix_iff_eq_take.1 ha)⟩
  have key : ∀ m, m ≤ a.length → n ≤ m → ∃ j, n ≤ j ∧ j ≤ a.length ∧ comK a b m = a.take j ∧ (j = 0 ∨ wi a (a.take j) = true) := by
    intro m
    induction m with
    | zero => intro _ h0; exact ⟨0, h0, Nat.zero_le _, by simp [comK], .inl rfl⟩
    | succ m ih =>
      intro hm hnm
      unfold comK
      by_cases hw : (wi a (a.take (m + 1)) && wi b (a.take (m + 1))) = true
      · rw [if_pos hw]
        exact ⟨m + 1, hnm, hm, rfl, .inr (by simp only [Bool.and_eq_true] at hw; exact hw.1)⟩
      · rw [if_neg hw]
        rcases Nat.lt_or_eq_of_le hnm with h1 | h1
        · exact ih (by omega) (by omega)
        · exfalso
          subst h1
          exact hw (by rw [h, k]; rfl)
  obtain ⟨j, h1, h2, h3, h4⟩ := key a.length (Nat.le_refl _) hn
  unfold com
  rw [h3]
  refine ⟨?_, by simp; omega⟩
  have e : a.take n = (a.take j).take n := by rw [List.take_take, Nat.min_eq_left h1]
  rcases Nat.eq_zero_or_pos n with rfl | hp
  · simp [wi_nil]
  · rw [e, wi_take hp (by simp; omega)]
    rcases Nat.lt_or_eq_of_le h1 with hlt | rfl
    · rcases (wi_take hp hn).1 h with h5 | h5
      · omega
      · right; rw [List.getElem?_take, if_pos hlt]; exact h5
    · left; simp; omega
theorem com_comm (a b : Tx) : com a b = com b a := by
  obtain ⟨h1, h2⟩ := com_wi a b
  obtain ⟨k1, k2⟩ := com_wi b a
  exact wi_anti (com_most k2 k1).1 (com_most h2 h1).1
theorem com_self (a : Tx) : com a a = a := wi_anti (com_most (wi_self a) (wi_self a)).1 (com_wi a a).1 |>.symm ▸ rfl
theorem com_nil (a : Tx) : com a [] = [] := by
  have := wi_pre (com_wi a []).2
  simpa using this
end Go.Proofs.Ytnhelmnenhphjaa.Pad.Under
