/- Texts in order, each once. No program is in here. -/
import Derived.Test.YtnhelmnenhphjaaUM
import Derived.Sort.LotA
import Derived.Lib.Bytealg
import Derived.Lib.SlicesCompact
import GoSem.Op.String
set_option linter.unusedVariables false
set_option linter.unusedSimpArgs false
namespace Go.Proofs.Ytnhelmnenhphjaa.Pad.Under
open Go.Sort
theorem lt_trans' {a b c : Tx} (h : a < b) (k : b < c) : a < c := List.lt_trans h k
theorem lt_irr (a : Tx) : ¬ a < a := List.lt_irrefl a
theorem lt_asymm' {a b : Tx} (h : a < b) : ¬ b < a := fun k => lt_irr a (lt_trans' h k)
theorem lt_tri (a b : Tx) : a < b ∨ a = b ∨ b < a := by
  by_cases h : a < b
  · exact .inl h
  · by_cases k : b < a
    · exact .inr (.inr k)
    · exact .inr (.inl (List.le_antisymm (List.not_lt.1 k) (List.not_lt.1 h)))
theorem le_lt {a b c : Tx} (h : ¬ b < a) (k : b < c) : a < c := by
  rcases lt_tri a b with h1 | rfl | h1
  · exact lt_trans' h1 k
  · exact k
  · exact (h h1).elim
/-- Two that rise and have the same are one. -/
theorem rise_ext : ∀ {a b : List Tx}, a.Pairwise (· < ·) → b.Pairwise (· < ·) → (∀ x, x ∈ a ↔ x ∈ b) → a = b
  | [], [], _, _, _ => rfl
  | [], y :: b, _, _, h => by have := (h y).2 (List.mem_cons_self ..); cases this
  | x :: a, [], _, _, h => by have := (h x).1 (List.mem_cons_self ..); cases this
  | x :: a, y :: b, ha, hb, h => by
    rw [List.pairwise_cons] at ha hb
    have hxy : x = y := by
      rcases lt_tri x y with h1 | h1 | h1
      · exfalso
        rcases List.mem_cons.1 ((h x).1 (List.mem_cons_self ..)) with e | e
        · subst e; exact lt_irr _ h1
        · exact lt_irr _ (lt_trans' h1 (hb.1 x e))
      · exact h1
      · exfalso
        rcases List.mem_cons.1 ((h y).2 (List.mem_cons_self ..)) with e | e
        · subst e; exact lt_irr _ h1
        · exact lt_irr _ (lt_trans' h1 (ha.1 y e))
    subst hxy
    congr 1
    refine rise_ext ha.2 hb.2 fun z => ?_
    constructor
    · intro hz
      rcases List.mem_cons.1 ((h z).1 (List.mem_cons_of_mem _ hz)) with e | e
      · subst e; exact (lt_irr _ (ha.1 _ hz)).elim
      · exact e
    · intro hz
      rcases List.mem_cons.1 ((h z).2 (List.mem_cons_of_mem _ hz)) with e | e
      · subst e; exact (lt_irr _ (hb.1 _ hz)).elim
      · exact e
/-- How many are less, at the front. -/
def posn (l : List Tx) (s : Tx) : Nat := (l.takeWhile fun x => decide (x < s)).length
def into (l : List Tx) (s : Tx) : List Tx := if l[posn l s]? = some s then l else l.take (posn l s) ++ s :: l.drop (posn l s)
theorem posn_le (l : List Tx) (s : Tx) : posn l s ≤ l.length := by
  unfold posn
  exact (List.takeWhile_prefix _).length_le
theorem posn_lt {l : List Tx} {s : Tx} {i : Nat} (h : i < posn l s) (hi : i < l.length) : l[i] < s := by
  have hp : (l.takeWhile fun x => decide (x < s)) <+: l := List.takeWhile_prefix _
  have h1 : (l.takeWhile fun x => decide (x < s))[i]'h = l[i] := hp.getElem h
  have key : ∀ (l : List Tx), ∀ x ∈ l.takeWhile fun x => decide (x < s), x < s := by
    intro l
    induction l with
    | nil => intro x hx; simp at hx
    | cons y l ih =>
      intro x hx
      rw [List.takeWhile_cons] at hx
      split at hx
      · rename_i hy
        rcases List.mem_cons.1 hx with rfl | hx
        · simpa using hy
        · exact ih x hx
      · cases hx
  rw [← h1]
  exact key l _ (List.getElem_mem h)
theorem posn_at {l : List Tx} {s : Tx} (hi : posn l s < l.length) : ¬ l[posn l s] < s := by
  have key : ∀ (l : List Tx) (h : (l.takeWhile fun x => decide (x < s)).length < l.length), ¬ l[(l.takeWhile fun x => decide (x < s)).length] < s := by
    intro l
    induction l with
    | nil => intro h; simp at h
    | cons x l ih =>
      intro h
      by_cases hx : x < s
      · simp only [List.takeWhile_cons, hx, decide_true, if_true, List.length_cons, List.getElem_cons_succ] at h ⊢
        exact ih (by omega)
      · simp only [List.takeWhile_cons, hx, decide_false, Bool.false_eq_true, if_false, List.length_nil, List.getElem_cons_zero] at h ⊢
        exact fun q => q
  exact key l hi
theorem into_spec {l : List Tx} (hl : l.Pairwise (· < ·)) (s : Tx) : (into l s).Pairwise (· < ·) ∧ ∀ x, x ∈ into l s ↔ x ∈ l ∨ x = s := by
  unfold into
  split
  · rename_i h
    refine ⟨hl, fun x => ⟨.inl, fun hx => hx.elim id fun e => ?_⟩⟩
    rw [e]; exact List.mem_of_getElem? h
  · rename_i h
    have hle := posn_le l s
    have hlt : ∀ x ∈ l.take (posn l s), x < s := fun x hx => by
      obtain ⟨i, hi, rfl⟩ := List.mem_iff_getElem.1 hx
      simp only [List.length_take] at hi
      rw [List.getElem_take]
      exact posn_lt (by omega) (by omega)
    have hgt : ∀ x ∈ l.drop (posn l s), s < x := fun x hx => by
      obtain ⟨i, hi, rfl⟩ := List.mem_iff_getElem.1 hx
      simp only [List.length_drop] at hi
      rw [List.getElem_drop]
      have hp : posn l s < l.length := by omega
      have h1 := posn_at (s := s) hp
      have h2 : l[posn l s] ≠ s := fun e => h (by rw [List.getElem?_eq_getElem hp, e])
      have h3 : s < l[posn l s] := by
        rcases lt_tri s l[posn l s] with q | q | q
        · exact q
        · exact (h2 q.symm).elim
        · exact (h1 q).elim
      rcases Nat.eq_zero_or_pos i with rfl | hi0
      · exact h3
      · exact lt_trans' h3 (List.pairwise_iff_getElem.1 hl _ _ hp (by omega) (by omega))
    refine ⟨?_, fun x => ?_⟩
    · rw [List.pairwise_append]
      refine ⟨hl.sublist (List.take_sublist _ _), List.pairwise_cons.2 ⟨fun x hx => hgt x hx, hl.sublist (List.drop_sublist _ _)⟩, fun x hx y hy => ?_⟩
      rcases List.mem_cons.1 hy with rfl | hy
      · exact hlt x hx
      · exact lt_trans' (hlt x hx) (hgt y hy)
    · constructor
      · intro hx
        rcases List.mem_append.1 hx with hx | hx
        · exact .inl (List.mem_of_mem_take hx)
        · rcases List.mem_cons.1 hx with rfl | hx
          · exact .inr rfl
          · exact .inl (List.mem_of_mem_drop hx)
      · rintro (hx | rfl)
        · have hx' := hx
          rw [← List.take_append_drop (posn l s) l] at hx'
          rcases List.mem_append.1 hx' with q | q
          · exact List.mem_append_left _ q
          · exact List.mem_append_right _ (List.mem_cons_of_mem _ q)
        · exact List.mem_append_right _ (List.mem_cons_self ..)
/-- All of a list, in order, each once. -/
def ord (xs : List Tx) : List Tx := xs.foldl into []
theorem ord_spec (xs : List Tx) : (ord xs).Pairwise (· < ·) ∧ ∀ x, x ∈ ord xs ↔ x ∈ xs := by
  have key : ∀ (xs acc : List Tx), acc.Pairwise (· < ·) → (xs.foldl into acc).Pairwise (· < ·) ∧ ∀ x, x ∈ xs.foldl into acc ↔ x ∈ acc ∨ x ∈ xs := by
    intro xs
    induction xs with
    | nil => intro acc h; exact ⟨h, fun x => by simp⟩
    | cons y xs ih =>
      intro acc h
      obtain ⟨h1, h2⟩ := into_spec h y
      obtain ⟨h3, h4⟩ := ih _ h1
      refine ⟨h3, fun x => ?_⟩
      rw [List.foldl_cons, h4, h2, List.mem_cons, or_assoc]
  obtain ⟨h1, h2⟩ := key xs [] List.Pairwise.nil
  exact ⟨h1, fun x => by unfold ord; rw [h2]; simp⟩
theorem ord_len (xs : List Tx) : (ord xs).length ≤ xs.length := by
  have key : ∀ (xs acc : List Tx), (xs.foldl into acc).length ≤ acc.length + xs.length := by
    intro xs
    induction xs with
    | nil => intro acc; simp
    | cons y xs ih =>
      intro acc
      have h1 := ih (into acc y)
      have h2 : (into acc y).length ≤ acc.length + 1 := by
        unfold into
        split
        · omega
        · have := posn_le acc y
          simp; omega
      simp only [List.foldl_cons, List.length_cons]; omega
  simpa [ord] using key xs []
/-! ### As the library has it -/
theorem cmp_lt : ∀ (a b : Tx), decide (Lib.compareBytes a b < 0) = ltStr a b
  | [], [] => by simp [Lib.compareBytes, ltStr, List.lt_irrefl]
  | [], _ :: _ => by simp [Lib.compareBytes, ltStr]
  | _ :: _, [] => by simp [Lib.compareBytes, ltStr]
  | x :: a, y :: b => by
    have ih := cmp_lt a b
    unfold Lib.compareBytes
    unfold ltStr at ih ⊢
    rcases Nat.lt_trichotomy x.toNat y.toNat with h | h | h
    · have h' : x < y := UInt8.lt_iff_toNat_lt.2 h
      have : (x :: a) < (y :: b) := List.cons_lt_cons_iff.2 (.inl h')
      simp [h', this]
    · have h' : x = y := UInt8.toNat_inj.1 h
      subst h'
      have h1 : ¬ x < x := fun hh => by have := UInt8.lt_iff_toNat_lt.1 hh; omega
      rw [if_neg h1, if_neg h1, ih]
      congr 1
      apply propext
      rw [List.cons_lt_cons_iff]
      constructor
      · intro q; exact .inr ⟨rfl, q⟩
      · rintro (q | q)
        · exact (h1 q).elim
        · exact q.2
    · have h' : y < x := UInt8.lt_iff_toNat_lt.2 h
      have h1 : ¬ x < y := fun hh => by have := UInt8.lt_iff_toNat_lt.1 hh; omega
      have : ¬ (x :: a) < (y :: b) := by
        rw [List.cons_lt_cons_iff]
        rintro (q | q)
        · exact h1 q
        · have := UInt8.toNat_inj.2 q.1; omega
      simp [h', h1, this]
theorem tot_lt (x y : Tx) (h1 : ltStr x y = false) (h2 : ltStr y x = false) : x = y := by
  simp only [ltStr, decide_eq_false_iff_not, List.not_lt] at h1 h2
  exact List.le_antisymm h2 h1
theorem compact_ord (zs : List Tx) (hz : zs.Pairwise fun x y => ¬ y < x) : (Lib.compact zs).Pairwise (· < ·) ∧ ∀ x, x ∈ Lib.compact zs ↔ x ∈ zs := by
  have hget : ∀ i (h : i < zs.length), zs.toArray[i]! = zs[i] := fun i h => by simp [h]
  unfold Lib.compact Lib.compactUpTo
  refine ⟨?_, fun x => ?_⟩
  · rw [List.pairwise_map]
    have h0 : (List.range zs.length).Pairwise (· < ·) := List.pairwise_lt_range
    have h1 : ((List.range zs.length).filter (Lib.keeps zs.toArray)).Pairwise fun i j => i < j ∧ i ∈ List.range zs.length ∧ j ∈ List.range zs.length ∧ Lib.keeps zs.toArray j = true := by
      have hf : ((List.range zs.length).filter (Lib.keeps zs.toArray)).Pairwise (· < ·) := h0.filter _
      refine hf.imp_of_mem ?_
      intro i j hi hj hij
      exact ⟨hij, (List.mem_filter.1 hi).1, (List.mem_filter.1 hj).1, (List.mem_filter.1 hj).2⟩
    refine h1.imp ?_
    rintro i j ⟨hij, hi, hj, hk⟩
    rw [List.mem_range] at hi hj
    have hk' : zs[j] ≠ zs[j - 1] := by
      unfold Lib.keeps at hk
      simp only [decide_eq_true_eq] at hk
      rcases hk with hk | hk
      · omega
      · rwa [hget j hj, hget (j - 1) (by omega)] at hk
    rw [hget i hi, hget j hj]
    have h3 : ¬ zs[j] < zs[j - 1] := List.pairwise_iff_getElem.1 hz (j - 1) j (by omega) hj (by omega)
    have h4 : zs[j - 1] < zs[j] := by
      rcases lt_tri zs[j - 1] zs[j] with q | q | q
      · exact q
      · exact (hk' q.symm).elim
      · exact (h3 q).elim
    rcases Nat.lt_or_eq_of_le (show i ≤ j - 1 by omega) with h5 | h5
    · exact le_lt (List.pairwise_iff_getElem.1 hz i (j - 1) hi (by omega) h5) h4
    · simp only [h5]; exact h4
  · simp only [List.mem_map, List.mem_filter, List.mem_range]
    constructor
    · rintro ⟨j, ⟨hj, _⟩, rfl⟩
      rw [hget j hj]; exact List.getElem_mem hj
    · intro hx
      obtain ⟨i, hi, rfl⟩ := List.mem_iff_getElem.1 hx
      have key : ∀ i (hi : i < zs.length), ∃ j, (j < zs.length ∧ Lib.keeps zs.toArray j = true) ∧ zs.toArray[j]! = zs[i] := by
        intro i
        induction i with
        | zero => intro hi; exact ⟨0, ⟨hi, by simp [Lib.keeps]⟩, hget 0 hi⟩
        | succ i ih =>
          intro hi
          by_cases he : zs[i + 1] = zs[i]
          · obtain ⟨j, h1, h2⟩ := ih (by omega)
            exact ⟨j, h1, by rw [h2, he]⟩
          · refine ⟨i + 1, ⟨hi, ?_⟩, hget _ hi⟩
            unfold Lib.keeps
            rw [hget _ hi, Nat.add_sub_cancel, hget i (by omega)]
            simp [he]
      exact key i hi
/-- **Sorted, and each once.** -/
theorem compact_sort (xs : List Tx) (le : Tx → Tx → Bool) (hle : ∀ x y, le x y = !ltStr y x) : Lib.compact (xs.mergeSort le) = ord xs := by
  have hs : (xs.mergeSort le).Pairwise fun x y => ¬ y < x := by
    refine (List.pairwise_mergeSort (le := le) (fun a b c h1 h2 => ?_) (fun a b => ?_) xs).imp fun {a b} h => ?_
    · rw [hle] at h1 h2 ⊢
      simp only [Bool.not_eq_true'] at h1 h2 ⊢
      exact swo_ltStr.ntrans c b a h2 h1
    · rw [hle, hle]
      cases h : ltStr b a
      · simp
      · cases k : ltStr a b
        · simp
        · exfalso
          simp only [ltStr, decide_eq_true_eq] at h k
          exact lt_asymm' h k
    · rw [hle] at h
      simpa [ltStr] using h
  obtain ⟨h1, h2⟩ := compact_ord _ hs
  obtain ⟨h3, h4⟩ := ord_spec xs
  exact rise_ext h1 h3 fun x => by rw [h2, h4, List.mem_mergeSort]
theorem compact_len (zs : List Tx) : (Lib.compact zs).length ≤ zs.length := by
  unfold Lib.compact Lib.compactUpTo
  rw [List.length_map]
  exact Nat.le_trans (List.length_filter_le _ _) (by simp)
/-! ### Children -/
def kids (t : Tx) (l : List Tx) : List Tx := (l.filter (be · t)).map (child · t)
theorem kids_app (t : Tx) (a b : List Tx) : kids t (a ++ b) = kids t a ++ kids t b := by simp [kids]
theorem kids_len (t : Tx) (l : List Tx) : (kids t l).length ≤ l.length := by simpa [kids] using List.length_filter_le (be · t) l
theorem kids_one (t s : Tx) : kids t [s] = if be s t then [child s t] else [] := by
  unfold kids
  by_cases h : be s t = true <;> simp [h]
theorem ord_mem {xs : List Tx} {x : Tx} : x ∈ ord xs ↔ x ∈ xs := (ord_spec xs).2 x
theorem ord_twice (t : Tx) (l : List Tx) : ord (kids t (l ++ l)) = ord (kids t l) :=
  rise_ext (ord_spec _).1 (ord_spec _).1 fun x => by rw [ord_mem, ord_mem, kids_app, List.mem_append, or_self]
theorem ord_halves {t : Tx} {a b : List Tx} {x : Tx} (h : x ∈ ord (kids t (a ++ b))) : x ∈ ord (kids t a) ∨ x ∈ ord (kids t b) := by
  rw [ord_mem, kids_app, List.mem_append] at h
  exact h.imp ord_mem.2 ord_mem.2
theorem child_in {t s : Tx} {l : List Tx} (hs : s ∈ l) (h : be s t = true) : child s t ∈ ord (kids t l) := by
  rw [ord_mem]
  unfold kids
  exact List.mem_map.2 ⟨s, List.mem_filter.2 ⟨hs, h⟩, rfl⟩
theorem comp_len (l : Tx) : (comp l).length ≤ l.length := by simp [comp]; omega
theorem child_len (s t : Tx) : (child s t).length ≤ s.length := by
  unfold child
  split
  · have := comp_len (rest s t)
    unfold rest at this ⊢
    split at this <;> split <;> simp_all <;> omega
  · simp
theorem less_lt (a b : Tx) : Op.bytesLess a b = ltStr a b := by
  induction a generalizing b with
  | nil => cases b <;> simp [Op.bytesLess, ltStr]
  | cons x a ih =>
    cases b with
    | nil => simp [Op.bytesLess, ltStr]
    | cons y b =>
      rw [Op.bytesLess, ih b]
      unfold ltStr
      rw [Bool.eq_iff_iff]
      simp [List.cons_lt_cons_iff]
theorem ord_get_lt {xs : List Tx} {i : Nat} (h : i + 1 < (ord xs).length) : Op.bytesLess (ord xs)[i] (ord xs)[i + 1] = true := by
  have := List.pairwise_iff_getElem.1 (ord_spec xs).1 i (i + 1) (by omega) h (by omega)
  rw [less_lt]
  simpa [ltStr] using this
end Go.Proofs.Ytnhelmnenhphjaa.Pad.Under
