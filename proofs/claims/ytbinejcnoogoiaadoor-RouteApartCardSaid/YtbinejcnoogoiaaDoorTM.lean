/- Paths: characters, pieces, what is left of a text. No program in it. -/
import Derived.Test.YtbinejcnoogoiaaDoorRM
set_option linter.unusedVariables false
set_option linter.unusedSimpArgs false
namespace Go.Proofs.YtbinejcnoogoiaaDoor.Pad.Route
open Go.Proofs.YtbinejcnoogoiaaDoor.Pad.Runes
def okc (c : Int) : Bool := decide (97 ≤ c ∧ c ≤ 122 ∨ 65 ≤ c ∧ c ≤ 90 ∨ 48 ≤ c ∧ c ≤ 57 ∨ c = 45 ∨ c = 46 ∨ c = 95 ∨ 192 ≤ c ∧ c ≤ 55295)
theorem nx_pos (l : List UInt8) (i : Nat) : 1 ≤ (nx l i).2 := by
  unfold nx; repeat' split
  all_goals simp
theorem nx_four (l : List UInt8) (i : Nat) : (nx l i).2 ≤ 4 := by
  unfold nx; repeat' split
  all_goals simp
theorem nx_lo (l : List UInt8) (i : Nat) : -1 ≤ (nx l i).1 := by
  unfold nx; repeat' split
  all_goals (simp; try omega)
theorem nx_hi (l : List UInt8) (i : Nat) : (nx l i).1 ≤ 1114111 := by
  have hb : ∀ k, at' l k < 256 := fun k => (l.getD k 0).toNat_lt
  have h0 := hb i; have h1 := hb (i + 1); have h2 := hb (i + 2); have h3 := hb (i + 3)
  unfold nx; repeat' split
  all_goals (simp; try omega)
theorem at_drop (l : List UInt8) (i k : Nat) : at' l (i + k) = at' (l.drop i) k := by
  simp [at', List.getD_eq_getElem?_getD, List.getElem?_drop]
theorem tl_drop (l : List UInt8) (i k : Nat) : tl l (i + k) = tl (l.drop i) k := by
  unfold tl
  rw [at_drop]
  congr 2
  rw [decide_eq_decide, List.length_drop]
  omega
theorem nx_drop (l : List UInt8) (i : Nat) : nx l i = nx (l.drop i) 0 := by
  unfold nx
  simp only [Nat.zero_add, ← at_drop l i 1, ← at_drop l i 2, ← at_drop l i 3, ← tl_drop l i 1, ← tl_drop l i 2, ← tl_drop l i 3]
  have : at' (l.drop i) 0 = at' l i := by rw [← at_drop]; rfl
  simp only [this]
theorem nx_le (l : List UInt8) (i : Nat) (h : i < l.length) : i + (nx l i).2 ≤ l.length := by
  have t : ∀ k, tl l (i + k) = true → i + k < l.length := fun k hk => by simp [tl] at hk; exact hk.1.1
  unfold nx
  repeat' split
  · simp; omega
  · rename_i g; have := t 1 g.2.1; simp; omega
  · rename_i g; have := t 2 g.2.2.1; simp; omega
  · rename_i g; have := t 3 g.2.2.2.1; simp; omega
  · simp; omega
def toksF : Nat → List UInt8 → List (Int × List UInt8)
  | 0, _ => []
  | _ + 1, [] => []
  | n + 1, b :: r => ((nx (b :: r) 0).1, (b :: r).take (nx (b :: r) 0).2) :: toksF n ((b :: r).drop (nx (b :: r) 0).2)
def toks (r : List UInt8) : List (Int × List UInt8) := toksF r.length r
theorem toksF_enough : ∀ (n m : Nat) (r : List UInt8), r.length ≤ n → r.length ≤ m → toksF n r = toksF m r
  | 0, m, [], _, _ => by cases m <;> rfl
  | 0, _, _ :: _, h, _ => by simp at h
  | _ + 1, 0, [], _, _ => rfl
  | _ + 1, 0, _ :: _, _, h => by simp at h
  | _ + 1, _ + 1, [], _, _ => rfl
  | n + 1, m + 1, b :: r, h, h' => by
    have hp := nx_pos (b :: r) 0
    simp only [toksF]
    rw [toksF_enough n m _ (by simp only [List.length_drop]; simp at h ⊢; omega) (by simp only [List.length_drop]; simp at h' ⊢; omega)]
theorem toks_nil : toks [] = [] := rfl
theorem toks_cons {r : List UInt8} (h : r ≠ []) : toks r = ((nx r 0).1, r.take (nx r 0).2) :: toks (r.drop (nx r 0).2) := by
  cases r with
  | nil => exact (h rfl).elim
  | cons b r =>
    have hp := nx_pos (b :: r) 0
    show toksF (r.length + 1) (b :: r) = _
    simp only [toksF]
    unfold toks
    rw [toksF_enough r.length ((b :: r).drop (nx (b :: r) 0).2).length _ (by simp only [List.length_drop, List.length_cons]; omega) (Nat.le_refl _)]
/-- What stands from a place on. -/
theorem toks_at (l : List UInt8) (i : Nat) (h : i < l.length) : toks (l.drop i) = ((nx l i).1, (l.drop i).take (nx l i).2) :: toks (l.drop (i + (nx l i).2)) := by
  rw [toks_cons (by intro e; have := congrArg List.length e; simp at this; omega), ← nx_drop, List.drop_drop]
theorem toks_len : ∀ (n : Nat) (r : List UInt8), r.length = n → (toks r).length ≤ r.length := by
  intro n
  induction n using Nat.strongRecOn with
  | _ n ih =>
    intro r hr
    by_cases h : r = []
    · subst h; simp [toks_nil]
    · have hp := nx_pos r 0
      have hl : 0 < r.length := List.length_pos_iff.2 h
      rw [toks_cons h]
      have := ih (r.drop (nx r 0).2).length (by rw [List.length_drop]; omega) _ rfl
      rw [List.length_drop] at this
      simp only [List.length_cons]
      omega
def vt (t : Int × List UInt8) : Prop := t.2 ≠ [] ∧ 0 ≤ t.1 ∧ ∀ r', nx (t.2 ++ r') 0 = (t.1, t.2.length)
theorem nx_local (r r' : List UInt8) (hr : r ≠ []) (h : 0 ≤ (nx r 0).1) : nx (r.take (nx r 0).2 ++ r') 0 = nx r 0 := by
  have hl : 0 < r.length := List.length_pos_iff.2 hr
  have hle := nx_le r 0 hl
  rw [Nat.zero_add] at hle
  have hat : ∀ k, k < (nx r 0).2 → at' (r.take (nx r 0).2 ++ r') k = at' r k := fun k hk => by
    unfold at'
    rw [List.getD_eq_getElem?_getD, List.getElem?_append_left (by simp; omega), List.getElem?_take, if_pos hk, ← List.getD_eq_getElem?_getD]
  have htl : ∀ k, k < (nx r 0).2 → tl (r.take (nx r 0).2 ++ r') k = tl r k := fun k hk => by
    unfold tl
    rw [hat k hk]
    congr 2
    rw [decide_eq_decide]
    simp; omega
  generalize hm : r.take (nx r 0).2 ++ r' = m at hat htl
  clear hm
  revert h hat htl
  generalize hn : nx r 0 = p
  rw [nx] at hn
  intro h hat htl
  repeat' split at hn
  · subst hn
    have := hat 0 (by simp)
    simp only [nx, this]
    rename_i g
    simp [g]
  · subst hn
    have a0 := hat 0 (by simp); have a1 := hat 1 (by simp); have t1 := htl 1 (by simp)
    rename_i g0 g
    simp only [Nat.zero_add] at g ⊢
    simp only [nx, a0, a1, t1, Nat.zero_add]
    simp [g0, g]
  · subst hn
    have a0 := hat 0 (by simp); have a1 := hat 1 (by simp); have t1 := htl 1 (by simp); have a2 := hat 2 (by simp); have t2 := htl 2 (by simp)
    rename_i g0 g1 g
    simp only [Nat.zero_add] at g g1 ⊢
    have n6 : ¬ at' r 0 / 32 = 6 := by omega
    simp only [nx, a0, a1, t1, a2, t2, Nat.zero_add, n6, g0, if_false, false_and, if_pos g]
  · subst hn
    have a0 := hat 0 (by simp); have a1 := hat 1 (by simp); have t1 := htl 1 (by simp); have a2 := hat 2 (by simp); have t2 := htl 2 (by simp); have a3 := hat 3 (by simp); have t3 := htl 3 (by simp)
    rename_i g0 g1 g2 g
    simp only [Nat.zero_add] at g ⊢
    have n6 : ¬ at' r 0 / 32 = 6 := by omega
    have n14 : ¬ at' r 0 / 16 = 14 := by omega
    simp only [nx, a0, a1, t1, a2, t2, a3, t3, Nat.zero_add, n6, n14, g0, if_false, false_and, if_pos g]
  · subst hn
    simp at h
theorem toks_vt : ∀ (n : Nat) (r : List UInt8), r.length = n → ∀ t ∈ toks r, 0 ≤ t.1 → vt t := by
  intro n
  induction n using Nat.strongRecOn with
  | _ n ih =>
    intro r hr t ht h0
    by_cases h : r = []
    · subst h; simp [toks_nil] at ht
    · have hp := nx_pos r 0
      have hl : 0 < r.length := List.length_pos_iff.2 h
      have hle := nx_le r 0 hl
      rw [Nat.zero_add] at hle
      rw [toks_cons h] at ht
      rcases List.mem_cons.1 ht with rfl | ht
      · refine ⟨fun e => ?_, h0, fun r' => ?_⟩
        · have := congrArg List.length e; simp only [List.length_take, List.length_nil] at this; omega
        · rw [nx_local r r' h h0, List.length_take, Nat.min_eq_left hle]
      · exact ih (r.drop (nx r 0).2).length (by rw [List.length_drop]; omega) _ rfl t ht h0
theorem toks_app {t : Int × List UInt8} (h : vt t) (r : List UInt8) : toks (t.2 ++ r) = t :: toks r := by
  rw [toks_cons (by simp [h.1]), h.2.2 r]
  simp
theorem toks_flat : ∀ (ts : List (Int × List UInt8)), (∀ t ∈ ts, vt t) → toks (ts.flatMap (·.2)) = ts
  | [], _ => rfl
  | t :: ts, h => by
    rw [List.flatMap_cons, toks_app (h t (List.mem_cons_self ..)), toks_flat ts fun u hu => h u (List.mem_cons_of_mem _ hu)]
theorem toks_bytes : ∀ (n : Nat) (r : List UInt8), r.length = n → (toks r).flatMap (·.2) = r := by
  intro n
  induction n using Nat.strongRecOn with
  | _ n ih =>
    intro r hr
    by_cases h : r = []
    · subst h; rfl
    · have hp := nx_pos r 0
      have hl : 0 < r.length := List.length_pos_iff.2 h
      rw [toks_cons h, List.flatMap_cons, ih (r.drop (nx r 0).2).length (by rw [List.length_drop]; omega) _ rfl]
      simp
def cleanL (r : List UInt8) : List UInt8 := ((toks r).filter (okc ·.1)).flatMap (·.2)
theorem okc_lo {c : Int} (h : okc c = true) : 0 ≤ c := by simp [okc] at h; omega
theorem toks_clean (r : List UInt8) : toks (cleanL r) = (toks r).filter (okc ·.1) :=
  toks_flat _ fun t ht => by
    rw [List.mem_filter] at ht
    exact toks_vt _ r rfl t ht.1 (okc_lo ht.2)
theorem clean_clean (r : List UInt8) : cleanL (cleanL r) = cleanL r := by
  show ((toks (cleanL r)).filter _).flatMap _ = _
  rw [toks_clean, List.filter_filter]
  simp only [Bool.and_self]
  rfl
theorem clean_ok (r : List UInt8) : (toks (cleanL r)).all (okc ·.1) = true := by
  rw [toks_clean, List.all_eq_true]
  intro t ht
  exact (List.mem_filter.1 ht).2
def isBad (t : Int × List UInt8) : Bool := decide (t.1 < 0)
def cntE (r : List UInt8) : Int := if (toks r).any isBad then 4 else 0
theorem clean_cnt (r : List UInt8) : cntE (cleanL r) = 0 := by
  unfold cntE
  rw [if_neg]
  simp only [List.any_eq_true, not_exists, not_and, isBad, decide_eq_true_eq]
  intro t ht h
  have := List.all_eq_true.1 (clean_ok r) t ht
  have := okc_lo this
  omega
def special (s : List UInt8) : Bool := decide (s = [] ∨ s = [46] ∨ s = [46, 46] ∨ s = [45])
def partE (s : List UInt8) : Int := if special s then 4 else if (toks s).all (okc ·.1) then (if 12 < (toks s).length then 5 else 0) else 4
theorem partE_3 (s : List UInt8) : partE s = 0 ∨ partE s = 4 ∨ partE s = 5 := by
  unfold partE; repeat' split
  all_goals simp
theorem toks_zero {s : List UInt8} (h : (toks s).length = 0) : s = [] := by
  have := toks_bytes _ s rfl
  rw [List.eq_nil_of_length_eq_zero h] at this
  simpa using this.symm
theorem part_clean (s : List UInt8) : (partE (cleanL s) = 0) ↔ (0 < (toks (cleanL s)).length ∧ (toks (cleanL s)).length ≤ 12 ∧ cleanL s ≠ [46] ∧ cleanL s ≠ [46, 46] ∧ cleanL s ≠ [45]) := by
  unfold partE
  rw [clean_ok]
  by_cases h : special (cleanL s) = true
  · rw [if_pos h]
    simp [special] at h
    constructor
    · intro e; simp at e
    · rintro ⟨h1, h2, h3, h4, h5⟩
      rcases h with h | h | h | h
      · rw [h] at h1; simp [toks_nil] at h1
      · exact (h3 h).elim
      · exact (h4 h).elim
      · exact (h5 h).elim
  · rw [if_neg h]
    simp [special] at h
    simp only [if_true]
    split
    · rename_i g
      constructor
      · intro e; simp at e
      · rintro ⟨h1, h2, _⟩; omega
    · rename_i g
      refine ⟨fun _ => ⟨?_, by omega, h.2.1, h.2.2.1, h.2.2.2⟩, fun _ => rfl⟩
      rcases Nat.eq_zero_or_pos (toks (cleanL s)).length with e | e
      · exact (h.1 (toks_zero e)).elim
      · exact e

/-! Pieces. -/
def pieces : List UInt8 → List (List UInt8)
  | [] => [[]]
  | c :: r => if c = 47 then [] :: pieces r else match pieces r with
    | p :: ps => (c :: p) :: ps
    | [] => [[c]]
def joinL : List (List UInt8) → List UInt8
  | [] => []
  | [p] => p
  | p :: q :: ps => p ++ 47 :: joinL (q :: ps)
theorem pieces_ne (l : List UInt8) : pieces l ≠ [] := by
  cases l with
  | nil => simp [pieces]
  | cons c r =>
    unfold pieces
    split
    · simp
    · split <;> simp
theorem join_cons {p : List UInt8} {ps : List (List UInt8)} (h : ps ≠ []) : joinL (p :: ps) = p ++ 47 :: joinL ps := by
  cases ps with
  | nil => exact (h rfl).elim
  | cons q ps => rfl
theorem join_pieces : ∀ l : List UInt8, joinL (pieces l) = l
  | [] => rfl
  | c :: r => by
    have ih := join_pieces r
    unfold pieces
    split
    · rename_i h
      rw [join_cons (pieces_ne r), ih, h]
      rfl
    · split
      · rename_i p ps hp
        rw [hp] at ih
        cases ps with
        | nil => simp only [joinL] at ih ⊢; rw [ih]
        | cons q ps =>
          simp only [joinL] at ih ⊢
          rw [List.cons_append, ih]
      · rename_i hp; exact (pieces_ne r hp).elim
theorem pieces_no : ∀ p : List UInt8, 47 ∉ p → pieces p = [p]
  | [], _ => rfl
  | c :: r, h => by
    have h1 : ¬ c = 47 := fun e => h (by simp [e])
    have h2 : 47 ∉ r := fun e => h (List.mem_cons_of_mem _ e)
    unfold pieces
    rw [if_neg h1, pieces_no r h2]
theorem pieces_app : ∀ (p r : List UInt8), 47 ∉ p → pieces (p ++ 47 :: r) = p :: pieces r
  | [], r, _ => by simp [pieces]
  | c :: p, r, h => by
    have h1 : ¬ c = 47 := fun e => h (by simp [e])
    have h2 : 47 ∉ p := fun e => h (List.mem_cons_of_mem _ e)
    rw [List.cons_append]
    conv => lhs; unfold pieces
    rw [if_neg h1, pieces_app p r h2]
theorem pieces_join : ∀ ps : List (List UInt8), ps ≠ [] → (∀ p ∈ ps, 47 ∉ p) → pieces (joinL ps) = ps
  | [], h, _ => (h rfl).elim
  | [p], _, h => by
    simp only [joinL]
    exact pieces_no p (h p (List.mem_cons_self ..))
  | p :: q :: ps, _, h => by
    rw [join_cons (by simp), pieces_app p _ (h p (List.mem_cons_self ..)), pieces_join (q :: ps) (by simp) fun x hx => h x (List.mem_cons_of_mem _ hx)]
theorem pieces_slash : ∀ l : List UInt8, ∀ p ∈ pieces l, 47 ∉ p
  | [], p, h => by simp [pieces] at h; subst h; simp
  | c :: r, p, h => by
    have ih := pieces_slash r
    unfold pieces at h
    split at h
    · rcases List.mem_cons.1 h with rfl | h
      · simp
      · exact ih p h
    · rename_i hc
      split at h
      · rename_i q ps hq
        rw [hq] at ih
        rcases List.mem_cons.1 h with rfl | h
        · intro e
          rcases List.mem_cons.1 e with e | e
          · exact hc e.symm
          · exact ih q (List.mem_cons_self ..) e
        · exact ih p (List.mem_cons_of_mem _ h)
      · rename_i hq; exact (pieces_ne r hq).elim
theorem pieces_end : ∀ l : List UInt8, pieces (l ++ [47]) = pieces l ++ [[]]
  | [] => by simp [pieces]
  | c :: r => by
    have ih := pieces_end r
    rw [List.cons_append]
    conv => lhs; unfold pieces
    conv => rhs; unfold pieces
    rw [ih]
    split
    · rfl
    · cases hq : pieces r with
      | nil => exact (pieces_ne r hq).elim
      | cons q ps => rfl
theorem pieces_len (l : List UInt8) : (pieces l).length = l.count 47 + 1 := by
  induction l with
  | nil => rfl
  | cons c r ih =>
    unfold pieces
    by_cases h : c = 47
    · rw [if_pos h, h, List.count_cons_self, List.length_cons, ih]
    · rw [if_neg h, List.count_cons_of_ne h]
      cases hq : pieces r with
      | nil => exact (pieces_ne r hq).elim
      | cons q ps => rw [hq] at ih; simpa using ih
theorem piece_le : ∀ (l : List UInt8), ∀ p ∈ pieces l, p.length ≤ l.length
  | [], p, h => by simp [pieces] at h; subst h; simp
  | c :: r, p, h => by
    have ih := piece_le r
    unfold pieces at h
    split at h
    · rcases List.mem_cons.1 h with rfl | h
      · simp
      · have := ih p h; simp; omega
    · split at h
      · rename_i q ps hq
        rw [hq] at ih
        rcases List.mem_cons.1 h with rfl | h
        · have := ih q (List.mem_cons_self ..); simp; omega
        · have := ih p (List.mem_cons_of_mem _ h); simp; omega
      · rename_i hq; exact (pieces_ne r hq).elim
def is4 (p : List UInt8) : Bool := decide (partE p = 4)
def is5 (p : List UInt8) : Bool := decide (partE p = 5)
def checkE (s : List UInt8) : Int := if 64 < s.length then 5 else if (pieces s).any is4 then 4 else if (pieces s).any is5 then 5 else if 6 < (pieces s).length then 24 else 0
theorem check_0 {s : List UInt8} : checkE s = 0 ↔ s.length ≤ 64 ∧ (∀ p ∈ pieces s, partE p = 0) ∧ (pieces s).length ≤ 6 := by
  unfold checkE
  constructor
  · intro h
    split at h
    · simp at h
    · rename_i h1
      split at h
      · simp at h
      · rename_i h2
        split at h
        · simp at h
        · rename_i h3
          split at h
          · simp at h
          · rename_i h4
            refine ⟨by omega, fun p hp => ?_, by omega⟩
            have a4 : ¬ partE p = 4 := fun e => h2 (List.any_eq_true.2 ⟨p, hp, by simp [is4, e]⟩)
            have a5 : ¬ partE p = 5 := fun e => h3 (List.any_eq_true.2 ⟨p, hp, by simp [is5, e]⟩)
            rcases partE_3 p with e | e | e
            · exact e
            · exact (a4 e).elim
            · exact (a5 e).elim
  · rintro ⟨h1, h2, h3⟩
    have a4 : ¬ (pieces s).any is4 = true := fun e => by
      obtain ⟨p, hp, e⟩ := List.any_eq_true.1 e
      have := h2 p hp
      simp [is4, this] at e
    have a5 : ¬ (pieces s).any is5 = true := fun e => by
      obtain ⟨p, hp, e⟩ := List.any_eq_true.1 e
      have := h2 p hp
      simp [is5, this] at e
    rw [if_neg (by omega), if_neg a4, if_neg a5, if_neg (by omega)]
theorem part_nil : partE [] = 4 := rfl
theorem check_end (x : List UInt8) : checkE (x ++ [47]) ≠ 0 := fun h => by
  have := (check_0.1 h).2.1 [] (by rw [pieces_end]; simp)
  rw [part_nil] at this
  simp at this
theorem check_head (y : List UInt8) : checkE (47 :: y) ≠ 0 := fun h => by
  have := (check_0.1 h).2.1 [] (by simp [pieces])
  rw [part_nil] at this
  simp at this
def slashy (ps : List (List UInt8)) : Bool := ps.any fun p => p.contains 47
def joinE (ps : List (List UInt8)) : Int := if ps = [] then 4 else if slashy ps then 4 else checkE (joinL ps)
def joinS (ps : List (List UInt8)) : List UInt8 := if joinE ps = 0 then joinL ps else []
theorem join_0 {ps : List (List UInt8)} (h : joinE ps = 0) : ps ≠ [] ∧ (∀ p ∈ ps, 47 ∉ p) ∧ checkE (joinL ps) = 0 ∧ pieces (joinL ps) = ps ∧ joinS ps = joinL ps := by
  have hs : joinS ps = joinL ps := by unfold joinS; rw [if_pos h]
  unfold joinE at h
  split at h
  · simp at h
  · rename_i h1
    split at h
    · simp at h
    · rename_i h2
      have h3 : ∀ p ∈ ps, 47 ∉ p := fun p hp e => h2 (List.any_eq_true.2 ⟨p, hp, by simpa using e⟩)
      exact ⟨h1, h3, h, pieces_join ps h1 h3, hs⟩
theorem join_of_pieces {s : List UInt8} (h : checkE s = 0) : joinE (pieces s) = 0 ∧ joinS (pieces s) = s := by
  have h1 : joinE (pieces s) = 0 := by
    unfold joinE
    rw [if_neg (pieces_ne s), join_pieces, if_neg, h]
    intro e
    obtain ⟨p, hp, e⟩ := List.any_eq_true.1 e
    exact pieces_slash s p hp (by simpa using e)
  exact ⟨h1, by rw [(join_0 h1).2.2.2.2, join_pieces]⟩
end Go.Proofs.YtbinejcnoogoiaaDoor.Pad.Route
