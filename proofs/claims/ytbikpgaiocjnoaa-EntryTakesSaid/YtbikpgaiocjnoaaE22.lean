/- Functions of the library that turn a row of texts in place. -/
import Derived.Test.YtbikpgaiocjnoaaE20
import Derived.Sort.EncStr
import Derived.Sort.Row
import Derived.Sort.Grow
set_option linter.unusedVariables false
set_option linter.unusedSimpArgs false
namespace Go.Proofs.Ytbikpgaiocjnoaa.Pad
open Go.RowKit Go.Sort Go.Proofs
/-- A row laid over another one, and new blocks behind. -/
theorem laid_heap {w : World} {blk n : Nat} {ls : List (List UInt8)} {os : Array Obj} {c : Array Value} {e : TypeId} {f : Nat × Nat} (h : w.heap[blk]? = some (.cells c e f)) :
    (grow (putRow encStr (Go.Sort.ahead w n) blk 0 ls.toArray) os).heap[blk]? = some (.cells (putCells encStr 0 ls.toArray c) e f) := by
  have hlt := lt_of_heap h
  rw [heap_grow_old _ _ (by simpa using hlt)]
  simp only [putRow, mapBlock, heap_ahead, Array.getElem?_modify, if_true, h, Option.map_some, onCells]
theorem laid_chg {w : World} {blk n : Nat} {ls : List (List UInt8)} {os : Array Obj} (hb : blk < w.heap.size) :
    Chg (fun b _ => b = blk) w (grow (putRow encStr (Go.Sort.ahead w n) blk 0 ls.toArray) os) := by
  have hne : ∀ k, k < w.heap.size → k ≠ blk → (grow (putRow encStr (Go.Sort.ahead w n) blk 0 ls.toArray) os).heap[k]? = w.heap[k]? := fun k hk hn => by
    rw [heap_grow_old _ _ (by simpa using hk)]
    simp only [putRow, mapBlock, heap_ahead, Array.getElem?_modify]
    rw [if_neg (Ne.symm hn)]
  refine ⟨rfl, rfl, rfl, by simp, fun k hk hn => hne k hk (hn 0), fun k c e f hk => ?_, fun k hk hn c e f => ?_⟩
  · by_cases hkb : k = blk
    · subst hkb
      exact ⟨_, laid_heap hk, by simp [putCells], fun o ho => (ho rfl).elim⟩
    · exact ⟨c, by rw [hne k (lt_of_heap hk) hkb]; exact hk, rfl, fun _ _ => rfl⟩
  · by_cases hkb : k = blk
    · subst hkb
      rw [heap_grow_old _ _ (by simpa using hb)]
      simp only [putRow, mapBlock, heap_ahead, Array.getElem?_modify, if_true]
      cases ho : w.heap[k]? with
      | none => simp
      | some o =>
        cases o with
        | cells c' e' f' => exact (hn c' e' f' ho).elim
        | _ => simp [onCells]
    · rw [hne k hk hkb]; exact hn c e f
theorem repL_texts {w : World} {F : Fp} : ∀ (ls : List (List UInt8)) (vs : List Value), RepL w F true (ls.map .str) vs ↔ vs = ls.map fun l => Value.string ⟨l.toArray⟩
  | [], vs => by simp [RepL]
  | l :: ls, vs => by
    simp only [List.map_cons, RepL, Rep]
    constructor
    · rintro ⟨v, vs', rfl, _, rfl, h⟩
      rw [(repL_texts ls vs').1 h]
    · rintro rfl
      exact ⟨_, _, rfl, fun _ => rfl, rfl, (repL_texts ls _).2 rfl⟩
theorem put_take {ls : List (List UInt8)} {c : Array Value} {m : Nat} (h : ls.length ≤ c.size) (hm : m ≤ ls.length) : (putCells encStr 0 ls.toArray c).toList.take m = (ls.take m).map fun l => Value.string ⟨l.toArray⟩ := by
  apply List.ext_getElem?
  intro i
  rw [List.getElem?_take]
  by_cases hi : i < m
  · rw [if_pos hi, Array.getElem?_toList]
    simp only [putCells, Array.getElem?_mapIdx, List.size_toArray]
    rw [Array.getElem?_eq_getElem (by omega), Option.map_some, if_pos (by omega), List.getElem?_map, List.getElem?_take, if_pos hi, Nat.sub_zero]
    have hl : i < ls.length := by omega
    rw [List.getElem?_eq_getElem hl]
    simp [encStr, hl]
  · rw [if_neg hi]
    simp
    omega
/-- What the row holds, as the library asks it. -/
theorem holds_texts {w : World} {blk lo hi : Nat} {ls : List (List UInt8)} {cur : Array Value} {e : TypeId} {c : Nat} (h : w.heap[blk]? = some (.cells cur e (lo, hi))) (hc : cur.size = c) (hn : ls.length ≤ c) (ht : cur.toList.take ls.length = ls.map fun l => Value.string ⟨l.toArray⟩) (hf : hi ≤ lo ∨ c ≤ lo) :
    Holds encStr w blk 0 ls.toArray := by
  intro j hj
  simp only [List.size_toArray] at hj
  refine ⟨?_, ?_⟩
  · rw [cell_of_heap h, Nat.zero_add]
    have := congrArg (fun l => l[j]?) ht
    simp only [List.getElem?_take, if_pos hj, Array.getElem?_toList, List.getElem?_map, List.getElem?_eq_getElem hj, Option.map_some] at this
    rw [this]
    simp [encStr, hj]
  · simp only [World.frozen?, h]
    rcases hf with hf | hf <;> simp <;> omega
section
variable {P : Program} [Globs P]
theorem given_rest {w : World} {F : Fp} {Os : Nat → Fp} {β : Nat → Nat} {x : AV} {rest : List AV} {vs : Array Value} (hg : Given P w F Os β (x :: rest) vs) (hl : rest.all AV.lit = true) : ∃ v, vs = #[v] ++ (rest.map AV.litV).toArray ∧ RepTop w F (Os 0) β 0 x v := by
  have hs := hg.size
  simp only [List.length_cons] at hs
  refine ⟨vs[0], ?_, (hg.rep 0 x vs[0] rfl (Array.getElem?_eq_getElem (by omega))).1⟩
  apply Array.ext
  · simp [hs]
  · intro i h1 h2
    cases i with
    | zero => simp
    | succ i =>
      have hi : i < rest.length := by omega
      have := (hg.rep (i + 1) rest[i] vs[i + 1] (by simp [hi]) (Array.getElem?_eq_getElem h1)).1
      rw [lit_eq (List.all_eq_true.1 hl _ (List.getElem_mem hi)) this]
      simp [Array.getElem_append]
/-- **A function that turns a row of texts in place, and tells nothing.** -/
theorem pfb_texts {f : Nat} {ls ls' : List (List UInt8)} {rest : List AV} (hl : rest.all AV.lit = true) (hlen : ls'.length = ls.length)
    (h0 : ls = [] → ∀ w, Calls P f (#[.slice none 0 0] ++ (rest.map AV.litV).toArray) w fun e w' => e = .returned (.tuple #[]) ∧ w' = w)
    (h1 : ∀ w blk c, Holds encStr w blk 0 ls.toArray → blk < w.heap.size → ls.length ≤ c → Calls P f (#[.slice (some ⟨blk, 0, none⟩) ls.length c] ++ (rest.map AV.litV).toArray) w fun e w' =>
      e = .returned (.tuple #[]) ∧ ∃ n os, w' = grow (putRow encStr (Go.Sort.ahead w n) blk 0 ls'.toArray) os) :
    PFb P f (.mrow 1 (ls.map .str) ls.length :: rest) (.tup []) (.mrow 1 (ls'.map .str) ls'.length) := by
  intro w F Os β vs hg
  obtain ⟨v, rfl, hr⟩ := given_rest hg hl
  have hpos : ∀ p x u, (AV.mrow 1 (ls.map .str) ls.length :: rest)[p]? = some x → x.isBigB = true → (#[v] ++ (rest.map AV.litV).toArray)[p]? = some u → p = 0 ∧ u = v := fun p x u hx ho hu => by
    cases p with
    | zero => simpa [eq_comm] using hu
    | succ p =>
      simp only [List.getElem?_cons_succ] at hx
      have := List.all_eq_true.1 hl x (List.mem_of_getElem? hx)
      revert this ho; cases x <;> simp [AV.lit, AV.isBigB]
  simp only [RepTop] at hr
  rcases hr with ⟨rfl, he, hn⟩ | ⟨c, cur, e, lo, hi, rfl, g1, g2, g3, g4, g5, g6, g7, g8⟩
  · have hls : ls = [] := List.eq_nil_of_length_eq_zero hn
    have hls' : ls' = [] := List.eq_nil_of_length_eq_zero (by omega)
    subst hls; subst hls'
    refine (h0 rfl w).mono ?_
    rintro e w' ⟨rfl, rfl⟩
    refine ⟨_, F, NoFp, 0, rfl, ⟨Chg.refl _ _, by simp only [RepTop, Rep]; exact ⟨#[], rfl, by simp only [RepL]⟩, fun _ _ h => h.elim, fun b o h => .inl h, fun _ _ h => h.elim, hg.inF, fun _ _ h => h.elim, trivial⟩, fun p x u hx ho hu => ?_⟩
    obtain ⟨rfl, rfl⟩ := hpos p x u hx ho hu
    exact ⟨NoFp, by simp [RepTop], fun b o h => h.elim, trivial⟩
  · simp only [Nat.mul_one] at g4 g6 g8
    have hb := lt_of_heap g1
    refine (h1 w (β 0) c (holds_texts g1 g4 g2 ((repL_texts _ _).1 g6) g8) hb g2).mono ?_
    rintro x w' ⟨rfl, n, os, rfl⟩
    have hc := laid_chg (n := n) (ls := ls') (os := os) hb
    have hS : ∀ b o, b = β 0 → ∃ i, Os i b o := fun b o h => ⟨0, by rw [h]; exact g7 o⟩
    refine ⟨_, F, NoFp, 0, rfl, ⟨⟨hc.os, hc.tape, hc.output, hc.size, fun k hk hn => hc.same k hk fun o ho => hn o (hS k o ho), fun k c e f hk => by
        obtain ⟨c', q1, q2, q3⟩ := hc.cells k c e f hk
        exact ⟨c', q1, q2, fun o ho => q3 o fun hh => ho (hS k o hh)⟩, hc.other⟩, by simp only [RepTop, Rep]; exact ⟨#[], rfl, by simp only [RepL]⟩, fun _ _ h => h.elim, fun b o h => .inl h, fun _ _ h => h.elim, fun b o h => Nat.lt_of_lt_of_le (hg.inF b o h) hc.size, fun _ _ h => h.elim, trivial⟩, fun p x u hx ho hu => ?_⟩
    obtain ⟨rfl, rfl⟩ := hpos p x u hx ho hu
    refine ⟨Os 0, ?_, fun b o h => ⟨hg.sep 0 b o h, id, Nat.lt_of_lt_of_le (hg.inO 0 b o h).1 hc.size, .inr ⟨0, h⟩⟩, trivial⟩
    simp only [RepTop]
    refine .inr ⟨c, _, e, lo, hi, by rw [hlen], laid_heap g1, by omega, g3, by simp [putCells, g4], by simp, ?_, g7, by simpa using g8⟩
    rw [Nat.mul_one, put_take (by omega) (Nat.le_refl _), List.take_length]
    exact (repL_texts _ _).2 rfl
/-- **A function that is given a row of texts, and tells a part of it, turned.** -/
theorem pf_texts_row {f : Nat} {ls fs : List (List UInt8)} {m : Nat} {rest : List AV} (hl : rest.all AV.lit = true) (hlen : fs.length = ls.length) (hm : m ≤ ls.length)
    (h0 : ls = [] → ∀ w, Calls P f (#[.slice none 0 0] ++ (rest.map AV.litV).toArray) w fun e w' => e = .returned (.slice none 0 0) ∧ w' = w)
    (h1 : ∀ w blk c, Holds encStr w blk 0 ls.toArray → blk < w.heap.size → ls.length ≤ c → Calls P f (#[.slice (some ⟨blk, 0, none⟩) ls.length c] ++ (rest.map AV.litV).toArray) w fun e w' =>
      e = .returned (.slice (some ⟨blk, 0, none⟩) m c) ∧ ∃ n os, w' = grow (putRow encStr (Go.Sort.ahead w n) blk 0 fs.toArray) os) :
    PFx P f (.mrow 1 (ls.map .str) ls.length :: rest) (.row 1 ((fs.take m).map .str) m) := by
  intro w F Os β vs hg
  obtain ⟨v, rfl, hr⟩ := given_rest hg hl
  simp only [RepTop] at hr
  rcases hr with ⟨rfl, he, hn⟩ | ⟨c, cur, e, lo, hi, rfl, g1, g2, g3, g4, g5, g6, g7, g8⟩
  · have hls : ls = [] := List.eq_nil_of_length_eq_zero hn
    have hfs : fs = [] := List.eq_nil_of_length_eq_zero (by omega)
    subst hls; subst hfs
    simp only [List.length_nil, Nat.le_zero] at hm
    subst hm
    refine (h0 rfl w).mono ?_
    rintro e w' ⟨rfl, rfl⟩
    exact ⟨_, F, NoFp, 0, rfl, ⟨Chg.refl _ _, by simp [RepTop], fun _ _ h => h.elim, fun b o h => .inl h, fun _ _ h => h.elim, hg.inF, fun _ _ h => h.elim, trivial⟩⟩
  · simp only [Nat.mul_one] at g4 g6 g8
    have hb := lt_of_heap g1
    refine (h1 w (β 0) c (holds_texts g1 g4 g2 ((repL_texts _ _).1 g6) g8) hb g2).mono ?_
    rintro x w' ⟨rfl, n, os, rfl⟩
    have hc := laid_chg (n := n) (ls := fs) (os := os) hb
    have hS : ∀ b o, b = β 0 → ∃ i, Os i b o := fun b o h => ⟨0, by rw [h]; exact g7 o⟩
    have hnew := laid_heap (n := n) (ls := fs) (os := os) g1
    have hsz : (putCells encStr 0 fs.toArray cur).size = c := by simp [putCells, g4]
    refine ⟨_, fun b o => F b o ∨ (b = β 0 ∧ o < m), fun b o => b = β 0 ∧ m ≤ o, 0, rfl, ⟨⟨hc.os, hc.tape, hc.output, hc.size, fun k hk hn => hc.same k hk fun o ho => hn o (hS k o ho), fun k c e f hk => by
        obtain ⟨c', q1, q2, q3⟩ := hc.cells k c e f hk
        exact ⟨c', q1, q2, fun o ho => q3 o fun hh => ho (hS k o hh)⟩, hc.other⟩, ?_, fun b o ho hF => ?_, fun b o hF => ?_, fun b o ho => .inr (hS b o ho.1), fun b o hF => ?_, fun b o ho => by rw [ho.1]; exact Nat.lt_of_lt_of_le hb hc.size, trivial⟩⟩
    · simp only [RepTop]
      refine .inr ⟨β 0, c, _, e, lo, hi, rfl, hnew, by omega, g3, by rw [hsz, Nat.mul_one], by simp; omega, ?_, fun o ho => ⟨rfl, by omega⟩, by simpa using g8⟩
      refine repAt_of_list _ ((fs.take m).map fun l => Value.string ⟨l.toArray⟩) _ _ ((repL_texts _ _).2 rfl) (fun j v hj => ?_) (fun j hj => .inr ⟨rfl, by simp at hj; omega⟩)
      rw [cell_of_heap hnew, Nat.zero_add]
      rw [← put_take (c := cur) (by omega) (by omega), List.getElem?_take] at hj
      split at hj
      · simpa using hj
      · cases hj
    · rcases hF with hF | hF
      · exact hg.sep 0 b o (by rw [ho.1]; exact g7 o) hF
      · omega
    · rcases hF with hF | hF
      · exact .inl hF
      · exact .inr (.inr (hS b o hF.1))
    · rcases hF with hF | hF
      · exact Nat.lt_of_lt_of_le (hg.inF b o hF) hc.size
      · rw [hF.1]; exact Nat.lt_of_lt_of_le hb hc.size
end
end Go.Proofs.Ytbikpgaiocjnoaa.Pad
