/- Boxes, and calls. -/
import Derived.Test.YtbikpgaiocjnoaaE5
set_option linter.unusedVariables false
set_option linter.unusedSimpArgs false
namespace Go.Proofs.Ytbikpgaiocjnoaa.Pad

theorem RepTop.idx {w : World} {F O : Fp} {β β' : Nat → Nat} {t t' : Nat} {x : AV} {v : Value} (hx : x.share.good) (h : RepTop w F O β t x v) : RepTop w F O β' t' x v := by
  cases x <;> simp only [RepTop] at h ⊢ <;> first | exact h | (simp [AV.share, AV.good] at hx; done)

theorem RR.newBox {nt : Nat} {w0 : World} {S0 F0 F : Fp} {O : Nat → Fp} {β : Nat → Nat} {s : St} {a : Act} {w : World} (h : RR nt w0 S0 F0 F O β s a w) {d : Nat} (hd : d < nt) (xs : List AV) (c : Array Value) (e : TypeId) (hx : RepL w F true xs c.toList) :
    RR nt w0 S0 F0 F (off1 O d (fun b _ => b = w.heap.size)) (upd β d w.heap.size) (s.set d (.box xs) True true) (a.put (some d) (.pointer (some ⟨w.heap.size, 0, none⟩))) (w.alloc (.cells c e)) := by
  have hc := chg_alloc NoFp w (.cells c e)
  have hA : Agree F F w (w.alloc (.cells c e)) := fun b o hb => ⟨hb, hc.cell (h.inF b o hb) id⟩
  have hm := h.move (S := NoFp) (F' := F) hc (fun _ _ _ hn => hn.elim) (fun _ _ hn => hn.elim) (fun _ => False) (fun _ _ _ _ _ hn => hn) (fun b o hb => hb) (fun b o hb => .inl hb)
    (fun b o hb => Nat.lt_of_lt_of_le (h.inF b o hb) hc.size) h.sep (fun _ hu => hu.elim)
  refine hm.put hd _ _ True _ w.heap.size (fun _ => ?_) (fun _ b hb => by simp [AV.isTo] at hb) (fun hn => (hn trivial).elim) (fun b o ho hb => ?_) (fun t b o _ ho ht => ?_) (fun b o ho => by rw [ho]; simp) (fun b o ho => by rw [ho]; exact .inl h.chg.size)
  · simp only [RepTop, upd, if_true]
    exact ⟨trivial, c, e, heap_alloc_new w _, RepL.agree hA _ _ _ hx, fun _ => trivial⟩
  · have := h.inF b o hb; omega
  · have := h.inO t b o ht; omega

/-- A row in a new block, that is written in place. -/
theorem RR.freshM {nt : Nat} {w0 : World} {S0 F0 F : Fp} {O : Nat → Fp} {β : Nat → Nat} {s : St} {a : Act} {w : World} (h : RR nt w0 S0 F0 F O β s a w) {d : Nat} (hd : d < nt)
    {w' : World} (hc : Chg NoFp w w') (hgw' : w.heap.size < w'.heap.size) (sz n c : Nat) (cur : Array Value) (e : TypeId) (lo hi : Nat) (hg : w'.heap[w.heap.size]? = some (.cells cur e (lo, hi))) (hnc : n ≤ c) (hcm : c ≤ maxLen) (hcs : cur.size = c * sz)
    (hf : hi ≤ lo ∨ c * sz ≤ lo) (xs : List AV) (vs : List Value) (hx : RepL w F true xs vs) (hl : xs.length = n * sz) (ht : ∀ (j : Nat) (v : Value), vs[j]? = some v → cur[j]? = some v) :
    RR nt w0 S0 F0 F (off1 O d (fun b _ => b = w.heap.size)) (upd β d w.heap.size) (s.set d (.mrow sz xs n) True true) (a.put (some d) (.slice (some ⟨w.heap.size, 0, none⟩) n c)) w' := by
  have hA : Agree F F w w' := fun b o hb => ⟨hb, hc.cell (h.inF b o hb) id⟩
  have hm := h.move (S := NoFp) (F' := F) hc (fun _ _ _ hn => hn.elim) (fun _ _ hn => hn.elim) (fun _ => False) (fun _ _ _ _ _ hn => hn) (fun b o hb => hb) (fun b o hb => .inl hb)
    (fun b o hb => Nat.lt_of_lt_of_le (h.inF b o hb) hc.size) h.sep (fun _ hu => hu.elim)
  refine hm.put hd _ _ True _ w.heap.size (fun _ => ?_) (fun _ b hb => by simp [AV.isTo] at hb) (fun hn => (hn trivial).elim) (fun b o ho hb => ?_) (fun t b o _ ho ht => ?_) (fun b o ho => by rw [ho]; exact hgw') (fun b o ho => by rw [ho]; exact .inl h.chg.size)
  · simp only [RepTop, upd, if_true]
    refine .inr ⟨c, cur, e, lo, hi, rfl, hg, hnc, hcm, hcs, hl, ?_, fun _ => trivial, hf⟩
    have hvl := repL_length _ _ hx
    have : cur.toList.take (n * sz) = vs := by
      apply List.ext_getElem?
      intro i
      rw [List.getElem?_take]
      split
      · rename_i hi
        have := ht i vs[i] (List.getElem?_eq_getElem (by omega))
        rw [Array.getElem?_toList, this, List.getElem?_eq_getElem (by omega)]
      · rw [List.getElem?_eq_none (by omega)]
    rw [this]
    exact RepL.agree hA _ _ _ hx
  · have := h.inF b o hb; omega
  · have := h.inO t b o ht; omega

/-- A walk over a text, begun. -/
theorem RR.newIter {nt : Nat} {w0 : World} {S0 F0 F : Fp} {O : Nat → Fp} {β : Nat → Nat} {s : St} {a : Act} {w : World} (h : RR nt w0 S0 F0 F O β s a w) {d : Nat} (hd : d < nt) (l : List UInt8) :
    RR nt w0 S0 F0 F (off1 O d (fun b _ => b = w.heap.size)) (upd β d w.heap.size) (s.set d (.iter l 0) True true) (a.put (some d) (.pointer (some ⟨w.heap.size, 0, none⟩))) (w.alloc (.stringIter ⟨l.toArray⟩ 0)) := by
  have hc := chg_alloc NoFp w (.stringIter ⟨l.toArray⟩ 0)
  have hm := h.move (S := NoFp) (F' := F) hc (fun _ _ _ hn => hn.elim) (fun _ _ hn => hn.elim) (fun _ => False) (fun _ _ _ _ _ hn => hn) (fun b o hb => hb) (fun b o hb => .inl hb)
    (fun b o hb => Nat.lt_of_lt_of_le (h.inF b o hb) hc.size) h.sep (fun _ hu => hu.elim)
  refine hm.put hd _ _ True _ w.heap.size (fun _ => ?_) (fun _ b hb => by simp [AV.isTo] at hb) (fun hn => (hn trivial).elim) (fun b o ho hb => ?_) (fun t b o _ ho ht => ?_) (fun b o ho => by rw [ho]; simp) (fun b o ho => by rw [ho]; exact .inl h.chg.size)
  · simp only [RepTop, upd, if_true]
    exact ⟨trivial, heap_alloc_new w _, fun _ => trivial⟩
  · have := h.inF b o hb; omega
  · have := h.inO t b o ht; omega
/-- The same walk, one step on. -/
theorem RR.stepIter {nt : Nat} {w0 : World} {S0 F0 F : Fp} {O : Nat → Fp} {β : Nat → Nat} {s : St} {a : Act} {w : World} (h : RR nt w0 S0 F0 F O β s a w) {t : Nat} {l : List UInt8} {pos : Nat} (hD : s.D t) (he : s.env t = .iter l pos) (pos' : Nat) :
    RR nt w0 S0 F0 F O β (s.set t (.iter l pos') (s.D t) false) a { w with heap := w.heap.setIfInBounds (β t) (.stringIter ⟨l.toArray⟩ pos') } := by
  have hr := h.rep t hD
  rw [he] at hr
  simp only [RepTop] at hr
  obtain ⟨h0, h1, h2⟩ := hr
  have hlt := lt_of_heap h1
  have hget : ∀ k, ({ w with heap := w.heap.setIfInBounds (β t) (.stringIter ⟨l.toArray⟩ pos') } : World).heap[k]? = if k = β t then some (.stringIter ⟨l.toArray⟩ pos') else w.heap[k]? := fun k => by
    simp only [Array.getElem?_setIfInBounds]
    by_cases e : β t = k
    · rw [if_pos e, if_pos e.symm, if_pos (e ▸ hlt)]
    · rw [if_neg e, if_neg (Ne.symm e)]
  have hc : Chg (fun b _ => b = β t) w { w with heap := w.heap.setIfInBounds (β t) (.stringIter ⟨l.toArray⟩ pos') } := by
    refine ⟨rfl, rfl, rfl, by simp, fun k _ hn => ?_, fun k c e f hk => ?_, fun k _ hn c e f => ?_⟩
    · rw [hget, if_neg (hn 0)]
    · have hne : k ≠ β t := fun e => by rw [e, h1] at hk; cases hk
      exact ⟨c, by rw [hget, if_neg hne]; exact hk, rfl, fun _ _ => rfl⟩
    · rw [hget]; split
      · intro hh; cases hh
      · exact hn c e f
  have hnF : ∀ b o, F b o → b ≠ β t := fun b o hF e => h.sep t b o (by rw [e]; exact h2 o) hF
  refine ⟨h.chg.trans hc (fun k o hk hs => ?_), h.sep, h.dis, fun b o hF => Nat.lt_of_lt_of_le (h.inF b o hF) hc.size, fun u b o ho => Nat.lt_of_lt_of_le (h.inO u b o ho) hc.size, h.own, h.fF, fun u hu => ?_, fun u hk hu => ?_, fun x b hx hb => ?_, h.size, h.defs, fun b o hb => ⟨(h.gl b o hb).1, (hc.cell (h.inF b o (h.gl b o hb).1) (hnF b o (h.gl b o hb).1)).trans (h.gl b o hb).2⟩⟩
  · have := h.own t k o (by rw [hs]; exact h2 o)
    exact this.elim (fun hh => by omega) id
  · rw [St.D_set] at hu
    rw [St.env_set]
    by_cases e1 : t = u
    · subst e1
      rw [if_pos rfl]
      simp only [RepTop]
      exact ⟨h0, by rw [hget, if_pos rfl], h2⟩
    · rw [if_neg e1] at hu ⊢
      refine (h.rep u hu).chg hc (fun b o hb => ⟨hb, h.inF b o hb, hnF b o hb⟩) (fun b o ho hs => ?_)
      exact h.dis t u b o e1 (by rw [hs]; exact h2 o) ho
  · rw [St.K_set] at hk
    rw [St.D_set] at hu
    by_cases e1 : t = u
    · rw [if_pos e1] at hk; cases hk
    · rw [if_neg e1] at hk hu; exact h.und u hk hu
  · rw [St.D_set] at hx
    rw [St.refOk_set] at hb
    rw [St.env_set]
    by_cases e1 : t = x
    · rw [if_pos e1] at hb; simp [AV.isTo] at hb
    · rw [if_neg e1] at hx hb ⊢
      rw [if_neg (by simp)] at hb
      exact h.refs x b hx hb

/-- What one has that is written in place. -/
theorem RR.ownCells {nt : Nat} {w0 : World} {S0 F0 F : Fp} {O : Nat → Fp} {β : Nat → Nat} {s : St} {a : Act} {w : World} (h : RR nt w0 S0 F0 F O β s a w) {t : Nat} (hD : s.D t) (ho : (s.env t).isOwn) :
    (∃ sz, s.env t = .mrow sz [] 0 ∧ tm a t = .slice none 0 0) ∨ ∃ c e lo hi, w.heap[β t]? = some (.cells c e (lo, hi)) ∧ (s.env t).inner.length ≤ c.size ∧ RepL w F true (s.env t).inner (c.toList.take (s.env t).inner.length) ∧ (∀ o, O t (β t) o) ∧ (hi ≤ lo ∨ (s.env t).inner.length ≤ lo) := by
  have hr := h.rep t hD
  revert hr ho
  cases s.env t <;> simp only [AV.isOwn, RepTop, AV.inner, false_implies, true_implies]
  case box xs =>
    rintro ⟨h0, c, e, h1, h2, h3⟩
    have hl := repL_length _ _ h2
    simp only [Array.length_toList] at hl
    exact .inr ⟨c, e, 0, 0, h1, by omega, by rw [List.take_of_length_le (by simp; omega)]; exact h2, h3, .inl (Nat.le_refl _)⟩
  case clo f xs =>
    rintro ⟨h0, c, e, h1, h2, h3⟩
    have hl := repL_length _ _ h2
    simp only [Array.length_toList] at hl
    exact .inr ⟨c, e, 0, 0, h1, by omega, by rw [List.take_of_length_le (by simp; omega)]; exact h2, h3, .inl (Nat.le_refl _)⟩
  case mrow sz xs n =>
    rintro (⟨h0, rfl, rfl⟩ | ⟨c, cur, e, lo, hi, h0, h1, h2, h3, h4, h5, h6, h7, h8⟩)
    · exact .inl ⟨sz, rfl, h0⟩
    have hm : n * sz ≤ c * sz := Nat.mul_le_mul_right _ h2
    exact .inr ⟨cur, e, lo, hi, h1, by omega, by rw [h5]; exact h6, h7, h8.imp id (fun hh => by omega)⟩

/-- A part of what b has, as a slice. -/
theorem RR.view {nt : Nat} {w0 : World} {S0 F0 F : Fp} {O : Nat → Fp} {β : Nat → Nat} {s : St} {a : Act} {w : World} (h : RR nt w0 S0 F0 F O β s a w) {x b sz : Nat} (hD : s.D x) (hr : s.refOk x b = true) (hDb : s.D b) (hv : (s.env x).isView b sz (s.env b)) :
    Vw (β b) (s.env x).vOff ((s.env b).vLen (s.env x)) (tm a x) ∧ (s.env b).isOwn ∧ (s.env x).vOff + (s.env b).vLen (s.env x) * sz ≤ (s.env b).inner.length := by
  have hrf := h.refs x b hD hr
  revert hv hrf
  cases s.env x <;> simp only [AV.isView, false_implies]
  case al b' =>
    rintro ⟨rfl, hm⟩ hrf
    have htm := hrf.2.1 rfl
    have hp := h.rep b' hDb
    revert hm hp
    cases s.env b' <;> simp only [AV.isM, false_implies, RepTop, AV.vOff, AV.vLen, AV.mlen, AV.isOwn, AV.inner]
    rintro rfl hp
    rw [htm]
    rcases hp with ⟨h0, rfl, rfl⟩ | ⟨c, cur, e, lo, hi, h0, h1, h2, h3, h4, h5, h6, h7, h8⟩
    · exact ⟨⟨_, _, h0, Nat.le_refl _, Nat.zero_le _, .inl rfl⟩, trivial, by simp⟩
    · exact ⟨⟨_, _, h0, h2, h3, .inr rfl⟩, trivial, by omega⟩
  case win b' off n =>
    rintro ⟨rfl, ho, hl⟩ hrf
    exact ⟨hrf.2.2 off n rfl, ho, hl⟩
/-- The first k of it. -/
theorem RR.viewFirst {P : Program} {nt : Nat} {w0 : World} {S0 F0 F : Fp} {O : Nat → Fp} {β : Nat → Nat} {s : St} {a : Act} {w : World} (h : RR nt w0 S0 F0 F O β s a w) {x b sz k : Nat} (hD : s.D x) (hr : s.refOk x b = true) (hDb : s.D b) (hv : (s.env x).isView b sz (s.env b)) (hk : k ≤ (s.env b).vLen (s.env x)) :
    (Builtin.lenOf (tm a x)).run P w = .ok ((s.env b).vLen (s.env x)) w ∧ ∃ news, (Builtin.firstCells sz k (tm a x)).run P w = .ok news.toArray w ∧ RepL w F true ((AV.vCells sz (s.env b) (s.env x)).take (k * sz)) news ∧ news.length = k * sz := by
  obtain ⟨⟨ao, c, h1, h2, h3, h4⟩, ho, hl⟩ := h.view hD hr hDb hv
  have hks : k * sz ≤ (s.env b).vLen (s.env x) * sz := Nat.mul_le_mul_right _ hk
  rw [h1]
  refine ⟨by simp [Builtin.lenOf], ?_⟩
  by_cases hz : k * sz = 0
  · refine ⟨[], ?_, by rw [hz]; simp [RepL], by simp [hz]⟩
    cases ao with
    | none => simp [Builtin.firstCells]
    | some g => exact run_firstCells_some (P := P) w sz k g _ c [] (by simp [hz]) (fun j v hj => by simp at hj)
  · have hk0 : k ≠ 0 := fun e => hz (by rw [e, Nat.zero_mul])
    obtain rfl := h4.resolve_left (by omega)
    rcases h.ownCells hDb ho with ⟨sz', hnil, _⟩ | ⟨cur, e, lo, hi, q1, q2, q3, q4, q5⟩
    · exfalso
      have h0 : (s.env b).inner.length = 0 := by rw [hnil]; rfl
      omega
    · have hvl : ((cur.toList.take (s.env b).inner.length).drop (s.env x).vOff |>.take (k * sz)).length = k * sz := by
        simp only [List.length_take, List.length_drop, Array.length_toList]; omega
      refine ⟨(cur.toList.take (s.env b).inner.length).drop (s.env x).vOff |>.take (k * sz), ?_, ?_, hvl⟩
      · refine run_firstCells_some (P := P) w sz k _ _ c _ hvl fun j v hj => ?_
        rw [Addr.add_lit, cell_of_heap q1]
        rw [List.getElem?_take] at hj
        split at hj
        · rw [List.getElem?_drop, List.getElem?_take] at hj
          split at hj
          · simpa using hj
          · cases hj
        · cases hj
      · unfold AV.vCells
        rw [List.take_take, Nat.min_eq_left hks]
        exact repL_take _ _ _ (repL_drop _ _ _ q3)
/-- .. as it is read, with all that b has. -/
theorem RR.viewRep {nt : Nat} {w0 : World} {S0 F0 F : Fp} {O : Nat → Fp} {β : Nat → Nat} {s : St} {a : Act} {w : World} (h : RR nt w0 S0 F0 F O β s a w) {x b sz : Nat} (hD : s.D x) (hr : s.refOk x b = true) (hDb : s.D b) (hv : (s.env x).isView b sz (s.env b)) :
    Rep w (fun b' o => F b' o ∨ b' = β b) (.sl (AV.vCells sz (s.env b) (s.env x)) ((s.env b).vLen (s.env x))) (tm a x) ∧ (AV.vCells sz (s.env b) (s.env x)).length = (s.env b).vLen (s.env x) * sz := by
  obtain ⟨⟨ao, c, h1, h2, h3, h4⟩, ho, hl⟩ := h.view hD hr hDb hv
  have hlen : (AV.vCells sz (s.env b) (s.env x)).length = (s.env b).vLen (s.env x) * sz := by
    unfold AV.vCells; rw [List.length_take, List.length_drop]; omega
  refine ⟨?_, hlen⟩
  simp only [Rep]
  refine ⟨ao, c, h1, h2, h3, ?_⟩
  rcases h4 with h4 | rfl
  · left
    refine ⟨?_, h4⟩
    unfold AV.vCells; rw [h4]; simp
  · rcases h.ownCells hDb ho with ⟨sz', hnil, _⟩ | ⟨cur, e, lo, hi, q1, q2, q3, q4, q5⟩
    · by_cases h0 : (s.env b).vLen (s.env x) = 0
      · left
        refine ⟨?_, h0⟩
        unfold AV.vCells; rw [h0]; simp
      · right
        refine ⟨_, _, rfl, ?_⟩
        have : AV.vCells sz (s.env b) (s.env x) = [] := by unfold AV.vCells; rw [hnil]; simp [AV.inner]
        rw [this]; simp only [RepAt]
    · right
      refine ⟨_, _, rfl, ?_⟩
      refine repAt_of_list _ ((cur.toList.take (s.env b).inner.length).drop (s.env x).vOff |>.take ((s.env b).vLen (s.env x) * sz)) _ _ ?_ (fun j v hj => ?_) (fun j hj => .inr rfl)
      · exact RepL.agree (F' := fun b' o => F b' o ∨ b' = β b) (fun b' o hF => ⟨.inl hF, rfl⟩) _ _ _ (repL_take _ _ _ (repL_drop _ _ _ q3))
      · rw [cell_of_heap q1]
        rw [List.getElem?_take] at hj
        split at hj
        · rw [List.getElem?_drop, List.getElem?_take] at hj
          split at hj
          · simpa using hj
          · cases hj
        · cases hj
/-- What stands for something stands for it still. -/
theorem RR.again {nt : Nat} {w0 : World} {S0 F0 F : Fp} {O : Nat → Fp} {β : Nat → Nat} {s : St} {a : Act} {w : World} (h : RR nt w0 S0 F0 F O β s a w) {t : Nat} (hD : s.D t) (ht : ∀ b, (s.env t).isTo b = false) : RR nt w0 S0 F0 F O β (s.set t (s.env t) True false) a w := by
  refine ⟨h.chg, h.sep, h.dis, h.inF, h.inO, h.own, h.fF, fun u hu => ?_, fun u hk hu => ?_, fun x b hx hb => ?_, h.size, h.defs, h.gl⟩
  · rw [St.env_set]
    by_cases e : t = u
    · subst e; rw [if_pos rfl]; exact h.rep t hD
    · rw [St.D_set, if_neg e] at hu; rw [if_neg e]; exact h.rep u hu
  · rw [St.K_set] at hk
    rw [St.D_set] at hu
    by_cases e : t = u
    · rw [if_pos e] at hk; cases hk
    · rw [if_neg e] at hk hu; exact h.und u hk hu
  · rw [St.D_set] at hx
    rw [St.refOk_set] at hb
    rw [St.env_set]
    by_cases e : t = x
    · rw [if_pos e, ht] at hb; cases hb
    · rw [if_neg e] at hx hb ⊢
      rw [if_neg (by simp)] at hb
      exact h.refs x b hx hb
/-- Into what t has. -/
theorem RR.store {P : Program} {nt : Nat} {w0 : World} {S0 F0 F : Fp} {O : Nat → Fp} {β : Nat → Nat} {s : St} {a : Act} {w : World} (h : RR nt w0 S0 F0 F O β s a w) {t : Nat} (hD : s.D t) (ho : (s.env t).isOwn)
    (off : Nat) (ys : List AV) (vs : List Value) (hy : RepL w F true ys vs) (hl : off + ys.length ≤ (s.env t).inner.length) :
    (storeCells ⟨β t, off, none⟩ vs).run P w = .ok () (w.setCells (β t) off vs) ∧ RR nt w0 S0 F0 F O β (s.set t ((s.env t).withInner (splice (s.env t).inner off ys)) True false) a (w.setCells (β t) off vs) := by
  rcases h.ownCells hD ho with ⟨sz, hnil, htm⟩ | ⟨c, e, lo, hi, h1, hcl, h2, h3, h4⟩
  · rw [hnil] at hl ⊢
    simp only [AV.inner, List.length_nil, Nat.le_zero, Nat.add_eq_zero_iff] at hl
    obtain ⟨rfl, hl⟩ := hl
    obtain rfl : ys = [] := List.eq_nil_of_length_eq_zero hl
    simp only [RepL] at hy
    subst hy
    refine ⟨rfl, ?_⟩
    have hs : (AV.mrow sz [] 0).withInner (splice (AV.mrow sz [] 0).inner 0 []) = s.env t := by rw [hnil]; rfl
    rw [hs]
    exact h.again hD (by rw [hnil]; exact fun _ => rfl)
  have hvl := repL_length _ _ hy
  have hc : Chg (fun b _ => b = β t) w (w.setCells (β t) off vs) := chg_setCells h1 fun _ _ => rfl
  obtain ⟨c', q1, q2, q3⟩ := setCells_heap (β t) vs off w c e (lo, hi) h1
  have hex : ∀ j, j < vs.length → (w.cell? ⟨β t, off + j, none⟩).isSome = true := fun j hj => by
    rw [cell_of_heap h1]
    have : off + j < c.size := by omega
    simp [this]
  have hin : ∀ j (hj : j < vs.length), c'[off + j]? = some vs[j] := fun j hj => by
    rw [← cell_of_heap q1, World.cell?_setCells_in (β t) vs off w hex j hj]
  have hnF : ∀ b o, F b o → b ≠ β t := fun b o hF e => h.sep t b o (by rw [e]; exact h3 o) hF
  have hA : Agree F F w (w.setCells (β t) off vs) := fun b o hb => ⟨hb, hc.cell (h.inF b o hb) (hnF b o hb)⟩
  refine ⟨?_, ?_⟩
  · have := run_storeCells_cells (P := P) (β t) off vs 0 w (fun j hj => by
      simpa using hex j hj) (fun j hj => by
      simp only [World.frozen?, h1]
      rcases h4 with h4 | h4
      · simp; omega
      · simp; omega) (repL_one _ _ hy)
    simpa using this
  · refine ⟨h.chg.trans hc (fun k o hk hs => ?_), h.sep, h.dis, fun b o hF => Nat.lt_of_lt_of_le (h.inF b o hF) hc.size, fun u b o ho => Nat.lt_of_lt_of_le (h.inO u b o ho) hc.size, h.own, h.fF, fun u hu => ?_, fun u hk hu => ?_, fun x b hx hb => ?_, h.size, h.defs, fun b o hb => ⟨(h.gl b o hb).1, (hc.cell (h.inF b o (h.gl b o hb).1) (hnF b o (h.gl b o hb).1)).trans (h.gl b o hb).2⟩⟩
    · have := h.own t k o (by rw [hs]; exact h3 o)
      exact this.elim (fun hh => by omega) id
    · rw [St.D_set] at hu
      rw [St.env_set]
      by_cases e1 : t = u
      · subst e1
        rw [if_pos rfl]
        have hs := splice_rep h2 hy off
        have key : c'.toList.take (s.env t).inner.length = (c.toList.take (s.env t).inner.length).take off ++ vs ++ (c.toList.take (s.env t).inner.length).drop (off + vs.length) := by
          apply List.ext_getElem?
          intro i
          rw [List.getElem?_take]
          by_cases i0 : i < (s.env t).inner.length
          · rw [if_pos i0, Array.getElem?_toList]
            by_cases i1 : i < off
            · rw [q3 i (.inl i1), List.getElem?_append_left (by simp; omega), List.getElem?_append_left (by simp; omega), List.getElem?_take, if_pos i1, List.getElem?_take, if_pos i0]
              simp
            · by_cases i2 : i < off + vs.length
              · have := hin (i - off) (by omega)
                rw [show off + (i - off) = i by omega] at this
                rw [this, List.getElem?_append_left (by simp; omega), List.getElem?_append_right (by simp; omega)]
                have e3 : i - (List.take off (c.toList.take (s.env t).inner.length)).length = i - off := by simp only [List.length_take, Array.length_toList]; omega
                rw [e3, List.getElem?_eq_getElem (by omega)]
              · rw [q3 i (.inr (by omega)), List.getElem?_append_right (by simp; omega), List.getElem?_drop]
                have e3 : off + vs.length + (i - (List.take off (c.toList.take (s.env t).inner.length) ++ vs).length) = i := by simp only [List.length_append, List.length_take, Array.length_toList]; omega
                rw [e3, List.getElem?_take, if_pos i0]; simp
          · rw [if_neg i0, List.getElem?_eq_none (by simp; omega)]
        have hs' := RepL.agree hA _ _ _ (key ▸ hs)
        have hspl : (splice (s.env t).inner off ys).length = (s.env t).inner.length := by
          unfold splice; simp only [List.length_append, List.length_take, List.length_drop]; omega
        have hr := h.rep t hD
        revert hr hs' hspl key ho hcl
        cases s.env t <;> simp only [AV.isOwn, RepTop, AV.inner, AV.withInner, false_implies, true_implies]
        case box xs =>
          intro hcl key hs' hspl
          rintro ⟨h0, c2, e2, g1, g2, g3⟩
          rw [h1] at g1
          cases g1
          refine ⟨h0, c', e, q1, ?_, g3⟩
          have hl2 := repL_length _ _ g2
          simp only [Array.length_toList] at hl2
          rw [List.take_of_length_le (by simp; omega)] at hs'
          exact hs'
        case clo f xs =>
          intro hcl key hs' hspl
          rintro ⟨h0, c2, e2, g1, g2, g3⟩
          rw [h1] at g1
          cases g1
          refine ⟨h0, c', e, q1, ?_, g3⟩
          have hl2 := repL_length _ _ g2
          simp only [Array.length_toList] at hl2
          rw [List.take_of_length_le (by simp; omega)] at hs'
          exact hs'
        case mrow sz xs n =>
          intro hcl key hs' hspl
          rintro (⟨h0, rfl, rfl⟩ | ⟨cc, cur, e2, lo2, hi2, h0, g1, g2, g3, g4, g5, g6, g7, g8⟩)
          · refine .inl ⟨h0, ?_, rfl⟩
            have : (splice ([] : List AV) off ys).length = 0 := by rw [hspl]; rfl
            exact List.eq_nil_of_length_eq_zero this
          rw [h1] at g1
          cases g1
          exact .inr ⟨cc, c', e, lo, hi, h0, q1, g2, g3, q2.trans g4, hspl.trans g5, by rw [← g5]; exact hs', g7, g8⟩
      · rw [if_neg e1] at hu ⊢
        refine (h.rep u hu).chg hc (fun b o hb => ⟨hb, h.inF b o hb, hnF b o hb⟩) (fun b o ho hs => ?_)
        exact h.dis t u b o e1 (by rw [hs]; exact h3 o) ho
    · rw [St.K_set] at hk
      rw [St.D_set] at hu
      by_cases e1 : t = u
      · rw [if_pos e1] at hu; exact (hu trivial).elim
      · rw [if_neg e1] at hk hu; exact h.und u hk hu
    · rw [St.D_set] at hx
      rw [St.refOk_set] at hb
      rw [St.env_set]
      by_cases e1 : t = x
      · subst e1
        exfalso
        rw [if_pos rfl] at hb
        revert hb ho
        cases s.env t <;> simp [AV.isOwn, AV.withInner, AV.isTo]
      · rw [if_neg e1] at hx hb ⊢
        rw [if_neg (by simp)] at hb
        exact h.refs x b hx hb

/-- t is nothing any more. -/
theorem RR.drop {nt : Nat} {w0 : World} {S0 F0 F : Fp} {O : Nat → Fp} {β : Nat → Nat} {s : St} {a : Act} {w : World} (h : RR nt w0 S0 F0 F O β s a w) (t : Nat) : RR nt w0 S0 F0 F (off1 O t NoFp) β (s.set t .bad False false) a w := by
  have sub : ∀ u b o, off1 O t NoFp u b o → u ≠ t ∧ O u b o := fun u b o ho => by
    unfold off1 at ho; split at ho
    · exact ho.elim
    · exact ⟨by assumption, ho⟩
  refine ⟨h.chg, fun u b o ho => h.sep u b o (sub u b o ho).2, fun u u' b o hu ho hu' => h.dis u u' b o hu (sub _ _ _ ho).2 (sub _ _ _ hu').2, h.inF, fun u b o ho => h.inO u b o (sub _ _ _ ho).2, fun u b o ho => h.own u b o (sub _ _ _ ho).2, h.fF, fun u hu => ?_, fun u hk hu => ?_, fun x b hx hb => ?_, h.size, h.defs, h.gl⟩
  · rw [St.D_set] at hu
    rw [St.env_set]
    by_cases e : t = u
    · rw [if_pos e] at hu; exact hu.elim
    · rw [if_neg e] at hu ⊢
      unfold off1
      rw [if_neg (Ne.symm e)]
      exact h.rep u hu
  · rw [St.K_set] at hk
    rw [St.D_set] at hu
    by_cases e : t = u
    · rw [if_pos e] at hk; cases hk
    · rw [if_neg e] at hk hu; exact h.und u hk hu
  · rw [St.D_set] at hx
    rw [St.refOk_set] at hb
    rw [St.env_set]
    by_cases e : t = x
    · rw [if_pos e] at hx; exact hx.elim
    · rw [if_neg e] at hx hb ⊢
      rw [if_neg (by simp)] at hb
      exact h.refs x b hx hb

/-- What was written in place is only read from then on. -/
theorem RR.freeze {nt : Nat} {w0 : World} {S0 F0 F : Fp} {O : Nat → Fp} {β : Nat → Nat} {s : St} {a : Act} {w : World} (h : RR nt w0 S0 F0 F O β s a w) {t : Nat} {sz n : Nat} {xs : List AV} (hD : s.D t) (he : s.env t = .mrow sz xs n) {d : Nat} (hd : d < nt) :
    ∃ F' O', RR nt w0 S0 F0 F' O' β ((s.set t .bad False false).set d (.row sz xs n) True true) (a.put (some d) (tm a t)) w := by
  have hr := h.rep t hD
  rw [he] at hr
  simp only [RepTop] at hr
  rcases hr with ⟨h0, rfl, rfl⟩ | ⟨c, cur, e, lo, hi, h0, h1, h2, h3, h4, h5, h6, h7, h8⟩
  · exact ⟨_, _, (h.drop t).put0 hd (.row sz [] 0) (tm a t) True (fun _ => by simp only [RepTop]; exact .inl ⟨h0, by simp⟩) (fun _ b hb => by simp [AV.isTo] at hb) (fun hn => (hn trivial).elim)⟩
  have hmul : n * sz ≤ c * sz := Nat.mul_le_mul_right _ h2
  have hv := h.drop t
  have hnO : ∀ u o, ¬ off1 O t NoFp u (β t) o := fun u o ho => by
    unfold off1 at ho; split at ho
    · exact ho
    · rename_i hne; exact h.dis u t (β t) o hne ho (h7 o)
  have hm := hv.move (S := NoFp) (F' := newUsed F (β t) (n * sz)) (Chg.refl _ _) (fun _ _ _ hn => hn.elim) (fun _ _ hn => hn.elim) (fun _ => False) (fun _ _ _ _ _ hn => hn) (fun b o hb => .inl hb)
    (fun b o hb => hb.elim .inl fun hb => .inr (.inr (by rw [hb.1]; exact h.own t _ _ (h7 o)))) (fun b o hb => hb.elim (fun hb => h.inF b o hb) fun hb => by rw [hb.1]; exact lt_of_heap h1)
    (fun u b o ho hb => hb.elim (fun hb => hv.sep u b o ho hb) fun hb => hnO u o (by rw [← hb.1]; exact ho)) (fun _ hu => hu.elim)
  have hA : Agree F (newUsed F (β t) (n * sz)) w w := fun b o hb => ⟨.inl hb, rfl⟩
  refine ⟨_, _, hm.putS hd (.row sz xs n) (tm a t) True (spare (β t) (n * sz)) (fun _ => ?_) (fun _ _ => rfl) (fun hn => (hn trivial).elim) (fun b o ho hb => ?_) (fun u b o _ ho hu => ?_) (fun b o ho => by rw [ho.1]; exact lt_of_heap h1) (fun b o ho => by rw [ho.1]; exact h.own t _ _ (h7 o))⟩
  · simp only [RepTop]
    refine .inr ⟨β t, c, cur, e, lo, hi, h0, h1, h2, h3, h4, h5, ?_, fun o ho => ⟨rfl, ho⟩, h8⟩
    refine repAt_of_list xs _ _ _ (RepL.agree hA _ _ _ h6) (fun j v hj => ?_) (fun j hj => .inr ⟨rfl, by omega⟩)
    rw [cell_of_heap h1, Nat.zero_add]
    rw [List.getElem?_take] at hj
    split at hj
    · simpa using hj
    · cases hj
  · rcases hb with hb | hb
    · exact h.sep t b o (by rw [ho.1]; exact h7 o) hb
    · have := ho.2; omega
  · exact hnO u o (by rw [← ho.1]; exact hu)

theorem RepTop.reloc {w : World} {F O : Fp} {β β' : Nat → Nat} {t t' : Nat} {x : AV} {v : Value} (hb : β' t' = β t) (h : RepTop w F O β t x v) : RepTop w F O β' t' x v := by
  cases x <;> simp only [RepTop] at h ⊢ <;> first | exact h | (rw [hb]; exact h)
/-- What b has is turned by somebody else, who hands it back, and more or less with it. -/
theorem RR.turnO {nt : Nat} {w0 : World} {S0 F0 F : Fp} {O : Nat → Fp} {β : Nat → Nat} {s : St} {a : Act} {w : World} (h : RR nt w0 S0 F0 F O β s a w) {b : Nat} {S F' Op : Fp} {w' : World} (hc : Chg S w w') (hS : ∀ k o, S k o → O b k o)
    (hF : ∀ k o, F k o → F' k o) (hF' : ∀ k o, F' k o → F k o ∨ w.heap.size ≤ k ∨ O b k o) (hin : ∀ k o, F' k o → k < w'.heap.size) (x' : AV) (hx : RepTop w' F' Op β b x' (tm a b))
    (hop : ∀ k o, Op k o → ¬ F' k o ∧ k < w'.heap.size ∧ (w.heap.size ≤ k ∨ O b k o)) (hto : ∀ c, x'.isTo c = false) :
    RR nt w0 S0 F0 F' (off1 O b Op) β (s.set b x' True false) a w' := by
  have hnF : ∀ k o, F k o → ¬ S k o := fun k o hF hs => h.sep b k o (hS k o hs) hF
  have at1 : ∀ u, u ≠ b → off1 O b Op u = O u := fun u e => by unfold off1; rw [if_neg e]
  have atb : off1 O b Op b = Op := by unfold off1; rw [if_pos rfl]
  have hds : ∀ u k o, u ≠ b → O u k o → ¬ Op k o := fun u k o e ho hp => by
    rcases (hop k o hp).2.2 with q | q
    · have := h.inO u k o ho; omega
    · exact h.dis u b k o e ho q
  refine ⟨h.chg.trans hc (fun k o hk hs => (h.own b k o (hS k o hs)).elim (fun hh => by omega) id), fun t k o ho hf => ?_, fun t u k o htu ht hu => ?_, hin, fun t k o ho => ?_, fun t k o ho => ?_, fun k o hf => ?_, fun u hu => ?_, fun u hk hu => ?_, fun x c hx hb => ?_, h.size, h.defs,
    fun k o hb => ⟨hF k o (h.gl k o hb).1, (hc.cell (h.inF k o (h.gl k o hb).1) (hnF k o (h.gl k o hb).1)).trans (h.gl k o hb).2⟩⟩
  · by_cases e : t = b
    · subst e; rw [atb] at ho; exact (hop k o ho).1 hf
    · rw [at1 t e] at ho
      rcases hF' k o hf with hf | hf | hf
      · exact h.sep t k o ho hf
      · have := h.inO t k o ho; omega
      · exact h.dis t b k o e ho hf
  · by_cases e : t = b
    · subst e
      rw [atb] at ht
      rw [at1 u (Ne.symm htu)] at hu
      exact hds u k o (Ne.symm htu) hu ht
    · rw [at1 t e] at ht
      by_cases e2 : u = b
      · subst e2; rw [atb] at hu; exact hds t k o e ht hu
      · rw [at1 u e2] at hu; exact h.dis t u k o htu ht hu
  · by_cases e : t = b
    · subst e; rw [atb] at ho; exact (hop k o ho).2.1
    · rw [at1 t e] at ho; exact Nat.lt_of_lt_of_le (h.inO t k o ho) hc.size
  · by_cases e : t = b
    · subst e; rw [atb] at ho
      rcases (hop k o ho).2.2 with q | q
      · exact .inl (Nat.le_trans h.chg.size q)
      · exact h.own _ k o q
    · rw [at1 t e] at ho; exact h.own t k o ho
  · rcases hF' k o hf with hf | hf | hf
    · exact h.fF k o hf
    · exact .inr (.inl (Nat.le_trans h.chg.size hf))
    · exact .inr (h.own b k o hf)
  · rw [St.D_set] at hu
    rw [St.env_set]
    by_cases e : b = u
    · subst e; rw [if_pos rfl, atb]; exact hx
    · rw [if_neg e] at hu ⊢
      rw [at1 u (Ne.symm e)]
      exact (h.rep u hu).chg hc (fun k o hk => ⟨hF k o hk, h.inF k o hk, hnF k o hk⟩) (fun k o ho hs => h.dis b u k o e (hS k o hs) ho)
  · rw [St.K_set] at hk
    rw [St.D_set] at hu
    by_cases e : b = u
    · rw [if_pos e] at hu; exact (hu trivial).elim
    · rw [if_neg e] at hk hu; exact h.und u hk hu
  · rw [St.D_set] at hx
    rw [St.refOk_set] at hb
    rw [St.env_set]
    by_cases e : b = x
    · rw [if_pos e, hto] at hb; cases hb
    · rw [if_neg e] at hx hb ⊢
      rw [if_neg (by simp)] at hb
      exact h.refs x c hx hb
/-- What b has is turned by somebody else, who hands it back. -/
theorem RR.turn {nt : Nat} {w0 : World} {S0 F0 F : Fp} {O : Nat → Fp} {β : Nat → Nat} {s : St} {a : Act} {w : World} (h : RR nt w0 S0 F0 F O β s a w) {b : Nat} {S F' : Fp} {w' : World} (hc : Chg S w w') (hS : ∀ k o, S k o → O b k o)
    (hF : ∀ k o, F k o → F' k o) (hF' : ∀ k o, F' k o → F k o ∨ w.heap.size ≤ k) (hin : ∀ k o, F' k o → k < w'.heap.size) (x' : AV) (hx : RepTop w' F' (O b) β b x' (tm a b)) (hto : ∀ c, x'.isTo c = false) :
    RR nt w0 S0 F0 F' O β (s.set b x' True false) a w' := by
  have hnF : ∀ k o, F k o → ¬ S k o := fun k o hF hs => h.sep b k o (hS k o hs) hF
  refine ⟨h.chg.trans hc (fun k o hk hs => (h.own b k o (hS k o hs)).elim (fun hh => by omega) id), fun t k o ho hf => ?_, h.dis, hin, fun t k o ho => Nat.lt_of_lt_of_le (h.inO t k o ho) hc.size, h.own, fun k o hf => ?_, fun u hu => ?_, fun u hk hu => ?_, fun x c hx hb => ?_, h.size, h.defs,
    fun k o hb => ⟨hF k o (h.gl k o hb).1, (hc.cell (h.inF k o (h.gl k o hb).1) (hnF k o (h.gl k o hb).1)).trans (h.gl k o hb).2⟩⟩
  · rcases hF' k o hf with hf | hf
    · exact h.sep t k o ho hf
    · have := h.inO t k o ho; omega
  · rcases hF' k o hf with hf | hf
    · exact h.fF k o hf
    · exact .inr (.inl (Nat.le_trans h.chg.size hf))
  · rw [St.D_set] at hu
    rw [St.env_set]
    by_cases e : b = u
    · subst e; rw [if_pos rfl]; exact hx
    · rw [if_neg e] at hu ⊢
      exact (h.rep u hu).chg hc (fun k o hk => ⟨hF k o hk, h.inF k o hk, hnF k o hk⟩) (fun k o ho hs => h.dis b u k o e (hS k o hs) ho)
  · rw [St.K_set] at hk
    rw [St.D_set] at hu
    by_cases e : b = u
    · rw [if_pos e] at hu; exact (hu trivial).elim
    · rw [if_neg e] at hk hu; exact h.und u hk hu
  · rw [St.D_set] at hx
    rw [St.refOk_set] at hb
    rw [St.env_set]
    by_cases e : b = x
    · rw [if_pos e, hto] at hb; cases hb
    · rw [if_neg e] at hx hb ⊢
      rw [if_neg (by simp)] at hb
      exact h.refs x c hx hb
/-! ### Boxes that may have rows -/
section
variable {nt : Nat} {w0 : World} {S0 F0 F : Fp} {O : Nat → Fp} {β : Nat → Nat} {s : St} {a : Act} {w : World}
theorem RR.cellsO (h : RR nt w0 S0 F0 F O β s a w) {b : Nat} (hD : s.D b) (ho : (s.env b).isOBox) :
    tm a b = .pointer (some ⟨β b, 0, none⟩) ∧ ∃ c e, w.heap[β b]? = some (.cells c e (0, 0)) ∧ CellsO w F (O b) (β b) (s.env b).inner c ∧ ∀ o, O b (β b) o := by
  have hr := h.rep b hD
  revert hr ho
  cases s.env b <;> simp only [AV.isOBox, RepTop, AV.inner, false_implies, true_implies]
  exact fun hh => hh
theorem row_shared {Q : Fp} {sz n : Nat} {xs : List AV} {v : Value} (h : RowRep w F Q sz xs n v) : Rep w F (.sl xs n) v := by
  simp only [Rep]
  rcases h with ⟨rfl, rfl, rfl⟩ | ⟨g, c, cur, e, lo, hi, rfl, h1, h2, h3, h4, h5, h6, h7, h8⟩
  · exact ⟨none, 0, rfl, Nat.le_refl _, Nat.zero_le _, .inl ⟨rfl, rfl⟩⟩
  · exact ⟨_, c, rfl, h2, h3, .inr ⟨g, 0, rfl, h6⟩⟩
theorem cell_shared {Q : Fp} {x : AV} {v : Value} (h : CellO w F Q x v) (hg : x.share.good) : x.share.one = true ∧ Rep w F x.share v := by
  cases x with
  | row sz xs n => simp only [CellO, Own] at h; exact ⟨rfl, row_shared h⟩
  | bad => exact hg.elim
  | agg xs => simp only [CellO, Own] at h
  | anyB => simp only [CellO, Own] at h
  | tup xs => simp only [CellO, Own] at h
  | box xs => exact hg.elim
  | obox xs => exact hg.elim
  | otup _ => exact hg.elim
  | ref _ _ => exact hg.elim
  | mrow _ _ _ => exact hg.elim
  | al _ => exact hg.elim
  | iter _ _ => exact hg.elim
  | win _ _ _ => exact hg.elim
  | clo _ _ => exact hg.elim
  | _ => simp only [CellO, Own] at h; exact ⟨rfl, h⟩
theorem shared_list (Q : Nat → Fp) : ∀ (xs : List AV) (vs : List Value) (k : Nat), vs.length = xs.length → allGood xs → (∀ i x u, xs[i]? = some x → vs[i]? = some u → CellO w F (Q (k + i)) x u) → RepL w F true (xs.map AV.share) vs
  | [], [], _, _, _, _ => by simp only [List.map_nil, RepL]
  | [], _ :: _, _, hl, _, _ => by simp at hl
  | _ :: _, [], _, hl, _, _ => by simp at hl
  | x :: xs, v :: vs, k, hl, hg, h => by
    simp only [List.map_cons, RepL]
    have h0 := cell_shared (h 0 x v rfl rfl) hg.1
    refine ⟨v, vs, rfl, fun _ => h0.1, h0.2, shared_list Q xs vs (k + 1) (by simpa using hl) hg.2 fun i y u hy hu => ?_⟩
    rw [show k + 1 + i = k + (i + 1) by omega]
    exact h (i + 1) y u (by simpa using hy) (by simpa using hu)
/-- The cells that are asked for, as things that are only read. -/
theorem CellsO.shared {O : Fp} {bk off n : Nat} {agg : Bool} {xs : List AV} {c : Array Value} (h : CellsO w F O bk xs c) (hg : partGood off n agg xs) (hd : dPart off n agg (xs.map AV.share)) :
    ∃ ys cs, RepL w F true ys cs ∧ (∀ (j : Nat) (v : Value), cs[j]? = some v → c[off + j]? = some v) ∧ dPart 0 n agg ys ∧ aPart 0 n agg ys = aPart off n agg (xs.map AV.share) := by
  obtain ⟨hl, Q, _, _, hc⟩ := h
  cases agg with
  | true =>
    simp only [partGood, if_true] at hg
    simp only [dPart, if_true, List.length_map] at hd
    refine ⟨((xs.drop off).take n).map AV.share, (c.toList.drop off).take n, shared_list (fun i => Q (off + i)) _ _ 0 (by simp [hl]) hg fun i x u hx hu => ?_, fun j v hj => ?_, ?_, ?_⟩
    · rw [List.getElem?_take] at hx hu
      by_cases hi : i < n
      · rw [if_pos hi, List.getElem?_drop] at hx hu
        rw [Nat.zero_add]
        exact hc _ x u hx (by simpa using hu)
      · rw [if_neg hi] at hx; cases hx
    · rw [List.getElem?_take] at hj
      split at hj
      · rw [List.getElem?_drop] at hj; simpa using hj
      · cases hj
    · simp only [dPart, if_true, List.length_map, List.length_take, List.length_drop]; omega
    · simp [aPart, List.map_take, List.map_drop, List.take_take]
  | false =>
    simp only [partGood, Bool.false_eq_true, if_false] at hg
    simp only [dPart, Bool.false_eq_true, if_false, List.length_map] at hd
    have hlt : off < c.size := by omega
    have hx : xs[off]? = some xs[off] := List.getElem?_eq_getElem hd
    rw [List.getD_eq_getElem?_getD, hx] at hg
    have h0 := cell_shared (hc off _ _ hx (Array.getElem?_eq_getElem hlt)) hg
    refine ⟨[(xs[off]).share], [c[off]], ?_, fun j v hj => ?_, by simp [dPart], ?_⟩
    · simp only [RepL]
      exact ⟨_, _, rfl, fun _ => h0.1, h0.2, rfl⟩
    · cases j with
      | zero => simp only [List.getElem?_cons_zero, Option.some.injEq] at hj; subst hj; simp
      | succ j => simp at hj
    · simp [aPart, List.getD_eq_getElem?_getD, hx]
/-- A thing that may be moved stands by itself. -/
theorem own_top {Q : Fp} : ∀ {x : AV} {v : Value}, x.isTree → Own w F x Q v → ∃ βd, ∀ (β' : Nat → Nat) (t : Nat), β' t = βd → RepTop w F Q β' t x v
  | .row sz xs n, v, _, h => ⟨0, fun β' t _ => by simp only [Own] at h; simp only [RepTop]; exact h⟩
  | .mrow sz xs n, v, _, h => by
    simp only [Own] at h
    rcases h with h | ⟨g, c, cur, e, lo, hi, h0, h1, h2, h3, h4, h5, h6, h7, h8⟩
    · exact ⟨0, fun β' t _ => by simp only [RepTop]; exact .inl h⟩
    · exact ⟨g, fun β' t e1 => by simp only [RepTop]; subst e1; exact .inr ⟨c, cur, e, lo, hi, h0, h1, h2, h3, h4, h5, h6, h7, h8⟩⟩
  | .obox xs, v, _, h => by
    simp only [Own] at h
    obtain ⟨b, c, e, h0, h1, h2, h3⟩ := h
    exact ⟨b, fun β' t e1 => by simp only [RepTop]; subst e1; exact ⟨h0, c, e, h1, cellsO_iff.2 h3, h2⟩⟩
theorem top_own {Q : Fp} {β' : Nat → Nat} {t : Nat} : ∀ {x : AV} {v : Value}, x.isTree → RepTop w F Q β' t x v → Own w F x Q v ∧ v.oneCell' = true ∧ v.cells = #[v]
  | .row sz xs n, v, _, h => by
    simp only [RepTop] at h
    simp only [Own]
    refine ⟨h, ?_⟩
    rcases h with ⟨rfl, _⟩ | ⟨g, c, cur, e, lo, hi, rfl, _⟩ <;> exact ⟨rfl, rfl⟩
  | .mrow sz xs n, v, _, h => by
    simp only [RepTop] at h
    simp only [Own]
    rcases h with h | ⟨c, cur, e, lo, hi, h0, h1, h2, h3, h4, h5, h6, h7, h8⟩
    · exact ⟨.inl h, by rw [h.1]; exact ⟨rfl, rfl⟩⟩
    · exact ⟨.inr ⟨_, c, cur, e, lo, hi, h0, h1, h2, h3, h4, h5, h6, h7, h8⟩, by rw [h0]; exact ⟨rfl, rfl⟩⟩
  | .obox xs, v, _, h => by
    simp only [RepTop] at h
    simp only [Own]
    obtain ⟨h0, c, e, h1, h2, h3⟩ := h
    exact ⟨⟨_, c, e, h0, h1, h3, cellsO_iff.1 h2⟩, by rw [h0]; exact ⟨rfl, rfl⟩⟩
theorem tree_to {x : AV} (h : x.isTree) (b : Nat) : x.isTo b = false := by cases x <;> first | rfl | exact h.elim
theorem splice_at (xs : List AV) (off : Nat) (ys : List AV) (hl : off + ys.length ≤ xs.length) (i : Nat) : (splice xs off ys)[i]? = if i < off then xs[i]? else if i < off + ys.length then ys[i - off]? else xs[i]? := by
  unfold splice
  by_cases h1 : i < off
  · rw [if_pos h1, List.append_assoc, List.getElem?_append_left (by simp; omega), List.getElem?_take, if_pos h1]
  · rw [if_neg h1, List.append_assoc, List.getElem?_append_right (by simp; omega)]
    have e1 : (xs.take off).length = off := by simp; omega
    rw [e1]
    by_cases h2 : i < off + ys.length
    · rw [if_pos h2, List.getElem?_append_left (by omega)]
    · rw [if_neg h2, List.getElem?_append_right (by omega), List.getElem?_drop]
      congr 1; omega
/-- Into a box that may have rows. -/
theorem RR.storeO {P : Program} (h : RR nt w0 S0 F0 F O β s a w) {b : Nat} (hD : s.D b) (ho : (s.env b).isOBox) (off : Nat) (ys : List AV) (vs : List Value) (hy : RepL w F true ys vs) (hl : off + ys.length ≤ (s.env b).inner.length) :
    (storeCells ⟨β b, off, none⟩ vs).run P w = .ok () (w.setCells (β b) off vs) ∧ RR nt w0 S0 F0 F O β (s.set b (.obox (splice (s.env b).inner off (ys.map AV.toO))) True false) a (w.setCells (β b) off vs) := by
  obtain ⟨htm, c, e, h1, ⟨hcl, Q, q1, q2, q3⟩, h3⟩ := h.cellsO hD ho
  have hvl := repL_length _ _ hy
  have hc : Chg (fun k _ => k = β b) w (w.setCells (β b) off vs) := chg_setCells h1 fun _ _ => rfl
  obtain ⟨c', g1, g2, g3⟩ := setCells_heap (β b) vs off w c e (0, 0) h1
  have hex : ∀ j, j < vs.length → (w.cell? ⟨β b, off + j, none⟩).isSome = true := fun j hj => by
    rw [cell_of_heap h1]
    have : off + j < c.size := by omega
    simp [this]
  have hin : ∀ j (hj : j < vs.length), c'[off + j]? = some vs[j] := fun j hj => by
    rw [← cell_of_heap g1, World.cell?_setCells_in (β b) vs off w hex j hj]
  have hnF : ∀ k o, F k o → k ≠ β b := fun k o hF e => h.sep b k o (by rw [e]; exact h3 o) hF
  have hA : Agree F F w (w.setCells (β b) off vs) := fun k o hb => ⟨hb, hc.cell (h.inF k o hb) (hnF k o hb)⟩
  refine ⟨?_, ?_⟩
  · have := run_storeCells_cells (P := P) (β b) off vs 0 w (fun j hj => by
      simpa using hex j hj) (fun j hj => by
      simp only [World.frozen?, h1]
      simp) (repL_one _ _ hy)
    simpa using this
  · refine h.turn hc (fun k o hk => by rw [hk]; exact h3 o) (fun _ _ hf => hf) (fun _ _ hf => .inl hf) (fun k o hf => Nat.lt_of_lt_of_le (h.inF k o hf) hc.size) _ ?_ (fun _ => rfl)
    simp only [RepTop]
    have hsl : (splice (s.env b).inner off (ys.map AV.toO)).length = (s.env b).inner.length := by
      unfold splice; simp only [List.length_append, List.length_take, List.length_drop, List.length_map]; omega
    refine ⟨htm, c', e, g1, ⟨by rw [hsl, hcl, g2], Q, q1, q2, fun i x u hx hu => ?_⟩, h3⟩
    rw [splice_at _ _ _ (by simpa using hl)] at hx
    simp only [List.length_map] at hx
    by_cases i1 : i < off
    · rw [if_pos i1] at hx
      rw [g3 i (.inl i1)] at hu
      exact Own.chg hc hA x (fun k o hq hk => (q1 i k o hq).2 hk) (q3 i x u hx hu)
    · rw [if_neg i1] at hx
      by_cases i2 : i < off + ys.length
      · rw [if_pos i2] at hx
        have hi := hin (i - off) (by omega)
        rw [show off + (i - off) = i by omega] at hi
        rw [hi] at hu
        cases hu
        rw [List.getElem?_map] at hx
        obtain ⟨y, hy1, rfl⟩ := Option.map_eq_some_iff.1 hx
        obtain ⟨hlt, hye⟩ := List.getElem?_eq_some_iff.1 hy1
        obtain ⟨u, k1, k2, k3⟩ := repL_get ys vs (i - off) hlt hy
        rw [List.getElem?_eq_getElem (by omega)] at k1
        cases k1
        rw [← hye]
        exact CellO.one (k2 rfl) (Rep.agree hA _ _ k3)
      · rw [if_neg i2] at hx
        rw [g3 i (.inr (by omega))] at hu
        exact Own.chg hc hA x (fun k o hq hk => (q1 i k o hq).2 hk) (q3 i x u hx hu)
/-- What b has is less now. -/
theorem RR.shrink (h : RR nt w0 S0 F0 F O β s a w) {b : Nat} {Ob : Fp} (hs : ∀ k o, Ob k o → O b k o) (x' : AV) (hx : RepTop w F Ob β b x' (tm a b)) (hto : ∀ c, x'.isTo c = false) : RR nt w0 S0 F0 F (off1 O b Ob) β (s.set b x' True false) a w := by
  have sub : ∀ t k o, off1 O b Ob t k o → O t k o := fun t k o ho => by
    unfold off1 at ho; split at ho
    · rename_i e; rw [e]; exact hs k o ho
    · exact ho
  refine ⟨h.chg, fun t k o ho => h.sep t k o (sub t k o ho), fun t u k o ht ho hu => h.dis t u k o ht (sub _ _ _ ho) (sub _ _ _ hu), h.inF, fun t k o ho => h.inO t k o (sub _ _ _ ho), fun t k o ho => h.own t k o (sub _ _ _ ho), h.fF, fun u hu => ?_, fun u hk hu => ?_, fun x c hx hb => ?_, h.size, h.defs, h.gl⟩
  · rw [St.D_set] at hu
    rw [St.env_set]
    by_cases e : b = u
    · subst e; rw [if_pos rfl]; unfold off1; rw [if_pos rfl]; exact hx
    · rw [if_neg e] at hu ⊢
      unfold off1; rw [if_neg (Ne.symm e)]
      exact h.rep u hu
  · rw [St.K_set] at hk
    rw [St.D_set] at hu
    by_cases e : b = u
    · rw [if_pos e] at hu; exact (hu trivial).elim
    · rw [if_neg e] at hk hu; exact h.und u hk hu
  · rw [St.D_set] at hx
    rw [St.refOk_set] at hb
    rw [St.env_set]
    by_cases e : b = x
    · rw [if_pos e, hto] at hb; cases hb
    · rw [if_neg e] at hx hb ⊢
      rw [if_neg (by simp)] at hb
      exact h.refs x c hx hb
/-- What t owned is b's now. -/
theorem RR.merge (h : RR nt w0 S0 F0 F O β s a w) {b t : Nat} (hbt : t ≠ b) (hm : RepTop w F (fun k o => O b k o ∨ O t k o) β b (s.env b) (tm a b)) :
    RR nt w0 S0 F0 F (off1 (off1 O t NoFp) b (fun k o => O b k o ∨ O t k o)) β (s.give (.t t)) a w := by
  have h1 := h.give t
  have at1 : ∀ u, u ≠ b → off1 (off1 O t NoFp) b (fun k o => O b k o ∨ O t k o) u = off1 O t NoFp u := fun u e => by unfold off1; rw [if_neg e]
  have atb : off1 (off1 O t NoFp) b (fun k o => O b k o ∨ O t k o) b = fun k o => O b k o ∨ O t k o := by unfold off1; rw [if_pos rfl]
  have at2 : ∀ u k o, off1 O t NoFp u k o → O u k o ∧ u ≠ t := fun u k o ho => by
    unfold off1 at ho; split at ho
    · exact ho.elim
    · rename_i e; exact ⟨ho, e⟩
  refine ⟨h1.chg, fun u k o ho => ?_, fun u v k o huv ho hv => ?_, h1.inF, fun u k o ho => ?_, fun u k o ho => ?_, h1.fF, fun u hu => ?_, h1.und, h1.refs, h1.size, h1.defs, h1.gl⟩
  · by_cases e : u = b
    · subst e; rw [atb] at ho; exact ho.elim (h.sep _ k o) (h.sep _ k o)
    · rw [at1 u e] at ho; exact h1.sep u k o ho
  · by_cases e : u = b
    · subst e
      rw [atb] at ho
      rw [at1 v (Ne.symm huv)] at hv
      obtain ⟨g1, g2⟩ := at2 v k o hv
      exact ho.elim (fun q => h.dis _ v k o huv q g1) (fun q => h.dis t v k o (Ne.symm g2) q g1)
    · rw [at1 u e] at ho
      by_cases e2 : v = b
      · subst e2
        rw [atb] at hv
        obtain ⟨g1, g2⟩ := at2 u k o ho
        exact hv.elim (fun q => h.dis u _ k o huv g1 q) (fun q => h.dis u t k o g2 g1 q)
      · rw [at1 v e2] at hv
        exact h1.dis u v k o huv ho hv
  · by_cases e : u = b
    · subst e; rw [atb] at ho; exact ho.elim (h.inO _ k o) (h.inO _ k o)
    · rw [at1 u e] at ho; exact h1.inO u k o ho
  · by_cases e : u = b
    · subst e; rw [atb] at ho; exact ho.elim (h.own _ k o) (h.own _ k o)
    · rw [at1 u e] at ho; exact h1.own u k o ho
  · by_cases e : u = b
    · subst e
      rw [atb]
      have e1 : (s.give (.t t)).env u = s.env u := by unfold St.give; rw [St.env_set, if_neg hbt]
      rw [e1]; exact hm
    · rw [at1 u e]; exact h1.rep u hu
/-- A thing is moved out of a box. -/
theorem RR.takeO (h : RR nt w0 S0 F0 F O β s a w) {b : Nat} (hD : s.D b) (ho : (s.env b).isOBox) {off : Nat} {x : AV} (hx : (s.env b).inner[off]? = some x) (hxt : x.isTree) {d : Nat} (hd : d < nt) (hne : d ≠ b) :
    ∃ v O' β', w.cell? ⟨β b, off, none⟩ = some v ∧ RR nt w0 S0 F0 F O' β' ((s.set b (.obox ((s.env b).inner.set off .bad)) True false).set d x True true) (a.put (some d) v) w := by
  obtain ⟨htm, c, e, h1, ⟨hcl, Q, q1, q2, q3⟩, h3⟩ := h.cellsO hD ho
  have hlt : off < c.size := by have := (List.getElem?_eq_some_iff.1 hx).1; omega
  obtain ⟨βd, hrow⟩ := own_top hxt (q3 off _ _ hx (Array.getElem?_eq_getElem hlt))
  have h2 := h.shrink (b := b) (Ob := fun k o => O b k o ∧ ¬ Q off k o) (fun _ _ hh => hh.1) (.obox ((s.env b).inner.set off .bad)) (by
    simp only [RepTop]
    refine ⟨htm, c, e, h1, ⟨by simp [hcl], fun i => if i = off then NoFp else Q i, fun i k o hq => ?_, fun i j k o hij hi hj => ?_, fun i x' u hx hu => ?_⟩, fun o => ⟨h3 o, fun hq => (q1 off _ _ hq).2 rfl⟩⟩
    · dsimp only at hq
      split at hq
      · exact hq.elim
      · rename_i e1; exact ⟨⟨(q1 i k o hq).1, fun hq' => q2 i off k o e1 hq hq'⟩, (q1 i k o hq).2⟩
    · dsimp only at hi hj
      split at hi
      · exact hi.elim
      · split at hj
        · exact hj.elim
        · exact q2 i j k o hij hi hj
    · rw [List.getElem?_set] at hx
      by_cases e1 : off = i
      · rw [if_pos e1] at hx
        split at hx
        · cases hx; simp only [CellO, Own]
        · cases hx
      · rw [if_neg e1] at hx
        dsimp only
        rw [if_neg (Ne.symm e1)]
        exact q3 i x' u hx hu) (fun _ => rfl)
  refine ⟨c[off], _, _, by rw [cell_of_heap h1]; exact Array.getElem?_eq_getElem hlt, h2.put hd x c[off] True (Q off) βd (fun _ => hrow _ _ (by unfold upd; rw [if_pos rfl])) (fun _ b hb => by rw [tree_to hxt] at hb; cases hb) (fun hn => (hn trivial).elim) (fun k o hq => h.sep b k o (q1 _ _ _ hq).1) (fun t k o ht hq hu => ?_) (fun k o hq => h.inO b k o (q1 _ _ _ hq).1) (fun k o hq => h.own b k o (q1 _ _ _ hq).1)⟩
  unfold off1 at hu
  split at hu
  · exact hu.2 hq
  · rename_i e1; exact h.dis b t k o (Ne.symm e1) (q1 _ _ _ hq).1 hu
theorem comp_rep {Q : Fp} {x : AV} {v : Value} (hx : x.isComp) (ht : x.isTreeB = false) (h : Own w F x Q v ∨ Rep w F x v) : Rep w F x v := by
  rcases h with h | h
  · cases x <;> first | (simp only [Own] at h; done) | (simp [AV.isTreeB] at ht; done) | (simp [AV.isComp] at hx; done) | (simp only [Own] at h; exact h)
  · exact h
theorem comp_own {Q : Fp} {x : AV} {v : Value} (ht : x.isTreeB = true) (h : Own w F x Q v ∨ Rep w F x v) : Own w F x Q v := by
  rcases h with h | h
  · exact h
  · cases x <;> simp [AV.isTreeB] at ht <;> simp only [Rep] at h
theorem tree_iff {x : AV} : x.isTreeB = true ↔ x.isTree := by cases x <;> simp [AV.isTreeB, AV.isTree]
/-- A part of a tuple that owns things. -/
theorem RR.extO (h : RR nt w0 S0 F0 F O β s a w) {b : Nat} (hD : s.D b) (ho : (s.env b).isOTup) {i : Nat} (hc : ((s.env b).inner.getD i .bad).isComp) {d : Nat} (hd : d < nt) :
    ∃ cs v O' β', tm a b = .tuple cs ∧ cs[i]? = some v ∧ RR nt w0 S0 F0 F O' β' ((s.set b (.otup ((s.env b).inner.set i ((s.env b).inner.getD i .bad).left)) True false).set d ((s.env b).inner.getD i .bad) True true) (a.put (some d) v) w := by
  obtain ⟨xs, hx⟩ : ∃ xs, s.env b = .otup xs := by revert ho; cases s.env b <;> simp [AV.isOTup]
  have hr := h.rep b hD
  rw [hx] at hr hc ⊢
  simp only [AV.inner] at hc ⊢
  simp only [RepTop] at hr
  obtain ⟨cs, h0, h1, Q, q1, q2, q3⟩ := hr
  have hlt : i < xs.length := by
    rcases Nat.lt_or_ge i xs.length with q | q
    · exact q
    · rw [List.getD_eq_getElem?_getD, List.getElem?_eq_none q] at hc; exact hc.elim
  have hg : xs.getD i .bad = xs[i] := by rw [List.getD_eq_getElem?_getD, List.getElem?_eq_getElem hlt]; rfl
  rw [hg] at hc ⊢
  have hcs : cs[i]? = some (cs[i]'(by omega)) := Array.getElem?_eq_getElem _
  have hq := q3 i _ _ (List.getElem?_eq_getElem hlt) hcs
  refine ⟨cs, cs[i]'(by omega), ?_⟩
  cases ht : (xs[i]).isTreeB with
  | false =>
    have hleft : (xs[i]).left = xs[i] := by revert ht; cases xs[i] <;> simp [AV.isTreeB, AV.left]
    have hself : xs.set i (xs[i]).left = xs := by rw [hleft]; simp
    rw [hself]
    have h2 := h.again hD (by rw [hx]; exact fun _ => rfl)
    rw [hx] at h2
    have hrep := comp_rep hc ht hq
    obtain ⟨g1, g2⟩ := good_of_rep hrep
    exact ⟨_, _, h0, hcs, h2.put0 hd _ _ True (fun _ => top_of_rep hrep) (fun _ c hb => by rw [isTo_good g2 g1] at hb; cases hb) (fun hn => (hn trivial).elim)⟩
  | true =>
    have hleft : (xs[i]).left = .bad := by revert ht; cases xs[i] <;> simp [AV.isTreeB, AV.left]
    rw [hleft]
    have hown := comp_own ht hq
    have hxt := tree_iff.1 ht
    obtain ⟨βd, hrow⟩ := own_top hxt hown
    have h2 := h.shrink (b := b) (Ob := fun k o => O b k o ∧ ¬ Q i k o) (fun _ _ hh => hh.1) (.otup (xs.set i .bad)) (by
      simp only [RepTop]
      refine ⟨cs, h0, by simp [h1], fun j => if j = i then NoFp else Q j, fun j k o hq => ?_, fun j l k o hij hi hj => ?_, fun j x' u hx' hu => ?_⟩
      · dsimp only at hq
        split at hq
        · exact hq.elim
        · rename_i e1; exact ⟨q1 j k o hq, fun hq' => q2 i j k o (Ne.symm e1) hq' hq⟩
      · dsimp only at hi hj
        split at hi
        · exact hi.elim
        · split at hj
          · exact hj.elim
          · exact q2 j l k o hij hi hj
      · rw [List.getElem?_set] at hx'
        by_cases e1 : i = j
        · rw [if_pos e1] at hx'
          split at hx'
          · cases hx'; left; simp only [Own]
          · cases hx'; left; simp only [Own]
        · rw [if_neg e1] at hx'
          dsimp only
          rw [if_neg (Ne.symm e1)]
          exact q3 j x' u hx' hu) (fun _ => rfl)
    refine ⟨_, _, h0, hcs, h2.put hd xs[i] _ True (Q i) βd (fun _ => hrow _ _ (by unfold upd; rw [if_pos rfl])) (fun _ b hb => by rw [tree_to hxt] at hb; cases hb) (fun hn => (hn trivial).elim) (fun k o hq => h.sep b k o (q1 _ _ _ hq)) (fun t k o ht hq hu => ?_) (fun k o hq => h.inO b k o (q1 _ _ _ hq)) (fun k o hq => h.own b k o (q1 _ _ _ hq))⟩
    unfold off1 at hu
    split at hu
    · exact hu.2 hq
    · rename_i e1; exact h.dis b t k o (Ne.symm e1) (q1 _ _ _ hq) hu
/-- A thing is moved into a box. -/
theorem RR.putO {P : Program} (h : RR nt w0 S0 F0 F O β s a w) {b t : Nat} (hbt : t ≠ b) (hD : s.D b) (ho : (s.env b).isOBox) (ht : s.D t) {off : Nat} (hxt : (s.env t).isTree) (hl : off < (s.env b).inner.length) :
    (storeCells ⟨β b, off, none⟩ [tm a t]).run P w = .ok () (w.setCells (β b) off [tm a t]) ∧ ∃ O', RR nt w0 S0 F0 F O' β ((s.give (.t t)).set b (.obox ((s.env b).inner.set off (s.env t))) True false) a (w.setCells (β b) off [tm a t]) := by
  obtain ⟨htm, c, e, h1, ⟨hcl, Q, q1, q2, q3⟩, h3⟩ := h.cellsO hD ho
  obtain ⟨hrow, hone, _⟩ := top_own hxt (h.rep t ht)
  have hc : Chg (fun k _ => k = β b) w (w.setCells (β b) off [tm a t]) := chg_setCells h1 fun _ _ => rfl
  obtain ⟨c', g1, g2, g3⟩ := setCells_heap (β b) [tm a t] off w c e (0, 0) h1
  have hex : ∀ j, j < [tm a t].length → (w.cell? ⟨β b, off + j, none⟩).isSome = true := fun j hj => by
    rw [cell_of_heap h1]
    have : off + j < c.size := by simp at hj; omega
    simp [this]
  have hin : c'[off]? = some (tm a t) := by
    have := World.cell?_setCells_in (β b) [tm a t] off w hex 0 (by simp)
    rw [cell_of_heap g1] at this
    simpa using this
  have hnF : ∀ k o, F k o → k ≠ β b := fun k o hF e => h.sep b k o (by rw [e]; exact h3 o) hF
  have hA : Agree F F w (w.setCells (β b) off [tm a t]) := fun k o hb => ⟨hb, hc.cell (h.inF k o hb) (hnF k o hb)⟩
  have hmem : RepTop w F (fun k o => O b k o ∨ O t k o) β b (s.env b) (tm a b) := by
    have hr := h.rep b hD
    revert hr ho
    cases s.env b <;> simp only [AV.isOBox, RepTop, false_implies, true_implies]
    rintro ⟨r1, c2, e2, r2, ⟨r3, Q2, r4, r5, r6⟩, r7⟩
    exact ⟨r1, c2, e2, r2, ⟨r3, Q2, fun i k o hq => ⟨.inl (r4 i k o hq).1, (r4 i k o hq).2⟩, r5, r6⟩, fun o => .inl (r7 o)⟩
  have h2 := h.merge hbt hmem
  refine ⟨?_, _, h2.turn (b := b) hc (fun k o hk => ?_) (fun _ _ hf => hf) (fun _ _ hf => .inl hf) (fun k o hf => Nat.lt_of_lt_of_le (h.inF k o hf) hc.size) _ ?_ (fun _ => rfl)⟩
  · have := run_storeCells_cells (P := P) (β b) off [tm a t] 0 w (fun j hj => by
      simpa using hex j hj) (fun j hj => by
      simp only [World.frozen?, h1]
      simp) (fun v hv => by simp at hv; subst hv; exact hone)
    simpa using this
  · unfold off1; rw [if_pos rfl, hk]; exact .inl (h3 o)
  · simp only [RepTop]
    refine ⟨htm, c', e, g1, ⟨by simp [hcl, g2], fun i => if i = off then O t else Q i, fun i k o hq => ?_, fun i j k o hij hi hj => ?_, fun i x u hx' hu => ?_⟩, fun o => by unfold off1; rw [if_pos rfl]; exact .inl (h3 o)⟩
    · unfold off1; rw [if_pos rfl]
      dsimp only at hq
      split at hq
      · exact ⟨.inr hq, fun e1 => h.dis b t k o (Ne.symm hbt) (by rw [e1]; exact h3 o) hq⟩
      · exact ⟨.inl (q1 i k o hq).1, (q1 i k o hq).2⟩
    · dsimp only at hi hj
      split at hi
      · rename_i e1
        split at hj
        · rename_i e2; exact hij (e1.trans e2.symm)
        · exact h.dis b t k o (Ne.symm hbt) (q1 j k o hj).1 hi
      · split at hj
        · exact h.dis b t k o (Ne.symm hbt) (q1 i k o hi).1 hj
        · exact q2 i j k o hij hi hj
    · rw [List.getElem?_set] at hx'
      by_cases e1 : off = i
      · rw [if_pos e1] at hx'
        subst e1
        rw [if_pos hl] at hx'
        cases hx'
        rw [hin] at hu
        cases hu
        dsimp only
        rw [if_pos rfl]
        exact Own.chg hc hA _ (fun k o hq hk => h.dis b t k o (Ne.symm hbt) (by rw [hk]; exact h3 o) hq) hrow
      · rw [if_neg e1] at hx'
        dsimp only
        rw [if_neg (Ne.symm e1)]
        rw [g3 i (by rcases Nat.lt_or_ge i off with q | q; exact .inl q; right; simp; omega)] at hu
        exact Own.chg hc hA x (fun k o hq hk => (q1 i k o hq).2 hk) (q3 i x u hx' hu)
end
/-- An append to what is written in place. -/
theorem RR.appendM {P : Program} {nt : Nat} {w0 : World} {S0 F0 F : Fp} {O : Nat → Fp} {β : Nat → Nat} {s : St} {a : Act} {w : World} (h : RR nt w0 S0 F0 F O β s a w) {d : Nat} (hd : d < nt)
    (t u ty e : TypeId) (i : TypeInfo) (z : Value) (td : TypeDesc) (ht : P.underlying t = some (.slice e)) (hu : P.underlying u = some td) (htd : td = .string ∨ ∃ e', td = .slice e') (hi : P.info? e = some i) (hz : i.zero = some z) (hzs : z.cells.size = i.size) (hpos : 0 < i.size)
    (Ob : Fp) (β' : Nat → Nat) (tb : Nat) (xs : List AV) (n : Nat) (vb : Value) (hb : RepTop w F Ob β' tb (.mrow i.size xs n) vb) (hbF : ∀ b o, Ob b o → ¬ F b o) (hbO : ∀ t b o, Ob b o → ¬ O t b o) (hbI : ∀ b o, Ob b o → b < w.heap.size) (hbW : ∀ b o, Ob b o → w0.heap.size ≤ b ∨ S0 b o)
    (x : Value) (m : Nat) (ys : List AV) (news : List Value) (hx : Src P w i.size m x news) (hy : RepL w F true ys news) (hbytes : (n + m) * i.bytes ≤ 140737488355328) (h63 : n + m ≤ 4611686018427387904) :
    ∃ v w' F' Od βd, (Builtin.append_ #[t, u] ty #[vb, x]).run P w = .ok v w' ∧ RR nt w0 S0 F0 F' (off1 O d Od) (upd β d βd) (s.set d (.mrow i.size (xs ++ ys) (n + m)) True true) (a.put (some d) v) w' := by
  have hnl := repL_length _ _ hy
  have hsz := hx.size
  have one := repL_one _ _ hy
  have grow : ∀ (base : Option Addr) (sCap : Nat) (olds : List Value), vb = .slice base n sCap → RepL w F true xs olds → olds.length = n * i.size → (Builtin.firstCells i.size n (.slice base n sCap)).run P w.drew = .ok olds.toArray w.drew → sCap < n + m →
      ∃ v w' F' Od βd, (Builtin.append_ #[t, u] ty #[vb, x]).run P w = .ok v w' ∧ RR nt w0 S0 F0 F' (off1 O d Od) (upd β d βd) (s.set d (.mrow i.size (xs ++ ys) (n + m)) True true) (a.put (some d) v) w' := by
    intro base sCap olds hv ho hol hof hlt
    subst hv
    have hr := run_app_grow (P := P) t u ty e i z td ht hu htd hi hz base n sCap olds hof x m news hx hlt (by omega) hbytes
    have hge := grownCap_ge w (n + m) sCap e
    have hcm : grownCap w (n + m) sCap e ≤ maxLen := grownCap_le_maxLen w (n + m) sCap e (by unfold maxLen; omega)
    refine ⟨_, _, _, _, _, hr, h.freshM hd (w' := w.drew.alloc _) ((chg_drew NoFp w).trans (chg_alloc NoFp w.drew _) (fun _ _ _ hn => hn)) (by simp) i.size (n + m) _ _ e 0 0 (heap_alloc_new w.drew _) hge hcm ?_ (.inl (Nat.le_refl _)) (xs ++ ys) (olds ++ news) (repL_append _ _ _ _ ho hy) ?_ ?_⟩
    · simp only [Array.size_append, List.size_toArray, size_zeroCells, hzs, hol, hsz, ← Nat.add_mul]
      congr 1; omega
    · rw [List.length_append, ← hnl, ← repL_length _ _ ho, hol, hsz, Nat.add_mul]
    · intro j v hj
      have hlt := (List.getElem?_eq_some_iff.1 hj).1
      rw [Array.getElem?_append_left (by simpa using hlt)]
      simpa using hj
  simp only [RepTop] at hb
  rcases hb with ⟨rfl, rfl, rfl⟩ | ⟨c, cur, e', lo, hi', rfl, h1, h2, h3, h4, h5, h6, h7, h8⟩
  · by_cases hm : m = 0
    · subst hm
      have hn : news = [] := List.eq_nil_of_length_eq_zero (by rw [hsz]; simp)
      have hys : ys = [] := List.eq_nil_of_length_eq_zero (by rw [← hnl, hn]; rfl)
      subst hn; subst hys
      have hlen := hx.len
      have hh := hx.here
      refine ⟨.slice none 0 0, w, F, NoFp, β d, ?_, ?_⟩
      · rcases htd with rfl | ⟨e', rfl⟩ <;>
        simp [Builtin.append_, run_underlying ht, run_underlying hu, sizeOf, typeInfo, hi, hlen, hh]
      · rw [upd_self]
        refine h.put0 hd _ _ True (fun _ => ?_) (fun _ b hb => by simp [AV.isTo] at hb) (fun hn => (hn trivial).elim)
        simp [RepTop]
    · exact grow none 0 [] rfl (by simp only [RepL]) (by simp) (by simp [Builtin.firstCells]) (by omega)
  · generalize β' tb = g at h1 h7 grow ⊢
    have hmulc : n * i.size ≤ c * i.size := Nat.mul_le_mul_right _ h2
    have holdl : (cur.toList.take (n * i.size)).length = n * i.size := by rw [List.length_take, Array.length_toList, h4]; omega
    by_cases hroom : n + m ≤ c
    · have hr := run_app_room (P := P) t u ty e i td ht hu htd hi g n c x m news hx hroom cur e' lo hi' h1 h4 h8 one
      have hc : Chg (fun b _ => b = g) w (w.setCells g (n * i.size) news) := chg_setCells h1 fun k hk => rfl
      have hmul : (n + m) * i.size = n * i.size + news.length := by rw [Nat.add_mul, hsz]
      have hmul' : (n + m) * i.size ≤ c * i.size := Nat.mul_le_mul_right _ hroom
      have hgw : g < w.heap.size := lt_of_heap h1
      have hgF : ∀ b o, F b o → b ≠ g := fun b o hF e => hbF b o (by rw [e]; exact h7 o) hF
      have hsize : (w.setCells g (n * i.size) news).heap.size = w.heap.size := (setCells_frame g news _ w).2.2.2.1
      have hA : Agree F F w (w.setCells g (n * i.size) news) := fun b o hb => ⟨hb, hc.cell (h.inF b o hb) (hgF b o hb)⟩
      have hm := h.move (S := fun b _ => b = g) (F' := F) hc (fun b o hlt hs => (hbW b o (by rw [hs]; exact h7 o)).elim (fun hh => by omega) id) (fun b o hs hF => hgF b o hF hs) (fun _ => False)
        (fun t b o _ ho hs => hbO t b o (by rw [hs]; exact h7 o) ho) (fun b o hb => hb) (fun b o hb => .inl hb) (fun b o hb => by rw [hsize]; exact h.inF b o hb) h.sep (fun _ hu => hu.elim)
      obtain ⟨cur', q1, q2, q3⟩ := setCells_heap g news (n * i.size) w cur e' (lo, hi') h1
      refine ⟨_, _, F, fun b _ => b = g, g, hr, hm.put hd _ _ True (fun b _ => b = g) g (fun _ => ?_) (fun _ b hb => by simp [AV.isTo] at hb) (fun hn => (hn trivial).elim) (fun b o ho hb => hgF b o hb ho) (fun t b o _ ho ht' => hbO t b o (by rw [ho]; exact h7 o) ht') (fun b o ho => by rw [ho, hsize]; exact hgw) (fun b o ho => hbW b o (by rw [ho]; exact h7 o))⟩
      simp only [RepTop, upd, if_true]
      refine .inr ⟨c, cur', e', lo, hi', rfl, q1, hroom, h3, q2.trans h4, by rw [List.length_append, h5, ← hnl, hsz, Nat.add_mul], ?_, fun _ => trivial, h8⟩
      have key : cur'.toList.take ((n + m) * i.size) = cur.toList.take (n * i.size) ++ news := by
        apply List.ext_getElem?
        intro j
        rw [List.getElem?_take]
        by_cases j0 : j < (n + m) * i.size
        · rw [if_pos j0, Array.getElem?_toList]
          by_cases j1 : j < n * i.size
          · rw [List.getElem?_append_left (by omega), List.getElem?_take, if_pos j1, Array.getElem?_toList]
            exact q3 j (.inl j1)
          · rw [List.getElem?_append_right (by omega), holdl]
            have hjn : j - n * i.size < news.length := by omega
            have := World.cell?_setCells_in g news (n * i.size) w (fun j hj => by rw [cell_of_heap h1]; have : n * i.size + j < cur.size := by omega
                                                                                  simp [this]) (j - n * i.size) hjn
            rw [cell_of_heap q1, show n * i.size + (j - n * i.size) = j by omega] at this
            rw [this, List.getElem?_eq_getElem hjn]
        · rw [if_neg j0, List.getElem?_eq_none (by rw [List.length_append, holdl]; omega)]
      rw [key]
      exact repL_append _ _ _ _ (RepL.agree hA _ _ _ h6) (RepL.agree hA _ _ _ hy)
    · refine grow (some ⟨g, 0, none⟩) c (cur.toList.take (n * i.size)) rfl h6 holdl ?_ (by omega)
      refine run_firstCells_some (P := P) w.drew i.size n ⟨g, 0, none⟩ n c _ holdl fun j v hj => ?_
      rw [Addr.add_lit, show w.drew.cell? ⟨g, 0 + j, none⟩ = w.cell? ⟨g, 0 + j, none⟩ from rfl, cell_of_heap h1, Nat.zero_add]
      rw [List.getElem?_take] at hj
      split at hj
      · simpa using hj
      · cases hj

/-! ### Calls -/
structure Post (w : World) (F S : Fp) (r : AV) (v : Value) (w' : World) (F' O' : Fp) (n : Nat) : Prop where
  chg : Chg S w w'
  rep : RepTop w' F' O' (fun _ => n) 0 r v
  sep : ∀ b o, O' b o → ¬ F' b o
  fF : ∀ b o, F' b o → F b o ∨ w.heap.size ≤ b ∨ S b o
  fO : ∀ b o, O' b o → w.heap.size ≤ b ∨ S b o
  inF : ∀ b o, F' b o → b < w'.heap.size
  inO : ∀ b o, O' b o → b < w'.heap.size
  good : okOwn true r

theorem okOwn_cases {b : Bool} {x : AV} (h : okOwn b x) : x.share.good ∨ (b = true ∧ (x.isBig ∨ x.isOTup)) := by
  revert h
  unfold okOwn
  cases b <;> cases x <;> simp [AV.share, AV.good, AV.isBig, AV.isOTup]
theorem okOwn_good {b : Bool} {x : AV} (h : x.share.good) : okOwn b x := by
  revert h
  unfold okOwn
  cases b <;> cases x <;> simp [AV.share, AV.good]
/-- What a call is given, and where it lies. -/
structure Given (P : Program) [Globs P] (w : World) (F : Fp) (Os : Nat → Fp) (β : Nat → Nat) (args : List AV) (vs : Array Value) : Prop where
  gl : GlobOk P w F
  size : vs.size = args.length
  rep : ∀ (i : Nat) (x : AV) (v : Value), args[i]? = some x → vs[i]? = some v → RepTop w F (Os i) β i x v ∧ okOwn true x
  sep : ∀ i b o, Os i b o → ¬ F b o
  dis : ∀ i j b o, i ≠ j → Os i b o → ¬ Os j b o
  inF : ∀ b o, F b o → b < w.heap.size
  inO : ∀ i b o, Os i b o → b < w.heap.size ∧ i < args.length

/-- **What a call tells**: with these arguments, whatever they lie in, it returns this. -/
def PFx (P : Program) [Globs P] (f : Nat) (args : List AV) (r : AV) : Prop :=
  ∀ (w : World) (F : Fp) (Os : Nat → Fp) (β : Nat → Nat) (vs : Array Value), Given P w F Os β args vs →
    Calls P f vs w fun e w' => ∃ v F' O' n, e = .returned v ∧ Post w F (fun b o => ∃ i, Os i b o) r v w' F' O' n

/-- The same of a function that turns one of its arguments, the first that is a thing of one's own: what it returns, and what that argument stands for then. -/
def PFb (P : Program) [Globs P] (f : Nat) (args : List AV) (r x' : AV) : Prop :=
  ∀ (w : World) (F : Fp) (Os : Nat → Fp) (β : Nat → Nat) (vs : Array Value), Given P w F Os β args vs →
    Calls P f vs w fun e w' => ∃ v F' O' n, e = .returned v ∧ Post w F (fun b o => ∃ i, Os i b o) r v w' F' O' n ∧
      ∀ p x u, args[p]? = some x → x.isBigB = true → vs[p]? = some u → ∃ Op, RepTop w' F' Op β p x' u ∧ (∀ b o, Op b o → ¬ F' b o ∧ ¬ O' b o ∧ b < w'.heap.size ∧ (w.heap.size ≤ b ∨ ∃ i, Os i b o)) ∧ x'.isBig

/-- What a table says of a number. -/
def PF (P : Program) [Globs P] (f : Nat) (args : List AV) (r : AV) : Prop :=
  if f < inPlace then PFx P f args r else ∀ q x', r = .tup [q, x'] → PFb P (f - inPlace) args q x'

def Sound (P : Program) [Globs P] (T : Tab) : Prop := ∀ f args r, T f args = some r → PF P f args r

/-- All that is known where a call runs: what its callees tell, and what the variables hold. -/
structure SoundG (P : Program) [Globs P] (T : Tab) (w0 : World) (F0 : Fp) : Prop where
  calls : Sound P T
  glob : GlobOk P w0 F0

abbrev stolen := stolenN

def offs (O : Nat → Fp) (l : List Nat) : Nat → Fp := fun t => if t ∈ l then NoFp else O t

theorem share_share (x : AV) : x.share.share = x.share := by cases x <;> rfl

theorem RR.gives {nt : Nat} {w0 : World} {S0 F0 F : Fp} {β : Nat → Nat} {a : Act} {w : World} : ∀ (as : List (Bool × RV)) (O : Nat → Fp) (s : St), RR nt w0 S0 F0 F O β s a w →
    RR nt w0 S0 F0 F (offs O (stolen as)) β (giveArgs s as) a w
  | [], O, s, h => by
    have : offs O (stolen []) = O := by funext t; simp [offs, stolenN]
    rw [this]; exact h
  | (false, x) :: as, O, s, h => by
    simp only [giveArgs, stolenN]
    exact RR.gives as O s h
  | (true, .c v) :: as, O, s, h => by
    simp only [giveArgs, St.give, stolenN]
    exact RR.gives as O s h
  | (true, .t n) :: as, O, s, h => by
    simp only [giveArgs, stolenN]
    have h1 := h.give n
    have h2 := RR.gives as _ _ h1
    have : offs (off1 O n NoFp) (stolen as) = offs O (n :: stolen as) := by
      funext t
      unfold offs off1
      by_cases h1 : t ∈ stolen as
      · simp [h1]
      · by_cases h2 : t = n <;> simp [h1, h2]
    rw [this] at h2
    exact h2

end Go.Proofs.Ytbikpgaiocjnoaa.Pad
