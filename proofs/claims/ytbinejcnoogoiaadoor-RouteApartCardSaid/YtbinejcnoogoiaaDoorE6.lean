/- Boxes, and calls. -/
import Derived.Test.YtbinejcnoogoiaaDoorE5
set_option linter.unusedVariables false
set_option linter.unusedSimpArgs false
namespace Go.Proofs.YtbinejcnoogoiaaDoor.Pad

theorem RepTop.idx {w : World} {F O : Fp} {β β' : Nat → Nat} {t t' : Nat} {x : AV} {v : Value} (hx : x.share.good) (h : RepTop w F O β t x v) : RepTop w F O β' t' x v := by
  cases x <;> simp only [RepTop] at h ⊢ <;> first | exact h | (simp [AV.share, AV.good] at hx; done)

theorem RR.newBox {nt : Nat} {w0 : World} {S0 F0 F : Fp} {O : Nat → Fp} {β : Nat → Nat} {s : St} {a : Act} {w : World} (h : RR nt w0 S0 F0 F O β s a w) {d : Nat} (hd : d < nt) (xs : List AV) (c : Array Value) (e : TypeId) (hx : RepL w F true xs c.toList) :
    RR nt w0 S0 F0 F (off1 O d (fun b _ => b = w.heap.size)) (upd β d w.heap.size) (s.set d (.box xs) True true) (a.put (some d) (.pointer (some ⟨w.heap.size, 0, none⟩))) (w.alloc (.cells c e)) := by
  have hc := chg_alloc NoFp w (.cells c e)
  have hA : Agree F F w (w.alloc (.cells c e)) := fun b o hb => ⟨hb, hc.cell (h.inF b o hb) id⟩
  have hm := h.move (S := NoFp) (F' := F) hc (fun _ _ _ hn => hn.elim) (fun _ _ hn => hn.elim) (fun _ => False) (fun _ _ _ _ _ hn => hn) (fun b o hb => hb) (fun b o hb => .inl hb)
    (fun b o hb => Nat.lt_of_lt_of_le (h.inF b o hb) hc.size) h.sep (fun _ hu => hu.elim)
  refine hm.put hd _ _ True _ w.heap.size (fun _ => ?_) (fun _ b hb => by simp [AV.isTo] at hb) (fun hn => (hn trivial).elim) (fun b o ho hb => ?_) (fun t b o _ ho ht => ?_) (fun b o ho => by rw [ho]; simp) (fun b o ho => by rw [ho]; exact .inl h.chg.size)
  · simp only [RepTop, upd, if_true]
    exact ⟨trivial, c, e, heap_alloc_new w _, RepL.agree hA _ _ _ hx, fun _ => trivial⟩
  · have := h.inF b o hb; omega
  · have := h.inO t b o ht; omega

/-- A row in a new block, that is written in place. -/
theorem RR.freshM {nt : Nat} {w0 : World} {S0 F0 F : Fp} {O : Nat → Fp} {β : Nat → Nat} {s : St} {a : Act} {w : World} (h : RR nt w0 S0 F0 F O β s a w) {d : Nat} (hd : d < nt)
    {w' : World} (hc : Chg NoFp w w') (hgw' : w.heap.size < w'.heap.size) (sz n c : Nat) (cur : Array Value) (e : TypeId) (lo hi : Nat) (hg : w'.heap[w.heap.size]? = some (.cells cur e (lo, hi))) (hnc : n ≤ c) (hcm : c ≤ maxLen) (hcs : cur.size = c * sz)
    (hf : hi ≤ lo ∨ c * sz ≤ lo) (xs : List AV) (vs : List Value) (hx : RepL w F true xs vs) (hl : xs.length = n * sz) (ht : ∀ (j : Nat) (v : Value), vs[j]? = some v → cur[j]? = some v) :
    RR nt w0 S0 F0 F (off1 O d (fun b _ => b = w.heap.size)) (upd β d w.heap.size) (s.set d (.mrow sz xs n) True true) (a.put (some d) (.slice (some ⟨w.heap.size, 0, none⟩) n c)) w' := by
  have hA : Agree F F w w' := fun b o hb => ⟨hb, hc.cell (h.inF b o hb) id⟩
  have hm := h.move (S := NoFp) (F' := F) hc (fun _ _ _ hn => hn.elim) (fun _ _ hn => hn.elim) (fun _ => False) (fun _ _ _ _ _ hn => hn) (fun b o hb => hb) (fun b o hb => .inl hb)
    (fun b o hb => Nat.lt_of_lt_of_le (h.inF b o hb) hc.size) h.sep (fun _ hu => hu.elim)
  refine hm.put hd _ _ True _ w.heap.size (fun _ => ?_) (fun _ b hb => by simp [AV.isTo] at hb) (fun hn => (hn trivial).elim) (fun b o ho hb => ?_) (fun t b o _ ho ht => ?_) (fun b o ho => by rw [ho]; exact hgw') (fun b o ho => by rw [ho]; exact .inl h.chg.size)
  · simp only [RepTop, upd, if_true]
    refine ⟨c, cur, e, lo, hi, rfl, hg, hnc, hcm, hcs, hl, ?_, fun _ => trivial, hf⟩
    have hvl := repL_length _ _ hx
    have : cur.toList.take (n * sz) = vs := by
      apply List.ext_getElem?
      intro i
      rw [List.getElem?_take]
      split
      · rename_i hi
        have := ht i vs[i] (List.getElem?_eq_getElem (by omega))
        rw [Array.getElem?_toList, this, List.getElem?_eq_getElem (by omega)]
      · rw [List.getElem?_eq_none (by omega)]
    rw [this]
    exact RepL.agree hA _ _ _ hx
  · have := h.inF b o hb; omega
  · have := h.inO t b o ht; omega

/-- A walk over a text, begun. -/
theorem RR.newIter {nt : Nat} {w0 : World} {S0 F0 F : Fp} {O : Nat → Fp} {β : Nat → Nat} {s : St} {a : Act} {w : World} (h : RR nt w0 S0 F0 F O β s a w) {d : Nat} (hd : d < nt) (l : List UInt8) :
    RR nt w0 S0 F0 F (off1 O d (fun b _ => b = w.heap.size)) (upd β d w.heap.size) (s.set d (.iter l 0) True true) (a.put (some d) (.pointer (some ⟨w.heap.size, 0, none⟩))) (w.alloc (.stringIter ⟨l.toArray⟩ 0)) := by
  have hc := chg_alloc NoFp w (.stringIter ⟨l.toArray⟩ 0)
  have hm := h.move (S := NoFp) (F' := F) hc (fun _ _ _ hn => hn.elim) (fun _ _ hn => hn.elim) (fun _ => False) (fun _ _ _ _ _ hn => hn) (fun b o hb => hb) (fun b o hb => .inl hb)
    (fun b o hb => Nat.lt_of_lt_of_le (h.inF b o hb) hc.size) h.sep (fun _ hu => hu.elim)
  refine hm.put hd _ _ True _ w.heap.size (fun _ => ?_) (fun _ b hb => by simp [AV.isTo] at hb) (fun hn => (hn trivial).elim) (fun b o ho hb => ?_) (fun t b o _ ho ht => ?_) (fun b o ho => by rw [ho]; simp) (fun b o ho => by rw [ho]; exact .inl h.chg.size)
  · simp only [RepTop, upd, if_true]
    exact ⟨trivial, heap_alloc_new w _, fun _ => trivial⟩
  · have := h.inF b o hb; omega
  · have := h.inO t b o ht; omega
/-- The same walk, one step on. -/
theorem RR.stepIter {nt : Nat} {w0 : World} {S0 F0 F : Fp} {O : Nat → Fp} {β : Nat → Nat} {s : St} {a : Act} {w : World} (h : RR nt w0 S0 F0 F O β s a w) {t : Nat} {l : List UInt8} {pos : Nat} (hD : s.D t) (he : s.env t = .iter l pos) (pos' : Nat) :
    RR nt w0 S0 F0 F O β (s.set t (.iter l pos') (s.D t) false) a { w with heap := w.heap.setIfInBounds (β t) (.stringIter ⟨l.toArray⟩ pos') } := by
  have hr := h.rep t hD
  rw [he] at hr
  simp only [RepTop] at hr
  obtain ⟨h0, h1, h2⟩ := hr
  have hlt := lt_of_heap h1
  have hget : ∀ k, ({ w with heap := w.heap.setIfInBounds (β t) (.stringIter ⟨l.toArray⟩ pos') } : World).heap[k]? = if k = β t then some (.stringIter ⟨l.toArray⟩ pos') else w.heap[k]? := fun k => by
    simp only [Array.getElem?_setIfInBounds]
    by_cases e : β t = k
    · rw [if_pos e, if_pos e.symm, if_pos (e ▸ hlt)]
    · rw [if_neg e, if_neg (Ne.symm e)]
  have hc : Chg (fun b _ => b = β t) w { w with heap := w.heap.setIfInBounds (β t) (.stringIter ⟨l.toArray⟩ pos') } := by
    refine ⟨rfl, rfl, rfl, by simp, fun k _ hn => ?_, fun k c e f hk => ?_, fun k _ hn c e f => ?_⟩
    · rw [hget, if_neg (hn 0)]
    · have hne : k ≠ β t := fun e => by rw [e, h1] at hk; cases hk
      exact ⟨c, by rw [hget, if_neg hne]; exact hk, rfl, fun _ _ => rfl⟩
    · rw [hget]; split
      · intro hh; cases hh
      · exact hn c e f
  have hnF : ∀ b o, F b o → b ≠ β t := fun b o hF e => h.sep t b o (by rw [e]; exact h2 o) hF
  refine ⟨h.chg.trans hc (fun k o hk hs => ?_), h.sep, h.dis, fun b o hF => Nat.lt_of_lt_of_le (h.inF b o hF) hc.size, fun u b o ho => Nat.lt_of_lt_of_le (h.inO u b o ho) hc.size, h.own, h.fF, fun u hu => ?_, fun u hk hu => ?_, fun x b hx hb => ?_, h.size, h.defs, fun b o hb => ⟨(h.gl b o hb).1, (hc.cell (h.inF b o (h.gl b o hb).1) (hnF b o (h.gl b o hb).1)).trans (h.gl b o hb).2⟩⟩
  · have := h.own t k o (by rw [hs]; exact h2 o)
    exact this.elim (fun hh => by omega) id
  · rw [St.D_set] at hu
    rw [St.env_set]
    by_cases e1 : t = u
    · subst e1
      rw [if_pos rfl]
      simp only [RepTop]
      exact ⟨h0, by rw [hget, if_pos rfl], h2⟩
    · rw [if_neg e1] at hu ⊢
      refine (h.rep u hu).chg hc (fun b o hb => ⟨hb, h.inF b o hb, hnF b o hb⟩) (fun b o ho hs => ?_)
      exact h.dis t u b o e1 (by rw [hs]; exact h2 o) ho
  · rw [St.K_set] at hk
    rw [St.D_set] at hu
    by_cases e1 : t = u
    · rw [if_pos e1] at hk; cases hk
    · rw [if_neg e1] at hk hu; exact h.und u hk hu
  · rw [St.D_set] at hx
    rw [St.refOk_set] at hb
    rw [St.env_set]
    by_cases e1 : t = x
    · rw [if_pos e1] at hb; simp [AV.isTo] at hb
    · rw [if_neg e1] at hx hb ⊢
      rw [if_neg (by simp)] at hb
      exact h.refs x b hx hb

/-- What one has that is written in place. -/
theorem RR.ownCells {nt : Nat} {w0 : World} {S0 F0 F : Fp} {O : Nat → Fp} {β : Nat → Nat} {s : St} {a : Act} {w : World} (h : RR nt w0 S0 F0 F O β s a w) {t : Nat} (hD : s.D t) (ho : (s.env t).isOwn) :
    ∃ c e lo hi, w.heap[β t]? = some (.cells c e (lo, hi)) ∧ (s.env t).inner.length ≤ c.size ∧ RepL w F true (s.env t).inner (c.toList.take (s.env t).inner.length) ∧ (∀ o, O t (β t) o) ∧ (hi ≤ lo ∨ (s.env t).inner.length ≤ lo) := by
  have hr := h.rep t hD
  revert hr ho
  cases s.env t <;> simp only [AV.isOwn, RepTop, AV.inner, false_implies, true_implies]
  case box xs =>
    rintro ⟨h0, c, e, h1, h2, h3⟩
    have hl := repL_length _ _ h2
    simp only [Array.length_toList] at hl
    exact ⟨c, e, 0, 0, h1, by omega, by rw [List.take_of_length_le (by simp; omega)]; exact h2, h3, .inl (Nat.le_refl _)⟩
  case mrow sz xs n =>
    rintro ⟨c, cur, e, lo, hi, h0, h1, h2, h3, h4, h5, h6, h7, h8⟩
    have hm : n * sz ≤ c * sz := Nat.mul_le_mul_right _ h2
    exact ⟨cur, e, lo, hi, h1, by omega, by rw [h5]; exact h6, h7, h8.imp id (fun hh => by omega)⟩

/-- Into what t has. -/
theorem RR.store {P : Program} {nt : Nat} {w0 : World} {S0 F0 F : Fp} {O : Nat → Fp} {β : Nat → Nat} {s : St} {a : Act} {w : World} (h : RR nt w0 S0 F0 F O β s a w) {t : Nat} (hD : s.D t) (ho : (s.env t).isOwn)
    (off : Nat) (ys : List AV) (vs : List Value) (hy : RepL w F true ys vs) (hl : off + ys.length ≤ (s.env t).inner.length) :
    (storeCells ⟨β t, off, none⟩ vs).run P w = .ok () (w.setCells (β t) off vs) ∧ RR nt w0 S0 F0 F O β (s.set t ((s.env t).withInner (splice (s.env t).inner off ys)) True false) a (w.setCells (β t) off vs) := by
  obtain ⟨c, e, lo, hi, h1, hcl, h2, h3, h4⟩ := h.ownCells hD ho
  have hvl := repL_length _ _ hy
  have hc : Chg (fun b _ => b = β t) w (w.setCells (β t) off vs) := chg_setCells h1 fun _ _ => rfl
  obtain ⟨c', q1, q2, q3⟩ := setCells_heap (β t) vs off w c e (lo, hi) h1
  have hex : ∀ j, j < vs.length → (w.cell? ⟨β t, off + j, none⟩).isSome = true := fun j hj => by
    rw [cell_of_heap h1]
    have : off + j < c.size := by omega
    simp [this]
  have hin : ∀ j (hj : j < vs.length), c'[off + j]? = some vs[j] := fun j hj => by
    rw [← cell_of_heap q1, World.cell?_setCells_in (β t) vs off w hex j hj]
  have hnF : ∀ b o, F b o → b ≠ β t := fun b o hF e => h.sep t b o (by rw [e]; exact h3 o) hF
  have hA : Agree F F w (w.setCells (β t) off vs) := fun b o hb => ⟨hb, hc.cell (h.inF b o hb) (hnF b o hb)⟩
  refine ⟨?_, ?_⟩
  · have := run_storeCells_cells (P := P) (β t) off vs 0 w (fun j hj => by
      simpa using hex j hj) (fun j hj => by
      simp only [World.frozen?, h1]
      rcases h4 with h4 | h4
      · simp; omega
      · simp; omega) (repL_one _ _ hy)
    simpa using this
  · refine ⟨h.chg.trans hc (fun k o hk hs => ?_), h.sep, h.dis, fun b o hF => Nat.lt_of_lt_of_le (h.inF b o hF) hc.size, fun u b o ho => Nat.lt_of_lt_of_le (h.inO u b o ho) hc.size, h.own, h.fF, fun u hu => ?_, fun u hk hu => ?_, fun x b hx hb => ?_, h.size, h.defs, fun b o hb => ⟨(h.gl b o hb).1, (hc.cell (h.inF b o (h.gl b o hb).1) (hnF b o (h.gl b o hb).1)).trans (h.gl b o hb).2⟩⟩
    · have := h.own t k o (by rw [hs]; exact h3 o)
      exact this.elim (fun hh => by omega) id
    · rw [St.D_set] at hu
      rw [St.env_set]
      by_cases e1 : t = u
      · subst e1
        rw [if_pos rfl]
        have hs := splice_rep h2 hy off
        have key : c'.toList.take (s.env t).inner.length = (c.toList.take (s.env t).inner.length).take off ++ vs ++ (c.toList.take (s.env t).inner.length).drop (off + vs.length) := by
          apply List.ext_getElem?
          intro i
          rw [List.getElem?_take]
          by_cases i0 : i < (s.env t).inner.length
          · rw [if_pos i0, Array.getElem?_toList]
            by_cases i1 : i < off
            · rw [q3 i (.inl i1), List.getElem?_append_left (by simp; omega), List.getElem?_append_left (by simp; omega), List.getElem?_take, if_pos i1, List.getElem?_take, if_pos i0]
              simp
            · by_cases i2 : i < off + vs.length
              · have := hin (i - off) (by omega)
                rw [show off + (i - off) = i by omega] at this
                rw [this, List.getElem?_append_left (by simp; omega), List.getElem?_append_right (by simp; omega)]
                have e3 : i - (List.take off (c.toList.take (s.env t).inner.length)).length = i - off := by simp only [List.length_take, Array.length_toList]; omega
                rw [e3, List.getElem?_eq_getElem (by omega)]
              · rw [q3 i (.inr (by omega)), List.getElem?_append_right (by simp; omega), List.getElem?_drop]
                have e3 : off + vs.length + (i - (List.take off (c.toList.take (s.env t).inner.length) ++ vs).length) = i := by simp only [List.length_append, List.length_take, Array.length_toList]; omega
                rw [e3, List.getElem?_take, if_pos i0]; simp
          · rw [if_neg i0, List.getElem?_eq_none (by simp; omega)]
        have hs' := RepL.agree hA _ _ _ (key ▸ hs)
        have hspl : (splice (s.env t).inner off ys).length = (s.env t).inner.length := by
          unfold splice; simp only [List.length_append, List.length_take, List.length_drop]; omega
        have hr := h.rep t hD
        revert hr hs' hspl key ho hcl
        cases s.env t <;> simp only [AV.isOwn, RepTop, AV.inner, AV.withInner, false_implies, true_implies]
        case box xs =>
          intro hcl key hs' hspl
          rintro ⟨h0, c2, e2, g1, g2, g3⟩
          rw [h1] at g1
          cases g1
          refine ⟨h0, c', e, q1, ?_, g3⟩
          have hl2 := repL_length _ _ g2
          simp only [Array.length_toList] at hl2
          rw [List.take_of_length_le (by simp; omega)] at hs'
          exact hs'
        case mrow sz xs n =>
          intro hcl key hs' hspl
          rintro ⟨cc, cur, e2, lo2, hi2, h0, g1, g2, g3, g4, g5, g6, g7, g8⟩
          rw [h1] at g1
          cases g1
          exact ⟨cc, c', e, lo, hi, h0, q1, g2, g3, q2.trans g4, hspl.trans g5, by rw [← g5]; exact hs', g7, g8⟩
      · rw [if_neg e1] at hu ⊢
        refine (h.rep u hu).chg hc (fun b o hb => ⟨hb, h.inF b o hb, hnF b o hb⟩) (fun b o ho hs => ?_)
        exact h.dis t u b o e1 (by rw [hs]; exact h3 o) ho
    · rw [St.K_set] at hk
      rw [St.D_set] at hu
      by_cases e1 : t = u
      · rw [if_pos e1] at hu; exact (hu trivial).elim
      · rw [if_neg e1] at hk hu; exact h.und u hk hu
    · rw [St.D_set] at hx
      rw [St.refOk_set] at hb
      rw [St.env_set]
      by_cases e1 : t = x
      · subst e1
        exfalso
        rw [if_pos rfl] at hb
        revert hb ho
        cases s.env t <;> simp [AV.isOwn, AV.withInner, AV.isTo]
      · rw [if_neg e1] at hx hb ⊢
        rw [if_neg (by simp)] at hb
        exact h.refs x b hx hb

/-- t is nothing any more. -/
theorem RR.drop {nt : Nat} {w0 : World} {S0 F0 F : Fp} {O : Nat → Fp} {β : Nat → Nat} {s : St} {a : Act} {w : World} (h : RR nt w0 S0 F0 F O β s a w) (t : Nat) : RR nt w0 S0 F0 F (off1 O t NoFp) β (s.set t .bad False false) a w := by
  have sub : ∀ u b o, off1 O t NoFp u b o → u ≠ t ∧ O u b o := fun u b o ho => by
    unfold off1 at ho; split at ho
    · exact ho.elim
    · exact ⟨by assumption, ho⟩
  refine ⟨h.chg, fun u b o ho => h.sep u b o (sub u b o ho).2, fun u u' b o hu ho hu' => h.dis u u' b o hu (sub _ _ _ ho).2 (sub _ _ _ hu').2, h.inF, fun u b o ho => h.inO u b o (sub _ _ _ ho).2, fun u b o ho => h.own u b o (sub _ _ _ ho).2, h.fF, fun u hu => ?_, fun u hk hu => ?_, fun x b hx hb => ?_, h.size, h.defs, h.gl⟩
  · rw [St.D_set] at hu
    rw [St.env_set]
    by_cases e : t = u
    · rw [if_pos e] at hu; exact hu.elim
    · rw [if_neg e] at hu ⊢
      unfold off1
      rw [if_neg (Ne.symm e)]
      exact h.rep u hu
  · rw [St.K_set] at hk
    rw [St.D_set] at hu
    by_cases e : t = u
    · rw [if_pos e] at hk; cases hk
    · rw [if_neg e] at hk hu; exact h.und u hk hu
  · rw [St.D_set] at hx
    rw [St.refOk_set] at hb
    rw [St.env_set]
    by_cases e : t = x
    · rw [if_pos e] at hx; exact hx.elim
    · rw [if_neg e] at hx hb ⊢
      rw [if_neg (by simp)] at hb
      exact h.refs x b hx hb

/-- What was written in place is only read from then on. -/
theorem RR.freeze {nt : Nat} {w0 : World} {S0 F0 F : Fp} {O : Nat → Fp} {β : Nat → Nat} {s : St} {a : Act} {w : World} (h : RR nt w0 S0 F0 F O β s a w) {t : Nat} {sz n : Nat} {xs : List AV} (hD : s.D t) (he : s.env t = .mrow sz xs n) {d : Nat} (hd : d < nt) :
    ∃ F' O', RR nt w0 S0 F0 F' O' β ((s.set t .bad False false).set d (.row sz xs n) True true) (a.put (some d) (tm a t)) w := by
  have hr := h.rep t hD
  rw [he] at hr
  simp only [RepTop] at hr
  obtain ⟨c, cur, e, lo, hi, h0, h1, h2, h3, h4, h5, h6, h7, h8⟩ := hr
  have hmul : n * sz ≤ c * sz := Nat.mul_le_mul_right _ h2
  have hv := h.drop t
  have hnO : ∀ u o, ¬ off1 O t NoFp u (β t) o := fun u o ho => by
    unfold off1 at ho; split at ho
    · exact ho
    · rename_i hne; exact h.dis u t (β t) o hne ho (h7 o)
  have hm := hv.move (S := NoFp) (F' := newUsed F (β t) (n * sz)) (Chg.refl _ _) (fun _ _ _ hn => hn.elim) (fun _ _ hn => hn.elim) (fun _ => False) (fun _ _ _ _ _ hn => hn) (fun b o hb => .inl hb)
    (fun b o hb => hb.elim .inl fun hb => .inr (.inr (by rw [hb.1]; exact h.own t _ _ (h7 o)))) (fun b o hb => hb.elim (fun hb => h.inF b o hb) fun hb => by rw [hb.1]; exact lt_of_heap h1)
    (fun u b o ho hb => hb.elim (fun hb => hv.sep u b o ho hb) fun hb => hnO u o (by rw [← hb.1]; exact ho)) (fun _ hu => hu.elim)
  have hA : Agree F (newUsed F (β t) (n * sz)) w w := fun b o hb => ⟨.inl hb, rfl⟩
  refine ⟨_, _, hm.putS hd (.row sz xs n) (tm a t) True (spare (β t) (n * sz)) (fun _ => ?_) (fun _ _ => rfl) (fun hn => (hn trivial).elim) (fun b o ho hb => ?_) (fun u b o _ ho hu => ?_) (fun b o ho => by rw [ho.1]; exact lt_of_heap h1) (fun b o ho => by rw [ho.1]; exact h.own t _ _ (h7 o))⟩
  · simp only [RepTop]
    refine .inr ⟨β t, c, cur, e, lo, hi, h0, h1, h2, h3, h4, h5, ?_, fun o ho => ⟨rfl, ho⟩, h8⟩
    refine repAt_of_list xs _ _ _ (RepL.agree hA _ _ _ h6) (fun j v hj => ?_) (fun j hj => .inr ⟨rfl, by omega⟩)
    rw [cell_of_heap h1, Nat.zero_add]
    rw [List.getElem?_take] at hj
    split at hj
    · simpa using hj
    · cases hj
  · rcases hb with hb | hb
    · exact h.sep t b o (by rw [ho.1]; exact h7 o) hb
    · have := ho.2; omega
  · exact hnO u o (by rw [← ho.1]; exact hu)

/-! ### Calls -/
structure Post (w : World) (F S : Fp) (r : AV) (v : Value) (w' : World) (F' O' : Fp) : Prop where
  chg : Chg S w w'
  rep : RepTop w' F' O' (fun _ => 0) 0 r v
  sep : ∀ b o, O' b o → ¬ F' b o
  fF : ∀ b o, F' b o → F b o ∨ w.heap.size ≤ b ∨ S b o
  fO : ∀ b o, O' b o → w.heap.size ≤ b ∨ S b o
  inF : ∀ b o, F' b o → b < w'.heap.size
  inO : ∀ b o, O' b o → b < w'.heap.size
  good : r.share.good

/-- **What a call tells**: with these arguments, whatever they lie in, it returns this. -/
def PFx (P : Program) [Globs P] (f : Nat) (args : List AV) (r : AV) : Prop :=
  ∀ (w : World) (F : Fp) (Os : Nat → Fp) (vs : Array Value), GlobOk P w F → vs.size = args.length → (∀ (i : Nat) (x : AV) (v : Value), args[i]? = some x → vs[i]? = some v → RepTop w F (Os i) (fun _ => 0) i x v ∧ x.share.good) →
    (∀ i b o, Os i b o → ¬ F b o) → (∀ i j b o, i ≠ j → Os i b o → ¬ Os j b o) → (∀ b o, F b o → b < w.heap.size) → (∀ i b o, Os i b o → b < w.heap.size ∧ i < args.length) →
    Calls P f vs w fun e w' => ∃ v F' O', e = .returned v ∧ Post w F (fun b o => ∃ i, Os i b o) r v w' F' O'

def Sound (P : Program) [Globs P] (T : Tab) : Prop := ∀ f args r, T f args = some r → PFx P f args r

/-- All that is known where a call runs: what its callees tell, and what the variables hold. -/
structure SoundG (P : Program) [Globs P] (T : Tab) (w0 : World) (F0 : Fp) : Prop where
  calls : Sound P T
  glob : GlobOk P w0 F0

abbrev stolen := stolenN

def offs (O : Nat → Fp) (l : List Nat) : Nat → Fp := fun t => if t ∈ l then NoFp else O t

theorem share_share (x : AV) : x.share.share = x.share := by cases x <;> rfl

theorem RR.gives {nt : Nat} {w0 : World} {S0 F0 F : Fp} {β : Nat → Nat} {a : Act} {w : World} : ∀ (as : List (Bool × RV)) (O : Nat → Fp) (s : St), RR nt w0 S0 F0 F O β s a w → (∀ t ∈ stolen as, s.D t → (s.env t).share.good) →
    RR nt w0 S0 F0 F (offs O (stolen as)) β (giveArgs s as) a w
  | [], O, s, h, _ => by
    have : offs O (stolen []) = O := by funext t; simp [offs, stolenN]
    rw [this]; exact h
  | (false, x) :: as, O, s, h, hg => by
    simp only [giveArgs, stolenN] at hg ⊢
    exact RR.gives as O s h hg
  | (true, .c v) :: as, O, s, h, hg => by
    simp only [giveArgs, St.give, stolenN] at hg ⊢
    exact RR.gives as O s h hg
  | (true, .t n) :: as, O, s, h, hg => by
    simp only [giveArgs, stolenN] at hg ⊢
    have h1 := h.give n (hg n (List.mem_cons_self ..))
    have h2 := RR.gives as _ _ h1 (fun t ht hD => by
      unfold St.give at hD ⊢
      rw [St.D_set] at hD
      rw [St.env_set]
      by_cases e : n = t
      · subst e
        rw [if_pos rfl] at hD ⊢
        rw [share_share]
        exact hg n (List.mem_cons_self ..) hD
      · rw [if_neg e] at hD ⊢
        exact hg t (List.mem_cons_of_mem _ ht) hD)
    have : offs (off1 O n NoFp) (stolen as) = offs O (n :: stolen as) := by
      funext t
      unfold offs off1
      by_cases h1 : t ∈ stolen as
      · simp [h1]
      · by_cases h2 : t = n <;> simp [h1, h2]
    rw [this] at h2
    exact h2

end Go.Proofs.YtbinejcnoogoiaaDoor.Pad
