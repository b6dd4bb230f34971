/- What the temporaries and the heap stand for, step by step. -/
import Derived.Test.YtbikpgaiocjnoaaE2
set_option linter.unusedVariables false
set_option linter.unusedSimpArgs false
namespace Go.Proofs.Ytbikpgaiocjnoaa.Pad

def tm (a : Act) (t : Nat) : Value := a.tmps.getD t undef
def NoFp : Fp := fun _ _ => False
def off1 (O : Nat → Fp) (d : Nat) (X : Fp) : Nat → Fp := fun t => if t = d then X else O t

/-- A slice over what is in block bb. -/
def Vw (bb off n : Nat) (v : Value) : Prop := ∃ ao c, v = .slice ao n c ∧ n ≤ c ∧ c ≤ maxLen ∧ (n = 0 ∨ ao = some ⟨bb, off, none⟩)

structure RR (nt : Nat) (w0 : World) (S0 F0 : Fp) (F : Fp) (O : Nat → Fp) (β : Nat → Nat) (s : St) (a : Act) (w : World) : Prop where
  chg : Chg S0 w0 w
  sep : ∀ t b o, O t b o → ¬ F b o
  dis : ∀ t u b o, t ≠ u → O t b o → ¬ O u b o
  inF : ∀ b o, F b o → b < w.heap.size
  inO : ∀ t b o, O t b o → b < w.heap.size
  own : ∀ t b o, O t b o → w0.heap.size ≤ b ∨ S0 b o
  fF : ∀ b o, F b o → F0 b o ∨ w0.heap.size ≤ b ∨ S0 b o
  rep : ∀ t, s.D t → RepTop w F (O t) β t (s.env t) (tm a t)
  und : ∀ t, s.K t = true → ¬ s.D t → tm a t = undef
  refs : ∀ x b, s.D x → s.refOk x b = true → (∀ off, s.env x = .ref b off → tm a x = .pointer (some ⟨β b, off, none⟩)) ∧ (s.env x = .al b → tm a x = tm a b) ∧ (∀ off n, s.env x = .win b off n → Vw (β b) off n (tm a x))
  size : a.tmps.size = nt
  defs : a.defers = []
  gl : Agree F0 F w0 w

theorem St.env_set (s : St) (t u : Nat) (v : AV) (d : Prop) (k : Bool) : (s.set t v d k).env u = if t = u then v else s.env u := rfl
theorem St.D_set (s : St) (t u : Nat) (v : AV) (d : Prop) (k : Bool) : (s.set t v d k).D u = if t = u then d else s.D u := rfl
theorem St.K_set (s : St) (t u : Nat) (v : AV) (d : Prop) (k : Bool) : (s.set t v d k).K u = if t = u then k else s.K u := rfl

theorem St.refOk_set (s : St) (d x b : Nat) (v : AV) (p : Prop) (k : Bool) : (s.set d v p k).refOk x b = if d = x then v.isTo b else if d = b ∧ k = true then false else s.refOk x b := rfl
def upd (β : Nat → Nat) (d n : Nat) : Nat → Nat := fun t => if t = d then n else β t
theorem upd_self (β : Nat → Nat) (d : Nat) : upd β d (β d) = β := by funext t; unfold upd; split <;> simp_all
theorem isTo_good {x : AV} (h : x.good) (hs : x.share = x) (b : Nat) : x.isTo b = false := by cases x <;> simp_all [AV.share, AV.good, AV.isTo]
theorem isTo_share (x : AV) (b : Nat) : x.share.isTo b = false := by cases x <;> simp [AV.share, AV.isTo]
theorem nr_good {x : AV} (h : x.good) (hs : x.share = x) : x.nr = x := by cases x <;> simp_all [AV.share, AV.good, AV.nr]
theorem isTo_nr (x : AV) (b : Nat) : x.nr.isTo b = false := by cases x <;> simp [AV.nr, AV.isTo]

theorem share_rep {w : World} {F O : Fp} {β : Nat → Nat} {t : Nat} : ∀ {x : AV} {v : Value}, RepTop w F O β t x v → x.share.good → Rep w F x.share v
  | .row sz xs n, v, h, _ => by
    simp only [RepTop] at h
    simp only [AV.share, Rep]
    rcases h with ⟨rfl, rfl, rfl⟩ | ⟨g, c, cur, e, lo, hi, rfl, h1, h2, h3, h4, h5, h6, h7, h8⟩
    · exact ⟨none, 0, rfl, Nat.le_refl _, Nat.zero_le _, .inl ⟨rfl, rfl⟩⟩
    · exact ⟨_, c, rfl, h2, h3, .inr ⟨g, 0, rfl, h6⟩⟩
  | .box _, _, _, g => by simp [AV.share, AV.good] at g
  | .clo .., _, _, g => by simp [AV.share, AV.good] at g
  | .ref .., _, _, g => by simp [AV.share, AV.good] at g
  | .mrow .., _, _, g => by simp [AV.share, AV.good] at g
  | .al _, _, _, g => by simp [AV.share, AV.good] at g
  | .win .., _, _, g => by simp [AV.share, AV.good] at g
  | .iter .., _, _, g => by simp [AV.share, AV.good] at g
  | .bad, _, _, g => by simp [AV.share, AV.good] at g
  | .int k n, v, h, _ => h
  | .bool b, v, h, _ => h
  | .str l, v, h, _ => h
  | .sl xs n, v, h, _ => h
  | .agg xs, v, h, _ => h
  | .tup xs, v, h, _ => h
  | .ptr xs, v, h, _ => h
  | .fn f xs ys, v, h, _ => h
  | .ifc t x, v, h, _ => h
  | .nilI, v, h, _ => h
  | .nilP, v, h, _ => h
  | .nilF, v, h, _ => h
  | .anyB, v, h, _ => h
  | .nilS _, v, h, _ => h
  | .obox _, _, _, g => by simp [AV.share, AV.good] at g
  | .otup _, _, _, g => by simp [AV.share, AV.good] at g

/-- A thing that is only read is as good as ever. -/
theorem top_of_rep {w : World} {F O : Fp} {β : Nat → Nat} {t : Nat} : ∀ {x : AV} {v : Value}, Rep w F x v → RepTop w F O β t x v
  | .row .., _, h => by simp only [Rep] at h
  | .box _, _, h => by simp only [Rep] at h
  | .clo .., _, h => by simp only [Rep] at h
  | .ref .., _, h => by simp only [Rep] at h
  | .mrow .., _, h => by simp only [Rep] at h
  | .al _, _, h => by simp only [Rep] at h
  | .win .., _, h => by simp only [Rep] at h
  | .iter .., _, h => by simp only [Rep] at h
  | .bad, _, h => by simp only [Rep] at h
  | .int k n, v, h => h
  | .bool b, v, h => h
  | .str l, v, h => h
  | .sl xs n, v, h => h
  | .agg xs, v, h => h
  | .tup xs, v, h => h
  | .ptr xs, v, h => h
  | .fn f xs ys, v, h => h
  | .ifc t x, v, h => h
  | .nilI, v, h => h
  | .nilP, v, h => h
  | .nilF, v, h => h
  | .anyB, v, h => h
  | .nilS _, v, h => h
  | .obox _, _, h => by simp only [Rep] at h
  | .otup _, _, h => by simp only [Rep] at h

theorem good_of_rep {w : World} {F : Fp} : ∀ {x : AV} {v : Value}, Rep w F x v → x.share = x ∧ x.good
  | .row .., _, h => by simp only [Rep] at h
  | .box _, _, h => by simp only [Rep] at h
  | .clo .., _, h => by simp only [Rep] at h
  | .ref .., _, h => by simp only [Rep] at h
  | .mrow .., _, h => by simp only [Rep] at h
  | .al _, _, h => by simp only [Rep] at h
  | .win .., _, h => by simp only [Rep] at h
  | .iter .., _, h => by simp only [Rep] at h
  | .bad, _, h => by simp only [Rep] at h
  | .int k n, v, h => ⟨rfl, trivial⟩
  | .bool b, v, h => ⟨rfl, trivial⟩
  | .str l, v, h => ⟨rfl, trivial⟩
  | .sl xs n, v, h => ⟨rfl, trivial⟩
  | .agg xs, v, h => ⟨rfl, trivial⟩
  | .tup xs, v, h => ⟨rfl, trivial⟩
  | .ptr xs, v, h => ⟨rfl, trivial⟩
  | .fn f xs ys, v, h => ⟨rfl, trivial⟩
  | .ifc t x, v, h => ⟨rfl, trivial⟩
  | .nilI, v, h => ⟨rfl, trivial⟩
  | .nilP, v, h => ⟨rfl, trivial⟩
  | .nilF, v, h => ⟨rfl, trivial⟩
  | .anyB, v, h => ⟨rfl, trivial⟩
  | .nilS _, v, h => ⟨rfl, trivial⟩
  | .obox _, _, h => by simp only [Rep] at h
  | .otup _, _, h => by simp only [Rep] at h

theorem RowRep.chg {w w' : World} {S F F' Q : Fp} (hc : Chg S w w') (hA : Agree F F' w w') {sz n : Nat} {xs : List AV} {v : Value} (h : RowRep w F Q sz xs n v) : RowRep w' F' Q sz xs n v := by
  rcases h with h | ⟨g, c, cur, e, lo, hi, h0, h1, h2, h3, h4, h5, h6, h7, h8⟩
  · exact .inl h
  · obtain ⟨cur', k1, k2, k3⟩ := hc.cells g cur e (lo, hi) h1
    exact .inr ⟨g, c, cur', e, lo, hi, h0, k1, h2, h3, k2.trans h4, h5, RepAt.agree hA _ _ _ h6, h7, h8⟩
/-- What is only read, as a cell. -/
theorem Own.one {w : World} {F O : Fp} {x : AV} {v : Value} (h1 : x.one = true) (h2 : Rep w F x v) : Own w F x O v := by
  cases x <;> first | (cases h1; done) | (simp only [Own]; exact h2)

mutual
theorem Own.mono {w : World} {F : Fp} : ∀ (x : AV) {O O' : Fp} {v : Value}, (∀ b o, O b o → O' b o) → Own w F x O v → Own w F x O' v
  | .row sz xs n, O, O', v, hs, h => by
    simp only [Own] at h ⊢
    rcases h with h | ⟨g, c, cur, e, lo, hi, h0, h1, h2, h3, h4, h5, h6, h7, h8⟩
    · exact .inl h
    · exact .inr ⟨g, c, cur, e, lo, hi, h0, h1, h2, h3, h4, h5, h6, fun o ho => hs _ _ (h7 o ho), h8⟩
  | .mrow sz xs n, O, O', v, hs, h => by
    simp only [Own] at h ⊢
    rcases h with h | ⟨g, c, cur, e, lo, hi, h0, h1, h2, h3, h4, h5, h6, h7, h8⟩
    · exact .inl h
    · exact .inr ⟨g, c, cur, e, lo, hi, h0, h1, h2, h3, h4, h5, h6, fun o => hs _ _ (h7 o), h8⟩
  | .obox xs, O, O', v, hs, h => by
    simp only [Own] at h ⊢
    obtain ⟨b, c, e, h0, h1, h2, h3⟩ := h
    exact ⟨b, c, e, h0, h1, fun o => hs _ _ (h2 o), OwnL.mono xs hs h3⟩
  | .bad, _, _, _, _, h => by simp only [Own]
  | .int .., _, _, _, _, h => by simpa only [Own] using h
  | .bool .., _, _, _, _, h => by simpa only [Own] using h
  | .str .., _, _, _, _, h => by simpa only [Own] using h
  | .sl .., _, _, _, _, h => by simpa only [Own] using h
  | .ptr .., _, _, _, _, h => by simpa only [Own] using h
  | .fn .., _, _, _, _, h => by simpa only [Own] using h
  | .ifc .., _, _, _, _, h => by simpa only [Own] using h
  | .nilI, _, _, _, _, h => by simpa only [Own] using h
  | .nilP, _, _, _, _, h => by simpa only [Own] using h
  | .nilF, _, _, _, _, h => by simpa only [Own] using h
  | .anyB, _, _, _, _, h => by simp only [Own] at h
  | .nilS _, _, _, _, _, h => by simpa only [Own] using h
  | .agg _, _, _, _, _, h => by simp only [Own] at h
  | .tup _, _, _, _, _, h => by simp only [Own] at h
  | .box _, _, _, _, _, h => by simp only [Own] at h
  | .otup _, _, _, _, _, h => by simp only [Own] at h
  | .ref .., _, _, _, _, h => by simp only [Own] at h
  | .al _, _, _, _, _, h => by simp only [Own] at h
  | .win .., _, _, _, _, h => by simp only [Own] at h
  | .iter .., _, _, _, _, h => by simp only [Own] at h
  | .clo .., _, _, _, _, h => by simp only [Own] at h
theorem OwnL.mono {w : World} {F : Fp} : ∀ (xs : List AV) {bk : Nat} {O O' : Fp} {us : List Value}, (∀ b o, O b o → O' b o) → OwnL w F xs bk O us → OwnL w F xs bk O' us
  | [], _, _, _, _, _, h => by simpa only [OwnL] using h
  | x :: xs, bk, O, O', us, hs, h => by
    simp only [OwnL] at h ⊢
    obtain ⟨u, us', Q, R, h0, h1, h2, h3, h4, h5⟩ := h
    exact ⟨u, us', Q, R, h0, fun b o hq => ⟨hs _ _ (h1 b o hq).1, (h1 b o hq).2⟩, fun b o hr => hs _ _ (h2 b o hr), h3, h4, h5⟩
end

mutual
/-- What is owned stays so where nothing of it changes. -/
theorem Own.chg {w w' : World} {S F F' : Fp} (hc : Chg S w w') (hA : Agree F F' w w') : ∀ (x : AV) {O : Fp} {v : Value}, (∀ b o, O b o → ¬ S b o) → Own w F x O v → Own w' F' x O v
  | .row sz xs n, O, v, hO, h => by
    simp only [Own] at h ⊢
    exact RowRep.chg hc hA h
  | .mrow sz xs n, O, v, hO, h => by
    simp only [Own] at h ⊢
    rcases h with h | ⟨g, c, cur, e, lo, hi, h0, h1, h2, h3, h4, h5, h6, h7, h8⟩
    · exact .inl h
    · refine .inr ⟨g, c, cur, e, lo, hi, h0, ?_, h2, h3, h4, h5, RepL.agree hA _ _ _ h6, h7, h8⟩
      rw [hc.same _ (lt_of_heap h1) (fun o => hO _ _ (h7 o))]
      exact h1
  | .obox xs, O, v, hO, h => by
    simp only [Own] at h ⊢
    obtain ⟨b, c, e, h0, h1, h2, h3⟩ := h
    refine ⟨b, c, e, h0, ?_, h2, OwnL.chg hc hA xs (fun b o ho _ => hO b o ho) h3⟩
    rw [hc.same _ (lt_of_heap h1) (fun o => hO _ _ (h2 o))]
    exact h1
  | .bad, _, _, _, h => by simp only [Own]
  | .int .., _, _, _, h => by simp only [Own] at h ⊢; exact Rep.agree hA _ _ h
  | .bool .., _, _, _, h => by simp only [Own] at h ⊢; exact Rep.agree hA _ _ h
  | .str .., _, _, _, h => by simp only [Own] at h ⊢; exact Rep.agree hA _ _ h
  | .sl .., _, _, _, h => by simp only [Own] at h ⊢; exact Rep.agree hA _ _ h
  | .ptr .., _, _, _, h => by simp only [Own] at h ⊢; exact Rep.agree hA _ _ h
  | .fn .., _, _, _, h => by simp only [Own] at h ⊢; exact Rep.agree hA _ _ h
  | .ifc .., _, _, _, h => by simp only [Own] at h ⊢; exact Rep.agree hA _ _ h
  | .nilI, _, _, _, h => by simp only [Own] at h ⊢; exact Rep.agree hA _ _ h
  | .nilP, _, _, _, h => by simp only [Own] at h ⊢; exact Rep.agree hA _ _ h
  | .nilF, _, _, _, h => by simp only [Own] at h ⊢; exact Rep.agree hA _ _ h
  | .anyB, _, _, _, h => by simp only [Own] at h
  | .nilS _, _, _, _, h => by simp only [Own] at h ⊢; exact Rep.agree hA _ _ h
  | .agg _, _, _, _, h => by simp only [Own] at h
  | .tup _, _, _, _, h => by simp only [Own] at h
  | .box _, _, _, _, h => by simp only [Own] at h
  | .otup _, _, _, _, h => by simp only [Own] at h
  | .ref .., _, _, _, h => by simp only [Own] at h
  | .al _, _, _, _, h => by simp only [Own] at h
  | .win .., _, _, _, h => by simp only [Own] at h
  | .iter .., _, _, _, h => by simp only [Own] at h
  | .clo .., _, _, _, h => by simp only [Own] at h
theorem OwnL.chg {w w' : World} {S F F' : Fp} (hc : Chg S w w') (hA : Agree F F' w w') : ∀ (xs : List AV) {bk : Nat} {O : Fp} {us : List Value}, (∀ b o, O b o → b ≠ bk → ¬ S b o) → OwnL w F xs bk O us → OwnL w' F' xs bk O us
  | [], _, _, _, _, h => by simpa only [OwnL] using h
  | x :: xs, bk, O, us, hO, h => by
    simp only [OwnL] at h ⊢
    obtain ⟨u, us', Q, R, h0, h1, h2, h3, h4, h5⟩ := h
    exact ⟨u, us', Q, R, h0, h1, h2, h3, Own.chg hc hA x (fun b o hq => hO _ _ (h1 b o hq).1 (h1 b o hq).2) h4, OwnL.chg hc hA xs (fun b o hr => hO _ _ (h2 b o hr)) h5⟩
end

theorem OwnL.length {w : World} {F : Fp} : ∀ (xs : List AV) {bk : Nat} {O : Fp} {us : List Value}, OwnL w F xs bk O us → us.length = xs.length
  | [], _, _, _, h => by simp only [OwnL] at h; subst h; rfl
  | x :: xs, _, _, _, h => by
    simp only [OwnL] at h
    obtain ⟨u, us', Q, R, rfl, _, _, _, _, h5⟩ := h
    simp [OwnL.length xs h5]


theorem ownL_cells {w : World} {F : Fp} : ∀ (xs : List AV) {bk : Nat} {O : Fp} {us : List Value}, OwnL w F xs bk O us → xs.length = us.length ∧ ∃ Q : Nat → Fp, (∀ i b o, Q i b o → O b o ∧ b ≠ bk) ∧ (∀ i j b o, i ≠ j → Q i b o → ¬ Q j b o) ∧
    ∀ i x u, xs[i]? = some x → us[i]? = some u → Own w F x (Q i) u
  | [], _, _, _, h => by
    simp only [OwnL] at h
    subst h
    exact ⟨rfl, fun _ _ _ => False, fun _ _ _ h => h.elim, fun _ _ _ _ _ h => h.elim, fun i x u hx => by simp at hx⟩
  | x :: xs, bk, O, us, h => by
    simp only [OwnL] at h
    obtain ⟨u, us', Q, R, rfl, h1, h2, h3, h4, h5⟩ := h
    obtain ⟨k1, Q', k2, k3, k4⟩ := ownL_cells xs h5
    refine ⟨by simp [k1], fun i => match i with | 0 => Q | i + 1 => Q' i, fun i b o hq => ?_, fun i j b o hij hi hj => ?_, fun i y v hy hv => ?_⟩
    · cases i with
      | zero => exact h1 b o hq
      | succ i => exact ⟨h2 b o (k2 i b o hq).1, (k2 i b o hq).2⟩
    · cases i with
      | zero =>
        cases j with
        | zero => exact hij rfl
        | succ j => exact h3 b o hi (k2 j b o hj).1
      | succ i =>
        cases j with
        | zero => exact h3 b o hj (k2 i b o hi).1
        | succ j => exact k3 i j b o (fun e => hij (by rw [e])) hi hj
    · cases i with
      | zero =>
        simp only [List.getElem?_cons_zero, Option.some.injEq] at hy hv
        subst hy hv
        exact h4
      | succ i =>
        simp only [List.getElem?_cons_succ] at hy hv
        exact k4 i y v hy hv
theorem cells_ownL {w : World} {F : Fp} : ∀ (xs : List AV) {bk : Nat} {O : Fp} {us : List Value} (Q : Nat → Fp), xs.length = us.length → (∀ i b o, Q i b o → O b o ∧ b ≠ bk) → (∀ i j b o, i ≠ j → Q i b o → ¬ Q j b o) →
    (∀ i x u, xs[i]? = some x → us[i]? = some u → Own w F x (Q i) u) → OwnL w F xs bk O us
  | [], _, _, us, _, hl, _, _, _ => by
    simp only [OwnL]
    exact List.eq_nil_of_length_eq_zero hl.symm
  | x :: xs, bk, O, [], _, hl, _, _, _ => by simp at hl
  | x :: xs, bk, O, u :: us, Q, hl, h1, h2, h3 => by
    simp only [OwnL]
    exact ⟨u, us, Q 0, fun b o => ∃ i, Q (i + 1) b o, rfl, h1 0, fun b o ⟨i, hi⟩ => (h1 _ b o hi).1, fun b o hq ⟨i, hi⟩ => h2 0 (i + 1) b o (by simp) hq hi, h3 0 x u rfl rfl,
      cells_ownL xs (fun i => Q (i + 1)) (by simpa using hl) (fun i b o hq => ⟨⟨i, hq⟩, (h1 _ b o hq).2⟩) (fun i j b o hij => h2 (i + 1) (j + 1) b o (fun e => hij (by simpa using e))) (fun i y v hy hv => h3 (i + 1) y v (by simpa using hy) (by simpa using hv))⟩
theorem cellsO_iff {w : World} {F O : Fp} {bk : Nat} {xs : List AV} {c : Array Value} : CellsO w F O bk xs c ↔ OwnL w F xs bk O c.toList :=
  ⟨fun ⟨h, Q, h1, h2, h3⟩ => cells_ownL xs Q (by simpa using h) h1 h2 fun i x u hx hu => h3 i x u hx (by simpa using hu), fun h => by
    obtain ⟨h0, Q, h1, h2, h3⟩ := ownL_cells xs h
    exact ⟨by simpa using h0, Q, h1, h2, fun i x u hx hu => h3 i x u hx (by simpa using hu)⟩⟩
theorem CellO.one {w : World} {F Q : Fp} {x : AV} {v : Value} (h1 : x.one = true) (h2 : Rep w F x v) : CellO w F Q x.toO v := by
  cases x with
  | nilS sz =>
    simp only [Rep] at h2
    simp only [AV.toO]
    subst h2
    split
    · simp [CellO, Own, RowRep]
    · simp [CellO, Own]
  | _ => exact Own.one h1 h2
/-- What is owned, or read, stays so where nothing of it changes. -/
theorem RepTop.chg {w w' : World} {S F F' O : Fp} {β : Nat → Nat} {t : Nat} (hc : Chg S w w') (hF : ∀ b o, F b o → F' b o ∧ b < w.heap.size ∧ ¬ S b o) (hO : ∀ b o, O b o → ¬ S b o) :
    ∀ {x : AV} {v : Value}, RepTop w F O β t x v → RepTop w' F' O β t x v := by
  have hA : Agree F F' w w' := fun b o h => ⟨(hF b o h).1, hc.cell (hF b o h).2.1 (hF b o h).2.2⟩
  intro x v h
  cases x with
  | row sz xs n =>
    simp only [RepTop] at h ⊢
    rcases h with h | ⟨g, c, cur, e, lo, hi, h0, h1, h2, h3, h4, h5, h6, h7, h8⟩
    · exact .inl h
    · obtain ⟨cur', k1, k2, k3⟩ := hc.cells g cur e (lo, hi) h1
      exact .inr ⟨g, c, cur', e, lo, hi, h0, k1, h2, h3, k2.trans h4, h5, RepAt.agree hA _ _ _ h6, h7, h8⟩
  | box xs =>
    simp only [RepTop] at h ⊢
    obtain ⟨h0, c, e, h1, h2, h3⟩ := h
    refine ⟨h0, c, e, ?_, RepL.agree hA _ _ _ h2, h3⟩
    rw [hc.same _ (lt_of_heap h1) (fun o => hO _ _ (h3 o))]
    exact h1
  | clo f xs =>
    simp only [RepTop] at h ⊢
    obtain ⟨h0, c, e, h1, h2, h3⟩ := h
    refine ⟨h0, c, e, ?_, RepL.agree hA _ _ _ h2, h3⟩
    rw [hc.same _ (lt_of_heap h1) (fun o => hO _ _ (h3 o))]
    exact h1
  | obox xs =>
    simp only [RepTop] at h ⊢
    obtain ⟨h0, c, e, h1, ⟨h2, Q, q1, q2, q3⟩, h3⟩ := h
    refine ⟨h0, c, e, ?_, ⟨h2, Q, q1, q2, fun i x u hx hu => Own.chg hc hA x (fun b o hq => hO b o (q1 i b o hq).1) (q3 i x u hx hu)⟩, h3⟩
    rw [hc.same _ (lt_of_heap h1) (fun o => hO _ _ (h3 o))]
    exact h1
  | otup xs =>
    simp only [RepTop] at h ⊢
    obtain ⟨cs, h0, h1, Q, q1, q2, q3⟩ := h
    exact ⟨cs, h0, h1, Q, q1, q2, fun i x u hx hu => (q3 i x u hx hu).imp (Own.chg hc hA x (fun b o hq => hO b o (q1 i b o hq))) (Rep.agree hA x u)⟩
  | iter l pos =>
    simp only [RepTop] at h ⊢
    obtain ⟨h0, h1, h2⟩ := h
    refine ⟨h0, ?_, h2⟩
    rw [hc.same _ (lt_of_heap h1) (fun o => hO _ _ (h2 o))]
    exact h1
  | ref b off => simp only [RepTop]
  | al b => simp only [RepTop]
  | win b off n => simp only [RepTop]
  | mrow sz xs n =>
    simp only [RepTop] at h ⊢
    rcases h with h | ⟨c, cur, e, lo, hi, h0, h1, h2, h3, h4, h5, h6, h7, h8⟩
    · exact .inl h
    refine .inr ⟨c, cur, e, lo, hi, h0, ?_, h2, h3, h4, h5, RepL.agree hA _ _ _ h6, h7, h8⟩
    rw [hc.same _ (lt_of_heap h1) (fun o => hO _ _ (h7 o))]
    exact h1
  | bad => simp only [RepTop] at h
  | _ => exact Rep.agree hA _ _ h

/-- Of a shared thing nothing hangs on who owns what. -/
theorem RepTop.mono {w : World} {F O : Fp} {β β' : Nat → Nat} {t t' : Nat} {x : AV} {v : Value} (hx : x.share.good) (hs : x.share = x) (h : RepTop w F O β t x v) (O' : Fp) : RepTop w F O' β' t' x v := by
  have := share_rep h hx
  rw [hs] at this
  exact top_of_rep this

theorem tm_put {a : Act} {d t : Nat} {v : Value} (hd : d < a.tmps.size) : tm (a.put (some d) v) t = if t = d then v else tm a t := by
  unfold tm Act.put
  simp only [Array.getD_eq_getD_getElem?, Array.getElem?_setIfInBounds]
  by_cases h : d = t
  · subst h; simp [hd]
  · simp [h, Ne.symm h]

theorem RepTop.beta {w : World} {F O : Fp} {β β' : Nat → Nat} {t : Nat} {x : AV} {v : Value} (hb : β' t = β t) (h : RepTop w F O β t x v) : RepTop w F O β' t x v := by
  cases x <;> simp only [RepTop] at h ⊢ <;> first | exact h | (rw [hb]; exact h)

theorem RR.put {nt : Nat} {w0 : World} {S0 F0 F : Fp} {O : Nat → Fp} {β : Nat → Nat} {s : St} {a : Act} {w : World} (h : RR nt w0 S0 F0 F O β s a w) {d : Nat} (hd : d < nt) (av : AV) (v : Value) (g : Prop)
    (Od : Fp) (βd : Nat) (hv : g → RepTop w F Od (upd β d βd) d av v) (hrf : g → ∀ b, av.isTo b = true → b ≠ d ∧ (∀ off, av = .ref b off → v = .pointer (some ⟨β b, off, none⟩)) ∧ (av = .al b → v = tm a b) ∧ (∀ off n, av = .win b off n → Vw (β b) off n v))
    (hun : ¬ g → v = undef) (h1 : ∀ b o, Od b o → ¬ F b o) (h2 : ∀ t b o, t ≠ d → Od b o → ¬ O t b o) (h3 : ∀ b o, Od b o → b < w.heap.size) (h4 : ∀ b o, Od b o → w0.heap.size ≤ b ∨ S0 b o) :
    RR nt w0 S0 F0 F (off1 O d Od) (upd β d βd) (s.set d av g true) (a.put (some d) v) w := by
  have hd' : d < a.tmps.size := by rw [h.size]; exact hd
  refine ⟨h.chg, fun t b o ho => ?_, fun t u b o ht ho hu => ?_, h.inF, fun t b o ho => ?_, fun t b o ho => ?_, h.fF, fun t ht => ?_, fun t hk ht => ?_, fun x b hx hb => ?_, by simp [Act.put, h.size], h.defs, h.gl⟩
  · unfold off1 at ho; split at ho
    · exact h1 b o ho
    · exact h.sep t b o ho
  · unfold off1 at ho hu
    by_cases e1 : t = d
    · subst e1
      rw [if_pos rfl] at ho
      rw [if_neg (Ne.symm ht)] at hu
      exact h2 u b o (Ne.symm ht) ho hu
    · rw [if_neg e1] at ho
      by_cases e2 : u = d
      · rw [if_pos e2] at hu
        exact h2 t b o e1 hu ho
      · rw [if_neg e2] at hu
        exact h.dis t u b o ht ho hu
  · unfold off1 at ho; split at ho
    · exact h3 b o ho
    · exact h.inO t b o ho
  · unfold off1 at ho; split at ho
    · exact h4 b o ho
    · exact h.own t b o ho
  · rw [St.D_set] at ht
    rw [St.env_set, tm_put hd']
    unfold off1
    by_cases e : d = t
    · subst e
      rw [if_pos rfl] at ht
      simp only [if_true]
      exact hv ht
    · rw [if_neg e] at ht
      rw [if_neg e, if_neg (Ne.symm e), if_neg (Ne.symm e)]
      exact RepTop.beta (by unfold upd; rw [if_neg (Ne.symm e)]) (h.rep t ht)
  · rw [St.K_set] at hk
    rw [St.D_set] at ht
    rw [tm_put hd']
    by_cases e : d = t
    · subst e
      rw [if_pos rfl] at ht
      rw [if_pos rfl]
      exact hun ht
    · rw [if_neg e] at ht hk
      rw [if_neg (Ne.symm e)]
      exact h.und t hk ht
  · rw [St.D_set] at hx
    rw [St.refOk_set] at hb
    rw [St.env_set, tm_put hd']
    by_cases e : d = x
    · subst e
      rw [if_pos rfl] at hx hb
      obtain ⟨k1, k2, k3, k4⟩ := hrf hx b hb
      rw [if_pos rfl, if_pos rfl, tm_put hd', if_neg k1]
      unfold upd
      rw [if_neg k1]
      exact ⟨k2, k3, k4⟩
    · rw [if_neg e] at hx hb
      rw [if_neg e, if_neg (Ne.symm e)]
      by_cases e2 : d = b
      · rw [if_pos ⟨e2, rfl⟩] at hb; cases hb
      · rw [if_neg (fun hh => e2 hh.1)] at hb
        rw [tm_put hd', if_neg (Ne.symm e2)]
        unfold upd
        rw [if_neg (Ne.symm e2)]
        exact h.refs x b hx hb

/-- The same where no block has a name. -/
theorem RR.putS {nt : Nat} {w0 : World} {S0 F0 F : Fp} {O : Nat → Fp} {β : Nat → Nat} {s : St} {a : Act} {w : World} (h : RR nt w0 S0 F0 F O β s a w) {d : Nat} (hd : d < nt) (av : AV) (v : Value) (g : Prop)
    (Od : Fp) (hv : g → RepTop w F Od β d av v) (hrf : g → ∀ b, av.isTo b = false)
    (hun : ¬ g → v = undef) (h1 : ∀ b o, Od b o → ¬ F b o) (h2 : ∀ t b o, t ≠ d → Od b o → ¬ O t b o) (h3 : ∀ b o, Od b o → b < w.heap.size) (h4 : ∀ b o, Od b o → w0.heap.size ≤ b ∨ S0 b o) :
    RR nt w0 S0 F0 F (off1 O d Od) β (s.set d av g true) (a.put (some d) v) w := by
  have := h.put hd av v g Od (β d) (by rw [upd_self]; exact hv) (fun hg b hb => by rw [hrf hg b] at hb; cases hb) hun h1 h2 h3 h4
  rwa [upd_self] at this

/-- A value that nobody owns. -/
theorem RR.put0 {nt : Nat} {w0 : World} {S0 F0 F : Fp} {O : Nat → Fp} {β : Nat → Nat} {s : St} {a : Act} {w : World} (h : RR nt w0 S0 F0 F O β s a w) {d : Nat} (hd : d < nt) (av : AV) (v : Value) (g : Prop)
    (hv : g → RepTop w F NoFp β d av v) (hrf : g → ∀ b, av.isTo b = true → b ≠ d ∧ (∀ off, av = .ref b off → v = .pointer (some ⟨β b, off, none⟩)) ∧ (av = .al b → v = tm a b) ∧ (∀ off n, av = .win b off n → Vw (β b) off n v)) (hun : ¬ g → v = undef) : RR nt w0 S0 F0 F (off1 O d NoFp) β (s.set d av g true) (a.put (some d) v) w := by
  have := h.put hd av v g NoFp (β d) (by rw [upd_self]; exact hv) hrf hun (fun _ _ h => h.elim) (fun _ _ _ _ h => h.elim) (fun _ _ h => h.elim) (fun _ _ h => h.elim)
  rwa [upd_self] at this

/-- What t owned is nobody's now. -/
theorem RR.give {nt : Nat} {w0 : World} {S0 F0 F : Fp} {O : Nat → Fp} {β : Nat → Nat} {s : St} {a : Act} {w : World} (h : RR nt w0 S0 F0 F O β s a w) (u : Nat) :
    RR nt w0 S0 F0 F (off1 O u NoFp) β (s.give (.t u)) a w := by
  have sub : ∀ t b o, off1 O u NoFp t b o → O t b o := fun t b o ho => by
    unfold off1 at ho; split at ho
    · exact ho.elim
    · exact ho
  refine ⟨h.chg, fun t b o ho => h.sep t b o (sub t b o ho), fun t u' b o ht ho hu => h.dis t u' b o ht (sub _ _ _ ho) (sub _ _ _ hu), h.inF, fun t b o ho => h.inO t b o (sub _ _ _ ho), fun t b o ho => h.own t b o (sub _ _ _ ho), h.fF, fun t ht => ?_, fun t hk ht => ?_, fun x b hx hb => ?_, h.size, h.defs, h.gl⟩
  · unfold St.give at ht ⊢
    rw [St.D_set] at ht
    rw [St.env_set]
    by_cases e : u = t
    · subst e
      rw [if_pos rfl] at ht ⊢
      exact top_of_rep (share_rep (h.rep u ht.1) ht.2)
    · rw [if_neg e] at ht ⊢
      unfold off1
      rw [if_neg (Ne.symm e)]
      exact h.rep t ht
  · unfold St.give at ht hk
    rw [St.K_set] at hk
    rw [St.D_set] at ht
    by_cases e : u = t
    · subst e
      rw [if_pos rfl] at hk
      cases hk
    · rw [if_neg e] at ht hk
      exact h.und t hk ht
  · unfold St.give at hx hb ⊢
    rw [St.D_set] at hx
    rw [St.refOk_set] at hb
    rw [St.env_set]
    by_cases e : u = x
    · rw [if_pos e, isTo_share] at hb; cases hb
    · rw [if_neg e] at hx hb ⊢
      rw [if_neg (by simp)] at hb
      exact h.refs x b hx hb

/-- The world goes on; nothing that is owned or read changes, but what the temporaries of U own. -/
theorem RR.move {nt : Nat} {w0 : World} {S0 F0 F : Fp} {O : Nat → Fp} {β : Nat → Nat} {s : St} {a : Act} {w : World} (h : RR nt w0 S0 F0 F O β s a w) {S F' : Fp} {w' : World} (hc : Chg S w w')
    (hS : ∀ b o, b < w0.heap.size → S b o → S0 b o) (hSF : ∀ b o, S b o → ¬ F b o) (U : Nat → Prop) (hSO : ∀ t b o, ¬ U t → O t b o → ¬ S b o) (hF : ∀ b o, F b o → F' b o)
    (hF' : ∀ b o, F' b o → F b o ∨ w.heap.size ≤ b ∨ (w0.heap.size ≤ b ∨ S0 b o)) (hin : ∀ b o, F' b o → b < w'.heap.size) (hFO : ∀ t b o, O t b o → ¬ F' b o) (hU : ∀ t, U t → s.D t → RepTop w' F' (O t) β t (s.env t) (tm a t)) :
    RR nt w0 S0 F0 F' O β s a w' := by
  refine ⟨h.chg.trans hc (fun k o hk hs => hS k o hk hs), hFO, h.dis, hin, fun t b o ho => Nat.lt_of_lt_of_le (h.inO t b o ho) hc.size, h.own, fun b o ho => ?_, fun t ht => ?_, h.und, h.refs, h.size, h.defs, fun b o hb => ⟨hF b o (h.gl b o hb).1, (hc.cell (h.inF b o (h.gl b o hb).1) fun hs => hSF b o hs (h.gl b o hb).1).trans (h.gl b o hb).2⟩⟩
  · rcases hF' b o ho with h1 | h1 | h1
    · exact h.fF b o h1
    · exact .inr (.inl (Nat.le_trans h.chg.size h1))
    · exact .inr h1
  · by_cases hu : U t
    · exact hU t hu ht
    · exact (h.rep t ht).chg hc (fun b o hb => ⟨hF b o hb, h.inF b o hb, fun hs => hSF b o hs hb⟩) (fun b o hb => hSO t b o hu hb)

end Go.Proofs.Ytbikpgaiocjnoaa.Pad
