/- Boxes, and calls. -/
import Derived.Test.YtmolcbipiiimgaaE5
namespace Go.Proofs.Ytmolcbipiiimgaa.Pad

theorem St.env_noRefs : ∀ (s : St) (t : Nat), s.noRefs.env t = s.env t
  | [], _ => rfl
  | e :: s, t => by simp only [St.noRefs, St.env]; rw [St.env_noRefs s t]
theorem St.D_noRefs : ∀ (s : St) (t : Nat), s.noRefs.D t → s.D t ∧ (s.env t).isRef = false
  | [], _, h => h.elim
  | e :: s, t, h => by
    simp only [St.noRefs, St.D, St.env] at h ⊢
    by_cases he : e.t = t
    · rw [if_pos he] at h; rw [if_pos he, if_pos he]; exact h
    · rw [if_neg he] at h; rw [if_neg he, if_neg he]; exact St.D_noRefs s t h
theorem St.D_noRefs' : ∀ (s : St) (t : Nat), s.D t → (s.env t).isRef = false → s.noRefs.D t
  | [], _, h, _ => h.elim
  | e :: s, t, h, h' => by
    simp only [St.noRefs, St.D, St.env] at h h' ⊢
    by_cases he : e.t = t
    · rw [if_pos he] at h h' ⊢; exact ⟨h, h'⟩
    · rw [if_neg he] at h h' ⊢; exact St.D_noRefs' s t h h'
theorem St.K_noRefs : ∀ (s : St) (t : Nat), s.noRefs.K t = true → s.K t = true ∧ (s.env t).isRef = false
  | [], _, h => by simp [St.noRefs, St.K] at h
  | e :: s, t, h => by
    simp only [St.noRefs, St.K, St.env] at h ⊢
    by_cases he : e.t = t
    · rw [if_pos he] at h; rw [if_pos he, if_pos he]; simpa using h
    · rw [if_neg he] at h; rw [if_neg he, if_neg he]; exact St.K_noRefs s t h

theorem RepTop.beta {w : World} {F O : Fp} {β β' : Nat → Nat} {t : Nat} {x : AV} {v : Value} (hx : x.isRef = false) (hb : β' t = β t) (h : RepTop w F O β t x v) : RepTop w F O β' t x v := by
  cases x <;> simp only [RepTop] at h ⊢ <;> first | exact h | (simp [AV.isRef] at hx; done) | (rw [hb]; exact h)
theorem RepTop.idx {w : World} {F O : Fp} {β β' : Nat → Nat} {t t' : Nat} {x : AV} {v : Value} (hx : x.share.good) (h : RepTop w F O β t x v) : RepTop w F O β' t' x v := by
  cases x <;> simp only [RepTop] at h ⊢ <;> first | exact h | (simp [AV.share, AV.good] at hx; done)

theorem RR.newBox {nt : Nat} {w0 : World} {S0 F0 F : Fp} {O : Nat → Fp} {β : Nat → Nat} {s : St} {a : Act} {w : World} (h : RR nt w0 S0 F0 F O β s a w) {d : Nat} (hd : d < nt) (xs : List AV) (c : Array Value) (e : TypeId) (hx : RepL w F true xs c.toList) :
    RR nt w0 S0 F0 F (off1 O d (fun b _ => b = w.heap.size)) (fun t => if t = d then w.heap.size else β t) (s.noRefs.set d (.box xs) True true) (a.put (some d) (.pointer (some ⟨w.heap.size, 0, none⟩))) (w.alloc (.cells c e)) := by
  have hd' : d < a.tmps.size := by rw [h.size]; exact hd
  have hc := chg_alloc NoFp w (.cells c e)
  have hsz : (w.alloc (.cells c e)).heap.size = w.heap.size + 1 := by simp
  have hA : Agree F F w (w.alloc (.cells c e)) := fun b o hb => ⟨hb, hc.cell (h.inF b o hb) id⟩
  refine ⟨h.chg.trans (chg_alloc NoFp w _) (fun _ _ _ hn => hn.elim), fun t b o ho hF => ?_, fun t u b o ht ho hu => ?_, fun b o hF => by have := h.inF b o hF; omega, fun t b o ho => ?_, fun t b o ho => ?_, h.fF, fun t ht => ?_, fun t hk ht => ?_, by simp [Act.put, h.size], h.defs⟩
  · unfold off1 at ho; split at ho
    · have := h.inF b o hF; omega
    · exact h.sep t b o ho hF
  · unfold off1 at ho hu
    by_cases e1 : t = d
    · rw [if_pos e1] at ho; rw [if_neg (fun e2 => ht (e1.trans e2.symm))] at hu
      have := h.inO u b o hu; omega
    · rw [if_neg e1] at ho
      by_cases e2 : u = d
      · rw [if_pos e2] at hu; have := h.inO t b o ho; omega
      · rw [if_neg e2] at hu; exact h.dis t u b o ht ho hu
  · unfold off1 at ho; split at ho
    · omega
    · have := h.inO t b o ho; omega
  · unfold off1 at ho; split at ho
    · exact .inl (by rw [ho]; exact h.chg.size)
    · exact h.own t b o ho
  · rw [St.D_set] at ht
    rw [St.env_set, tm_put hd']
    unfold off1
    by_cases e1 : d = t
    · subst e1
      simp only [if_true]
      simp only [RepTop, if_true]
      exact ⟨trivial, c, e, heap_alloc_new w _, RepL.agree hA _ _ _ hx, fun _ => trivial⟩
    · rw [if_neg e1] at ht
      rw [if_neg e1, if_neg (Ne.symm e1), if_neg (Ne.symm e1), St.env_noRefs]
      obtain ⟨h1, h2⟩ := St.D_noRefs s t ht
      refine RepTop.beta h2 (if_neg (Ne.symm e1)) ?_
      exact (h.rep t h1).chg hc (fun b o hb => ⟨hb, h.inF b o hb, id⟩) (fun _ _ _ hn => hn)
  · rw [St.K_set] at hk
    rw [St.D_set] at ht
    rw [tm_put hd']
    by_cases e1 : d = t
    · rw [if_pos e1] at ht; exact (ht trivial).elim
    · rw [if_neg e1] at hk ht
      rw [if_neg (Ne.symm e1)]
      obtain ⟨k1, k2⟩ := St.K_noRefs s t hk
      exact h.und t k1 fun hD => ht (St.D_noRefs' s t hD k2)

/-- Into a box that t has. -/
theorem RR.store {P : Program} {nt : Nat} {w0 : World} {S0 F0 F : Fp} {O : Nat → Fp} {β : Nat → Nat} {s : St} {a : Act} {w : World} (h : RR nt w0 S0 F0 F O β s a w) {t : Nat} {xs : List AV} (hD : s.D t) (he : s.env t = .box xs)
    (off : Nat) (ys : List AV) (vs : List Value) (hy : RepL w F true ys vs) (hl : off + ys.length ≤ xs.length) :
    (storeCells ⟨β t, off, none⟩ vs).run P w = .ok () (w.setCells (β t) off vs) ∧ RR nt w0 S0 F0 F O β (s.set t (.box (splice xs off ys)) True true) a (w.setCells (β t) off vs) := by
  have hr := h.rep t hD
  rw [he] at hr
  simp only [RepTop] at hr
  obtain ⟨h0, c, e, h1, h2, h3⟩ := hr
  have hvl := repL_length _ _ hy
  have hcl := repL_length _ _ h2
  simp only [Array.length_toList] at hcl
  have hc : Chg (fun b _ => b = β t) w (w.setCells (β t) off vs) := chg_setCells h1 fun _ _ => rfl
  obtain ⟨c', q1, q2, q3⟩ := setCells_heap (β t) vs off w c e (0, 0) h1
  have hex : ∀ j, j < vs.length → (w.cell? ⟨β t, off + j, none⟩).isSome = true := fun j hj => by
    rw [cell_of_heap h1]
    have : off + j < c.size := by omega
    simp [this]
  have hin : ∀ j (hj : j < vs.length), c'[off + j]? = some vs[j] := fun j hj => by
    rw [← cell_of_heap q1, World.cell?_setCells_in (β t) vs off w hex j hj]
  have hnF : ∀ b o, F b o → b ≠ β t := fun b o hF e => h.sep t b o (by rw [e]; exact h3 o) hF
  have hA : Agree F F w (w.setCells (β t) off vs) := fun b o hb => ⟨hb, hc.cell (h.inF b o hb) (hnF b o hb)⟩
  refine ⟨?_, ?_⟩
  · have := run_storeCells_cells (P := P) (β t) off vs 0 w (fun j hj => by
      simpa using hex j hj) (fun j hj => by simp [World.frozen?, h1]) (repL_one _ _ hy)
    simpa using this
  · refine ⟨h.chg.trans hc (fun k o hk hs => ?_), h.sep, h.dis, fun b o hF => Nat.lt_of_lt_of_le (h.inF b o hF) hc.size, fun u b o ho => Nat.lt_of_lt_of_le (h.inO u b o ho) hc.size, h.own, h.fF, fun u hu => ?_, fun u hk hu => ?_, h.size, h.defs⟩
    · have := h.own t k o (by rw [hs]; exact h3 o)
      exact this.elim (fun hh => by omega) id
    · rw [St.D_set] at hu
      rw [St.env_set]
      by_cases e1 : t = u
      · subst e1
        rw [if_pos rfl]
        simp only [RepTop]
        refine ⟨h0, c', e, q1, ?_, h3⟩
        have hs := splice_rep h2 hy off
        have : c'.toList = c.toList.take off ++ vs ++ c.toList.drop (off + vs.length) := by
          apply List.ext_getElem?
          intro i
          rw [Array.getElem?_toList]
          by_cases i1 : i < off
          · rw [q3 i (.inl i1), List.getElem?_append_left (by simp; omega), List.getElem?_append_left (by simp; omega), List.getElem?_take, if_pos i1]
            simp
          · by_cases i2 : i < off + vs.length
            · have := hin (i - off) (by omega)
              rw [show off + (i - off) = i by omega] at this
              rw [this, List.getElem?_append_left (by simp; omega), List.getElem?_append_right (by simp; omega)]
              have e3 : i - (List.take off c.toList).length = i - off := by rw [List.length_take, Array.length_toList]; omega
              rw [e3, List.getElem?_eq_getElem (by omega)]
            · rw [q3 i (.inr (by omega)), List.getElem?_append_right (by simp; omega), List.getElem?_drop]
              have e3 : off + vs.length + (i - (List.take off c.toList ++ vs).length) = i := by simp only [List.length_append, List.length_take, Array.length_toList]; omega
              rw [e3]; simp
        rw [this]
        exact RepL.agree hA _ _ _ hs
      · rw [if_neg e1] at hu ⊢
        refine (h.rep u hu).chg hc (fun b o hb => ⟨hb, h.inF b o hb, hnF b o hb⟩) (fun b o ho hs => ?_)
        exact h.dis t u b o e1 (by rw [hs]; exact h3 o) ho
    · rw [St.K_set] at hk
      rw [St.D_set] at hu
      by_cases e1 : t = u
      · rw [if_pos e1] at hu; exact (hu trivial).elim
      · rw [if_neg e1] at hk hu; exact h.und u hk hu

/-! ### Calls -/
structure Post (w : World) (F S : Fp) (r : AV) (v : Value) (w' : World) (F' O' : Fp) : Prop where
  chg : Chg S w w'
  rep : RepTop w' F' O' (fun _ => 0) 0 r v
  sep : ∀ b o, O' b o → ¬ F' b o
  fF : ∀ b o, F' b o → F b o ∨ w.heap.size ≤ b ∨ S b o
  fO : ∀ b o, O' b o → w.heap.size ≤ b ∨ S b o
  inF : ∀ b o, F' b o → b < w'.heap.size
  inO : ∀ b o, O' b o → b < w'.heap.size
  good : r.share.good

/-- **What a call tells**: with these arguments, whatever they lie in, it returns this. -/
def PFx (P : Program) (f : Nat) (args : List AV) (r : AV) : Prop :=
  ∀ (w : World) (F : Fp) (Os : Nat → Fp) (vs : Array Value), vs.size = args.length → (∀ (i : Nat) (x : AV) (v : Value), args[i]? = some x → vs[i]? = some v → RepTop w F (Os i) (fun _ => 0) i x v ∧ x.share.good) →
    (∀ i b o, Os i b o → ¬ F b o) → (∀ i j b o, i ≠ j → Os i b o → ¬ Os j b o) → (∀ b o, F b o → b < w.heap.size) → (∀ i b o, Os i b o → b < w.heap.size ∧ i < args.length) →
    Calls P f vs w fun e w' => ∃ v F' O', e = .returned v ∧ Post w F (fun b o => ∃ i, Os i b o) r v w' F' O'

def Sound (P : Program) (T : Tab) : Prop := ∀ f args r, T f args = some r → PFx P f args r

abbrev stolen := stolenN

def offs (O : Nat → Fp) (l : List Nat) : Nat → Fp := fun t => if t ∈ l then NoFp else O t

theorem share_share (x : AV) : x.share.share = x.share := by cases x <;> rfl

theorem RR.gives {nt : Nat} {w0 : World} {S0 F0 F : Fp} {β : Nat → Nat} {a : Act} {w : World} : ∀ (as : List (Bool × RV)) (O : Nat → Fp) (s : St), RR nt w0 S0 F0 F O β s a w → (∀ t ∈ stolen as, s.D t → (s.env t).share.good) →
    RR nt w0 S0 F0 F (offs O (stolen as)) β (giveArgs s as) a w
  | [], O, s, h, _ => by
    have : offs O (stolen []) = O := by funext t; simp [offs, stolenN]
    rw [this]; exact h
  | (false, x) :: as, O, s, h, hg => by
    simp only [giveArgs, stolenN] at hg ⊢
    exact RR.gives as O s h hg
  | (true, .c v) :: as, O, s, h, hg => by
    simp only [giveArgs, St.give, stolenN] at hg ⊢
    exact RR.gives as O s h hg
  | (true, .t n) :: as, O, s, h, hg => by
    simp only [giveArgs, stolenN] at hg ⊢
    have h1 := h.give n (hg n (List.mem_cons_self ..))
    have h2 := RR.gives as _ _ h1 (fun t ht hD => by
      unfold St.give at hD ⊢
      rw [St.D_set] at hD
      rw [St.env_set]
      by_cases e : n = t
      · subst e
        rw [if_pos rfl] at hD ⊢
        rw [share_share]
        exact hg n (List.mem_cons_self ..) hD
      · rw [if_neg e] at hD ⊢
        exact hg t (List.mem_cons_of_mem _ ht) hD)
    have : offs (off1 O n NoFp) (stolen as) = offs O (n :: stolen as) := by
      funext t
      unfold offs off1
      by_cases h1 : t ∈ stolen as
      · simp [h1]
      · by_cases h2 : t = n <;> simp [h1, h2]
    rw [this] at h2
    exact h2

end Go.Proofs.Ytmolcbipiiimgaa.Pad
