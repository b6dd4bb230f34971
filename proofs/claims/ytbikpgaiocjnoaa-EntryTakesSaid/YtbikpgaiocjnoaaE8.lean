/- One operation, in the temporaries and the heap, as it is in what they stand for. -/
import Derived.Test.YtbikpgaiocjnoaaE7
import Derived.Laws.Small
set_option linter.unusedVariables false
set_option linter.unusedSimpArgs false
namespace Go.Proofs.Ytbikpgaiocjnoaa.Pad

theorem chkV_t {x : Operand} {n : Nat} (h : chkV x (.t n) = true) : x = .tmp n := by
  cases x <;> simp [chkV] at h
  rw [h]

section
variable {P : Program} [Globs P] {nt : Nat} {w0 : World} {S0 F0 F : Fp} {O : Nat → Fp} {β : Nat → Nat} {s : St} {a : Act} {w : World}

/-- What is read is what it stands for. -/
theorem RR.rd (h : RR nt w0 S0 F0 F O β s a w) {o : Operand} {x : RV} (hc : chkV o x = true) (hok : s.ok x) (hg : (s.rd x).good) : Rep w F (s.rd x) (a.eval o) := by
  cases x with
  | t n =>
    rw [chkV_t hc]
    exact share_rep (h.rep n hok) hg
  | c v =>
    by_cases hf : ∃ f, o = .func f
    · obtain ⟨f, rfl⟩ := hf
      unfold chkV at hc
      split at hc
      · rename_i e1 e2
        cases e1; cases e2
        simp only [beq_iff_eq] at hc
        subst hc
        show Rep w F (.fn f [] []) (.func (.func f) #[] #[])
        simp only [Rep]
        exact ⟨#[], #[], rfl, by simp only [RepL], by simp only [RepL]⟩
      · rename_i e1 e2; cases e1
      · rename_i e1 e2; cases e1
      · cases hc
    cases o <;> simp [chkV] at hc
    · exact cAV_rep hc
    · exact (hf ⟨_, rfl⟩).elim
theorem RR.raw (h : RR nt w0 S0 F0 F O β s a w) {n : Nat} (hok : s.D n) : RepTop w F (O n) β n (s.env n) (a.eval (.tmp n)) := h.rep n hok

theorem dBin_good {op : BinOp} {ex : Bool} : ∀ {x y : AV}, dBin op ex x y → x.good ∧ y.good := by
  intro x y h; cases x <;> cases y <;> simp_all [dBin, AV.good]
theorem isI_good : ∀ {x : AV}, x.isI → x.good := by
  intro x h; cases x <;> simp_all [AV.isI, AV.good]
theorem lo_run (h : RR nt w0 S0 F0 F O β s a w) {o : Option Operand} {x : Option RV} (hc : chkO o x = true) (hok : okO s x) : match o.map a.eval with | none => lowOf s x = 0 | some v => ∃ k, v = .int k (lowOf s x) := by
  cases o <;> cases x <;> simp [chkO] at hc
  · rfl
  · simp only [okO] at hok
    exact int_run (h.rd hc hok.1 (isI_good hok.2)) hok.2
theorem hi_run (h : RR nt w0 S0 F0 F O β s a w) {o : Option Operand} {x : Option RV} (n : Nat) (hc : chkO o x = true) (hok : okO s x) : match o.map a.eval with | none => highOf s n x = n | some v => ∃ k, v = .int k (highOf s n x) := by
  cases o <;> cases x <;> simp [chkO] at hc
  · rfl
  · simp only [okO] at hok
    exact int_run (h.rd hc hok.1 (isI_good hok.2)) hok.2

def R1.isVal : R1 → Bool
  | .callL .. | .allocO _ | .fldO .. | .stO .. | .stRO .. | .takeO .. | .extO .. | .putO .. | .steal _ | .s2b _ | .stB .. | .stR .. | .box _ | .alloc _ | .nilR _ | .mkSl .. | .mkSlM .. | .app .. | .make .. | .call .. | .fldB .. | .fldR .. | .idxB .. | .idxR .. | .s2aR .. | .callF .. | .s2bM _ | .makeM .. | .al _ | .nck .. | .idxM .. | .frz _ | .stealM _ | .rng _ | .nxt _ | .nilM _ | .appM .. | .callB .. | .winB .. | .winX .. | .cpy .. | .cpyV .. | .mkC .. | .callC .. | .mvW .. | .wnV .. | .winR .. => false
  | _ => true

theorem vals_rep (h : RR nt w0 S0 F0 F O β s a w) : ∀ (os : List Operand) (as : List RV), chkVals os as = true → okVals s as → RepL w F false (valsAV s as) (os.map a.eval)
  | [], [], _, _ => by simp only [valsAV, List.map_nil, RepL]
  | [], _ :: _, hc, _ => by simp [chkVals] at hc
  | _ :: _, [], hc, _ => by simp [chkVals] at hc
  | o :: os, y :: as, hc, hok => by
    simp only [chkVals, Bool.and_eq_true] at hc
    simp only [okVals] at hok
    simp only [valsAV, List.map_cons, RepL]
    exact ⟨_, _, rfl, (fun e => by cases e), h.rd hc.1 hok.1 hok.2.1, vals_rep h os as hc.2 hok.2.2⟩
/-- The operations that only reckon. -/
theorem value_ok (hG : GlobOk P w0 F0) (h : RR nt w0 S0 F0 F O β s a w) {o : Oper} {r : R1} (T : Tab) (hc : chkOp P o.op r = true) (hn : dfn T s r) (hval : r.isVal = true) :
    ∃ v, (execOp a.eval o).run P w = .ok (.value v) w ∧ Rep w F (val T s r) v := by
  cases r <;> first | (simp [R1.isVal] at hval; done) | skip
  case mov y =>
    obtain ⟨x, hx, hv⟩ := inv_mov hc
    simp only [dfn] at hn
    refine ⟨a.eval x, ?_, h.rd hv hn.1 hn.2⟩
    rcases hx with hx | hx <;> simp [execOp, hx]
  case pick c' x' y' =>
    obtain ⟨c, x, y, ho, h1, h2, h3⟩ := inv_pick hc
    simp only [dfn] at hn
    obtain ⟨k1, k2, k3, k4⟩ := hn
    have hgc : (s.rd c').good := by revert k2; cases s.rd c' <;> simp [AV.isB, AV.good]
    have hb := h.rd h1 k1 hgc
    obtain ⟨b, hb'⟩ : ∃ b, s.rd c' = .bool b := by revert k2; cases s.rd c' <;> simp [AV.isB]
    rw [hb'] at hb k3 k4
    simp only [Rep] at hb
    simp only [val, hb']
    cases b
    · refine ⟨a.eval y, by simp [execOp, ho, hb, asBool], ?_⟩
      simp only [AV.toB, Bool.false_eq_true, if_false]
      exact h.rd h3 (k4 rfl).1 (k4 rfl).2
    · refine ⟨a.eval x, by simp [execOp, ho, hb, asBool], ?_⟩
      simp only [AV.toB, if_true]
      exact h.rd h2 (k3 rfl).1 (k3 rfl).2
  case bin op ex x' y' =>
    obtain ⟨t, x, y, u, ho, h1, h2⟩ := inv_bin hc
    simp only [dfn] at hn
    obtain ⟨k1, k2, k3⟩ := hn
    obtain ⟨v, e1, e2⟩ := run_bin (P := P) op ex t x y (h.rd h1 k1 (dBin_good k3).1) (h.rd h2 k2 (dBin_good k3).2) k3
    refine ⟨v, ?_, e2⟩
    simp only [execOp, ho]
    rw [Sem.run_bind, e1]
    rfl
  case beq ne sh x' y' =>
    obtain ⟨t, x, y, u, ho, ht, h1, h2⟩ := inv_beq hc
    simp only [dfn] at hn
    obtain ⟨k1, k2, k3⟩ := hn
    have g : (s.rd x').good ∧ (s.rd y').good := by revert k3; cases sh <;> cases s.rd x' <;> cases s.rd y' <;> simp [dBeq, AV.good]
    obtain ⟨v, e1, e2⟩ := run_beq (P := P) ne sh t ht _ rfl x y (h.rd h1 k1 g.1) (h.rd h2 k2 g.2) k3
    refine ⟨v, ?_, e2⟩
    simp only [execOp, ho]
    rw [Sem.run_bind, e1]
    rfl
  case un op x' =>
    obtain ⟨t, x, ho, h1⟩ := inv_un hc
    simp only [dfn] at hn
    have g : (s.rd x').good := by have := hn.2; revert this; cases s.rd x' <;> simp [dUn, AV.good]
    obtain ⟨v, e1, e2⟩ := run_un (P := P) op (h.rd h1 hn.1 g) hn.2
    exact ⟨v, by simp [execOp, ho, e1], e2⟩
  case conv ex k x' =>
    obtain ⟨src, dst, x, ho, hs, hd, h1⟩ := inv_conv hc
    simp only [dfn] at hn
    have g : (s.rd x').good := by have := hn.2; revert this; cases s.rd x' <;> simp [dConv, AV.good]
    obtain ⟨v, e1, e2⟩ := run_conv ex k src dst hs hd (h.rd h1 hn.1 g) hn.2
    exact ⟨v, by simp [execOp, ho, e1], e2⟩
  case b2s x' =>
    obtain ⟨src, dst, x, ho, hs, hd, h1⟩ := inv_b2s hc
    simp only [dfn] at hn
    have g : (s.rd x').good := by have := hn.2; revert this; cases s.rd x' <;> simp [dB2s, AV.good]
    obtain ⟨v, e1, e2⟩ := run_b2s src dst hs hd (h.rd h1 hn.1 g) hn.2
    exact ⟨v, by simp [execOp, ho, e1], e2⟩
  case len str x' =>
    obtain ⟨x, t, ho, ht, h1⟩ := inv_len hc
    simp only [dfn] at hn
    have g : (s.rd x').good := by have := hn.2; revert this; cases str <;> cases s.rd x' <;> simp [dLen, AV.good]
    obtain ⟨v, e1, e2⟩ := run_len t o.type str ht (h.rd h1 hn.1 g) hn.2
    exact ⟨v, by simp [execOp, ho, resolve, invoke, builtin, e1], e2⟩
  case sidx x' i' =>
    obtain ⟨t, x, i, ho, ht, h1, h2⟩ := inv_sidx hc
    simp only [dfn] at hn
    have g : (s.rd x').good ∧ (s.rd i').good := by have := hn.2.2; revert this; cases s.rd x' <;> cases s.rd i' <;> simp [dSidx, AV.good]
    obtain ⟨v, e1, e2⟩ := run_sidx t ht (h.rd h1 hn.1 g.1) (h.rd h2 hn.2.1 g.2) hn.2.2
    exact ⟨v, by simp [execOp, ho, e1], e2⟩
  case ssl x' lo' hi' =>
    obtain ⟨t, x, lo, hi, ho, ht, h1, h2, h3⟩ := inv_ssl hc
    simp only [dfn] at hn
    obtain ⟨k1, k2, k3, k4⟩ := hn
    have g : (s.rd x').good := by revert k4; cases s.rd x' <;> simp [dSsl, AV.good]
    obtain ⟨v, e1, e2⟩ := run_ssl t ht (lo.map a.eval) (hi.map a.eval) _ _ (h.rd h1 k1 g) k4 (lo_run h h2 k2) (hi_run h _ h3 k3)
    exact ⟨v, by simp [execOp, ho, e1], e2⟩
  case slsl sz x' lo' hi' =>
    obtain ⟨t, x, lo, hi, ho, ht, h1, h2, h3⟩ := inv_slsl hc
    simp only [dfn] at hn
    obtain ⟨k1, k2, k3, k4⟩ := hn
    have g : (s.rd x').good := by revert k4; cases s.rd x' <;> simp [dSlsl, AV.good]
    obtain ⟨v, e1, e2⟩ := run_slsl t sz ht (lo.map a.eval) (hi.map a.eval) _ _ (h.rd h1 k1 g) k4 (lo_run h h2 k2) (hi_run h _ h3 k3)
    exact ⟨v, by simp [execOp, ho, e1], e2⟩
  case idxG g sz n xs i' =>
    obtain ⟨t, i, ho, h1, h2, h3⟩ := inv_idxG hc
    simp only [dfn] at hn
    obtain ⟨k3, k4, k5, k6, k7⟩ := hn
    have hat := (globIs_rep h2 (hG.agree h.gl))
    obtain ⟨k, hi'⟩ := int_run (h.rd h3 k3 (isI_good k4)) k4
    unfold arrIs at h1
    split at h1
    · rename_i m e he
      simp only [Bool.and_eq_true, beq_iff_eq] at h1
      obtain ⟨rfl, hsz⟩ := h1
      obtain ⟨j, hj, hjs⟩ := szIs_iff hsz
      have hev : a.eval (.global g) = .pointer (some ⟨g, 0, none⟩) := rfl
      refine ⟨.pointer (some ⟨g, (s.rd i').toI.toNat * sz, none⟩), by simp [execOp, ho, hev, hi', Instr.indexAt, asIntOf, run_underlying he, Instr.sureAddr, k5, k6, sizeOf, typeInfo, hj, hjs, Addr.add_lit], ?_⟩
      simp only [val, Rep]
      refine ⟨g, _, rfl, ?_⟩
      have := repAt_drop xs g 0 ((s.rd i').toI.toNat * sz) hat
      rwa [Nat.zero_add] at this
    · cases h1
  case loadG g n agg xs =>
    obtain ⟨t, ho, ht, ha, h2⟩ := inv_loadG hc
    simp only [dfn] at hn
    have hat := (globIs_rep h2 (hG.agree h.gl))
    obtain ⟨vs, q1, q2, q3⟩ := repAt_list xs g 0 hat
    obtain ⟨v, e1, e2⟩ := run_loadVar_at (P := P) t n agg ht ha xs g 0 ⟨vs, q1, q3⟩ hn
    have hev : a.eval (.global g) = .pointer (some ⟨g, 0, none⟩) := rfl
    exact ⟨v, by simp [execOp, ho, hev, Instr.loadAt, Instr.sureAddr, e1], by simp only [val]; exact e2⟩
  case idxA sz x' i' =>
    obtain ⟨t, x, i, ho, ht, h1, h2⟩ := inv_idxA hc
    simp only [dfn] at hn
    have g : (s.rd x').good ∧ (s.rd i').good := by have := hn.2.2; revert this; cases s.rd x' <;> cases s.rd i' <;> simp [dIdxA, AV.good]
    obtain ⟨v, e1, e2⟩ := run_idxA t sz ht (h.rd h1 hn.1 g.1) (h.rd h2 hn.2.1 g.2) hn.2.2
    exact ⟨v, by simp [execOp, ho, e1], e2⟩
  case fldP off x' =>
    obtain ⟨t, x, f, ho, ht, h1⟩ := inv_fldP hc
    simp only [dfn] at hn
    have g : (s.rd x').good := by have := hn.2; revert this; cases s.rd x' <;> simp [dFldP, AV.good]
    obtain ⟨v, e1, e2⟩ := run_fldP ht (h.rd h1 hn.1 g) hn.2
    exact ⟨v, by simp [execOp, ho, e1], e2⟩
  case loadP x' n agg =>
    obtain ⟨t, x, ho, ht, ha, h1⟩ := inv_loadP hc
    simp only [dfn] at hn
    obtain ⟨k1, k2, k3⟩ := hn
    obtain ⟨xs, hx⟩ : ∃ xs, s.rd x' = .ptr xs := by revert k2; cases s.rd x' <;> simp [AV.isPtr]
    have hr := h.rd h1 k1 (by rw [hx]; trivial)
    rw [hx] at hr k3
    simp only [Rep] at hr
    obtain ⟨b, off, hv, hat⟩ := hr
    obtain ⟨vs, q1, q2, q3⟩ := repAt_list xs b off hat
    obtain ⟨v, e1, e2⟩ := run_loadVar_at (P := P) t n agg ht ha xs b off ⟨vs, q1, q3⟩ k3
    exact ⟨v, by simp [execOp, ho, hv, Instr.loadAt, Instr.sureAddr, e1], by simp only [val, hx, AV.inner]; exact e2⟩
  case loadB t' n agg =>
    obtain ⟨t, x, ho, ht, ha, h1⟩ := inv_loadB hc
    simp only [dfn] at hn
    obtain ⟨k1, k2, k3⟩ := hn
    obtain ⟨xs, hx⟩ : ∃ xs, s.env t' = .box xs := by revert k2; cases s.env t' <;> simp [AV.isBox]
    have hr := h.rep t' k1
    rw [hx] at hr k3
    simp only [RepTop] at hr
    obtain ⟨hv, c, e, q1, q2, q3⟩ := hr
    have hv' : a.eval x = .pointer (some ⟨β t', 0, none⟩) := by rw [chkV_t h1]; exact hv
    obtain ⟨v, e1, e2⟩ := run_loadVar_at (P := P) t n agg ht ha xs (β t') 0 ⟨c.toList, q2, fun j v hj => by rw [cell_of_heap q1]; simpa using hj⟩ k3
    exact ⟨v, by simp [execOp, ho, hv', Instr.loadAt, Instr.sureAddr, e1], by simp only [val, hx, AV.inner]; exact e2⟩
  case loadO t' n agg =>
    obtain ⟨t, x, ho, ht, ha, h1⟩ := inv_loadO hc
    simp only [dfn] at hn
    obtain ⟨k1, k2, k3, k4⟩ := hn
    obtain ⟨hv, c, e, q1, q2, _⟩ := h.cellsO k1 k2
    have hv' : a.eval x = .pointer (some ⟨β t', 0, none⟩) := by rw [chkV_t h1]; exact hv
    obtain ⟨ys, cs, g1, g2, g3, g4⟩ := q2.shared k3 k4
    obtain ⟨v, e1, e2⟩ := run_loadVar_at (P := P) t n agg ht ha ys (β t') 0 ⟨cs, g1, fun j v hj => by rw [cell_of_heap q1]; exact g2 j v hj⟩ g3
    exact ⟨v, by simp [execOp, ho, hv', Instr.loadAt, Instr.sureAddr, e1], by simp only [val]; rw [← g4]; exact e2⟩
  case loadRO x' b n agg =>
    obtain ⟨t, x, ho, ht, ha, h1⟩ := inv_loadRO hc
    simp only [dfn] at hn
    obtain ⟨k1, k2, kr, k3, k4, kg, k5⟩ := hn
    obtain ⟨off, hx⟩ : ∃ off, s.env x' = .ref b off := by
      revert k2; cases s.env x' <;> simp [AV.refTo]
    have hp := (h.refs x' b k1 kr).1 off hx
    have hv' : a.eval x = .pointer (some ⟨β b, off, none⟩) := by rw [chkV_t h1]; exact hp
    rw [hx] at k5 kg
    simp only [AV.refOff] at k5 kg
    simp only [val, hx, AV.refOff]
    obtain ⟨hv, c, e, q1, q2, _⟩ := h.cellsO k3 k4
    obtain ⟨ys, cs, g1, g2, g3, g4⟩ := q2.shared kg k5
    obtain ⟨v, e1, e2⟩ := run_loadVar_at (P := P) t n agg ht ha ys (β b) off ⟨cs, g1, fun j v hj => by rw [cell_of_heap q1]; exact g2 j v hj⟩ g3
    exact ⟨v, by simp [execOp, ho, hv', Instr.loadAt, Instr.sureAddr, e1], by rw [← g4]; exact e2⟩
  case loadR x' b n agg =>
    obtain ⟨t, x, ho, ht, ha, h1⟩ := inv_loadR hc
    simp only [dfn] at hn
    obtain ⟨k1, k2, kr, k3, k4, k5⟩ := hn
    obtain ⟨off, hx⟩ : ∃ off, s.env x' = .ref b off := by
      revert k2; cases s.env x' <;> simp [AV.refTo]
    have hp := (h.refs x' b k1 kr).1 off hx
    have hv' : a.eval x = .pointer (some ⟨β b, off, none⟩) := by rw [chkV_t h1]; exact hp
    rw [hx] at k5
    simp only [AV.refOff] at k5
    simp only [val, hx, AV.refOff]
    rcases h.ownCells k3 k4 with ⟨sz, hnil, htm⟩ | ⟨c, e, lo, hi, q1, q2, q3, q4, q5⟩
    · rw [hnil] at k5 ⊢
      simp only [AV.inner] at k5 ⊢
      have hd0 : dPart 0 n agg ([] : List AV) := by
        unfold dPart at k5 ⊢
        cases agg
        · simp only [Bool.false_eq_true, if_false, List.length_nil] at k5; omega
        · simp only [if_true, List.length_nil] at k5 ⊢; omega
      obtain ⟨v, e1, e2⟩ := run_loadVar_at (P := P) t n agg ht ha [] (β b) off (w := w) (F := F) ⟨[], by simp only [RepL], fun j v hj => by simp at hj⟩ hd0
      refine ⟨v, by simp [execOp, ho, hv', Instr.loadAt, Instr.sureAddr, e1], ?_⟩
      have : aPart off n agg ([] : List AV) = aPart 0 n agg [] := by unfold aPart; cases agg <;> simp
      rw [this]; exact e2
    generalize (s.env b).inner = xs at k5 q2 q3 q5 ⊢
    have hd0 : dPart 0 n agg (xs.drop off) := by
      unfold dPart at k5 ⊢
      cases agg
      · simp only [Bool.false_eq_true, if_false, List.length_drop] at k5 ⊢; omega
      · simp only [if_true, List.length_drop] at k5 ⊢; omega
    obtain ⟨v, e1, e2⟩ := run_loadVar_at (P := P) t n agg ht ha (xs.drop off) (β b) off ⟨(c.toList.take xs.length).drop off, repL_drop _ _ _ q3, fun j v hj => by
      rw [cell_of_heap q1]; rw [List.getElem?_drop, List.getElem?_take] at hj; split at hj
      · simpa using hj
      · cases hj⟩ hd0
    refine ⟨v, by simp [execOp, ho, hv', Instr.loadAt, Instr.sureAddr, e1], ?_⟩
    have : aPart off n agg xs = aPart 0 n agg (xs.drop off) := by
      unfold aPart; cases agg <;> simp [List.getD]
    rw [this]; exact e2
  case fld off n agg x' =>
    obtain ⟨t, x, f, ho, ht, h1⟩ := inv_fld hc
    simp only [dfn] at hn
    obtain ⟨k1, k2, k3⟩ := hn
    obtain ⟨xs, hx⟩ : ∃ xs, s.rd x' = .agg xs := by revert k2; cases s.rd x' <;> simp [AV.isAgg]
    have hr := h.rd h1 k1 (by rw [hx]; trivial)
    rw [hx] at hr k3
    simp only [Rep] at hr
    obtain ⟨cs, hv, hcs⟩ := hr
    unfold fieldTy at ht
    split at ht
    · rename_i fields hu
      split at ht
      · rename_i fl hf
        simp only [Bool.and_eq_true, beq_iff_eq] at ht
        obtain ⟨v, e1, e2⟩ := run_part (P := P) fl.type n agg ht.2 ht.1.2 xs cs hcs off k3
        refine ⟨v, ?_, by simp only [val, hx, AV.inner]; exact e2⟩
        simp [execOp, ho, hv, Instr.field, run_underlying hu, hf, asAgg, ht.1.1, e1]
      · cases ht
    · cases ht
  case aidx sz len agg x' i' =>
    obtain ⟨t, x, i, e, ho, hu, hsz, ha, h1, h2⟩ := inv_aidx hc
    simp only [dfn] at hn
    obtain ⟨k1, k2, k3, k4, k5, k6, k7⟩ := hn
    obtain ⟨xs, hx⟩ : ∃ xs, s.rd x' = .agg xs := by revert k2; cases s.rd x' <;> simp [AV.isAgg]
    have hr := h.rd h1 k1 (by rw [hx]; trivial)
    obtain ⟨k, hi⟩ := int_run (h.rd h2 k3 (by revert k4; cases s.rd i' <;> simp [AV.isI, AV.good])) k4
    rw [hx] at hr k7
    simp only [Rep] at hr
    obtain ⟨cs, hv, hcs⟩ := hr
    obtain ⟨v, e1, e2⟩ := run_part (P := P) e sz agg hsz ha xs cs hcs _ k7
    obtain ⟨j, hj, hjs⟩ := szIs_iff hsz
    refine ⟨v, ?_, by simp only [val, hx, AV.inner]; exact e2⟩
    simp [execOp, ho, hv, hi, Instr.index, asIntOf, run_underlying hu, k5, k6, sizeOf, typeInfo, hj, hjs, e1]
  case s2aP n x' =>
    obtain ⟨t, e, x, ho, hu, h1⟩ := inv_s2aP hc
    simp only [dfn] at hn
    obtain ⟨k1, k2⟩ := hn
    obtain ⟨xs, m, hx⟩ : ∃ xs m, s.rd x' = .sl xs m := by revert k2; cases s.rd x' <;> simp [AV.hasN]
    rw [hx] at k2
    simp only [AV.hasN] at k2
    have hv := h.rd h1 k1 (by rw [hx]; trivial)
    rw [hx] at hv
    simp only [Rep] at hv
    obtain ⟨ao, c, q1, q2, q3, q4⟩ := hv
    rcases q4 with ⟨_, rfl⟩ | ⟨b, off, rfl, q4⟩
    · omega
    · refine ⟨.pointer (some ⟨b, off, none⟩), ?_, by simp only [val, hx, AV.inner, Rep]; exact ⟨b, off, rfl, q4⟩⟩
      simp [execOp, ho, Instr.arrayAt, run_underlying hu, q1]
      omega
  case mkI t x' =>
    obtain ⟨x, ho, ht, h1⟩ := inv_mkI hc
    simp only [dfn] at hn
    refine ⟨.iface t (a.eval x), ?_, by simp only [val, Rep]; exact ⟨_, rfl, h.rd h1 hn.1 hn.2⟩⟩
    simp only [execOp, ho]
    rw [Sem.run_bind, run_makeI ht]
    rfl
  case isNil p ne x' =>
    obtain ⟨t, x, y, u, ho, ht, h1⟩ := inv_isNil hc
    simp only [dfn] at hn
    have g : (s.rd x').good := by have := hn.2; revert this; cases p <;> cases s.rd x' <;> simp [dIsNil, AV.good]
    obtain ⟨v, e1, e2⟩ := run_isNil (P := P) (a := a) p ne ht x (h.rd h1 hn.1 g) hn.2
    refine ⟨v, ?_, e2⟩
    simp only [execOp, ho]
    rw [Sem.run_bind, e1]
    rfl
  case isNilS ne x' =>
    obtain ⟨t, x, u, e, ho, hu, h1⟩ := inv_isNilS hc
    simp only [dfn] at hn
    have g : (s.rd x').good := by have := hn.2; revert this; cases s.rd x' <;> simp [dNilS, AV.good]
    obtain ⟨v, e1, e2⟩ := run_isNilS (P := P) (w := w) (a := a) ne hu x (h.rd h1 hn.1 g) hn.2
    refine ⟨v, ?_, e2⟩
    simp only [execOp, ho]
    rw [Sem.run_bind, e1]
    rfl
  case asI t ok z x' =>
    obtain ⟨x, u, ho, ht, hz, h1⟩ := inv_asI hc
    simp only [dfn] at hn
    have g : (s.rd x').good := by have := hn.2; revert this; cases s.rd x' <;> simp [dAsI, AV.good]
    obtain ⟨v, e1, e2⟩ := run_asI (P := P) ok u ht hz (h.rd h1 hn.1 g) hn.2
    exact ⟨v, by simp only [execOp, ho]; rw [Sem.run_bind, e1]; rfl, e2⟩
  case mkF f as bs =>
    obtain ⟨first, captured, ho, h1, h2⟩ := inv_mkF hc
    simp only [dfn] at hn
    refine ⟨.func (.func f) (first.map a.eval) (captured.map a.eval), by simp [execOp, ho, Instr.makeFunc], ?_⟩
    simp only [val, Rep]
    exact ⟨_, _, rfl, by rw [Array.toList_map]; exact vals_rep h _ _ h1 hn.1, by rw [Array.toList_map]; exact vals_rep h _ _ h2 hn.2⟩
  case build zero parts' =>
    obtain ⟨t, parts, ho, hz, hcase⟩ := inv_build hc
    simp only [dfn] at hn
    obtain ⟨i, z, hi, hzz, hzs⟩ := zeroIs_iff hz
    have hlen := cAVs_len hzs
    simp only [Array.length_toList] at hlen
    rw [hlen] at hn
    rcases hcase with ⟨fields, hu, hp, hall⟩ | ⟨n, e, j, hu, hj, hp⟩
    · obtain ⟨cs, e1, e2, _⟩ := fill_ok (w := w) (F := F) _ s a (fun o x hc hk hg => h.rd hc hk hg) parts.toList parts' zero z.cells hp hn (cAVs_rep hzs)
      refine ⟨.agg cs, ?_, by simp only [val, Rep]; exact ⟨cs, rfl, e2⟩⟩
      have hpl : (fun x => (fields.map fun f => (f.offset, P.cellsOf f.type))[x]?) = fieldPl P fields := by
        funext x
        unfold fieldPl
        rw [Array.getElem?_map]
        cases hf : fields[x]? with
        | none => rfl
        | some fl =>
          have : (P.info? fl.type).isSome = true := by
            obtain ⟨hlt, he⟩ := Array.getElem?_eq_some_iff.1 hf
            rw [← he]
            exact Array.all_eq_true.1 hall x hlt
          obtain ⟨q, hq⟩ := Option.isSome_iff_exists.1 this
          simp [hq, Program.cellsOf]
      have hm := mapM_places (P := P) (w := w) fields hall
      simp only [execOp, ho, Instr.build, Sem.run_bind, zeroValue, typeInfo, run_program, Result.andThen_ok, hi, Sem.run_pure, hzz, run_underlying hu, hm, hpl]
      rw [show (parts.map fun x => (x.1, a.eval x.2)).toList = parts.toList.map fun p => (p.1, a.eval p.2) by simp]
      rw [e1]
      rfl
    · obtain ⟨cs, e1, e2, _⟩ := fill_ok (w := w) (F := F) _ s a (fun o x hc hk hg => h.rd hc hk hg) parts.toList parts' zero z.cells hp hn (cAVs_rep hzs)
      refine ⟨.agg cs, ?_, by simp only [val, Rep]; exact ⟨cs, rfl, e2⟩⟩
      simp only [execOp, ho, Instr.build, Sem.run_bind, zeroValue, typeInfo, run_program, Result.andThen_ok, hi, Sem.run_pure, hzz, run_underlying hu, sizeOf, hj]
      rw [show (parts.map fun x => (x.1, a.eval x.2)).toList = parts.toList.map fun p => (p.1, a.eval p.2) by simp]
      rw [e1]
      rfl
  case ext x' i' =>
    obtain ⟨x, ho, h1⟩ := inv_ext hc
    simp only [dfn] at hn
    obtain ⟨k1, k2, k3⟩ := hn
    obtain ⟨xs, hx⟩ : ∃ xs, s.rd x' = .tup xs := by revert k2; cases s.rd x' <;> simp [AV.isTup]
    have hr := h.rd h1 k1 (by rw [hx]; trivial)
    rw [hx] at hr k3
    simp only [Rep] at hr
    simp only [AV.inner] at k3
    obtain ⟨cs, hv, hcs⟩ := hr
    obtain ⟨v, q1, q2, q3⟩ := repL_get xs cs.toList i' k3 hcs
    have q1' : cs[i']? = some v := by simpa using q1
    refine ⟨v, by simp [execOp, ho, hv, Instr.extract, q1'], ?_⟩
    simp only [val, hx, AV.inner]
    rw [List.getD_eq_getElem?_getD, List.getElem?_eq_getElem k3]
    exact q3
  case mm mx x' y' =>
    obtain ⟨x, y, ts, ho, h1, h2⟩ := inv_mm hc
    simp only [dfn] at hn
    obtain ⟨k1, k2, k3, k4⟩ := hn
    have hx := h.rd h1 k1 (isI_good k3)
    have hy := h.rd h2 k2 (isI_good k4)
    simp only [val]
    revert hx hy k3 k4
    cases s.rd x' <;> simp only [AV.isI, false_implies, true_implies, implies_true]
    rename_i k m
    cases s.rd y' <;> simp only [AV.isI, false_implies, true_implies, implies_true, Rep]
    rename_i k' m'
    intro hx hy
    cases mx
    · refine ⟨.int k (if m' < m then m' else m), ?_, by simp [aMm, Rep]⟩
      simp [execOp, ho, hx, hy, resolve, invoke, builtin, run_min_int2]
    · refine ⟨.int k (if m < m' then m' else m), ?_, by simp [aMm, Rep]⟩
      simp [execOp, ho, hx, hy, resolve, invoke, builtin, run_max_int2]
  case lenM x' b =>
    obtain ⟨x, t, ho, ht, h1⟩ := inv_lenM hc
    simp only [dfn] at hn
    obtain ⟨k1, k2, k3, sz, k4⟩ := hn
    obtain ⟨⟨ao, c, q1, _⟩, _⟩ := h.view k1 k2 k3 k4
    obtain ⟨e, he⟩ := isSl_iff ht
    have hv : a.eval x = .slice ao ((s.env b).vLen (s.env x')) c := by rw [chkV_t h1]; exact q1
    refine ⟨.int .i64 ((s.env b).vLen (s.env x')), ?_, by simp only [val, Rep]⟩
    simp [execOp, ho, hv, resolve, invoke, builtin, Builtin.len_, Builtin.lenOf, run_underlying he]
    rfl
  case b2sM x' b =>
    obtain ⟨src, dst, x, ho, hs, hd, h1⟩ := inv_b2sM hc
    simp only [dfn] at hn
    obtain ⟨k1, k2, k3, k4, k5⟩ := hn
    obtain ⟨q1, q2⟩ := h.viewRep k1 k2 k3 k4
    have hv : a.eval x = tm a x' := by rw [chkV_t h1]; rfl
    rw [← hv] at q1
    obtain ⟨v, e1, e2⟩ := run_b2s src dst hs hd q1 ⟨by simpa using q2, k5⟩
    refine ⟨v, by simp [execOp, ho, e1], ?_⟩
    simpa only [val, aB2s, Rep] using e2
end
end Go.Proofs.Ytbikpgaiocjnoaa.Pad
