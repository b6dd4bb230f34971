/- Regions in the text's order, code, and functions. -/
import Derived.Test.YtbikpgaiocjnoaaE9
import Derived.Orders
set_option linter.unusedVariables false
set_option linter.unusedSimpArgs false
namespace Go.Proofs.Ytbikpgaiocjnoaa.Pad

theorem chkROs_len {P : Program} [Globs P] {nt : Nat} {ops : Array Oper} : ∀ {os : List Oper} {rs : List RO}, chkROs P nt ops os rs = true → os.length = rs.length
  | [], [], _ => rfl
  | [], _ :: _, h => by simp [chkROs] at h
  | _ :: _, [], h => by simp [chkROs] at h
  | o :: os, r :: rs, h => by
    simp only [chkROs, Bool.and_eq_true] at h
    simp [chkROs_len h.2]
theorem chkROs_get {P : Program} [Globs P] {nt : Nat} {ops : Array Oper} : ∀ {os : List Oper} {rs : List RO} {i : Nat} {o : Oper}, chkROs P nt ops os rs = true → os[i]? = some o → ∃ r, rs[i]? = some r ∧ chkRO P nt ops o r = true
  | [], [], i, o, _, h => by simp at h
  | [], _ :: _, _, _, h, _ => by simp [chkROs] at h
  | _ :: _, [], _, _, h, _ => by simp [chkROs] at h
  | o :: os, r :: rs, 0, o', h, h' => by
    simp only [chkROs, Bool.and_eq_true] at h
    simp at h'
    exact ⟨r, rfl, h' ▸ h.1⟩
  | o :: os, r :: rs, i + 1, o', h, h' => by
    simp only [chkROs, Bool.and_eq_true] at h
    simpa using chkROs_get h.2 (by simpa using h')

def WI (T : Tab) (rs : List RO) : List Nat → (St → Prop) → St → Prop
  | [], Q, s => Q s
  | i :: l, Q, s => ∃ r, rs[i]? = some r ∧ need T r s ∧ WI T rs l Q (step T r s)

theorem WI_of_WR (T : Tab) (Q : St → Prop) (rs : List RO) : ∀ (k : Nat) (s : St), k ≤ rs.length → WR T (rs.drop k) Q s → WI T rs (List.range' k (rs.length - k)) Q s := by
  intro k
  generalize hm : rs.length - k = m
  induction m generalizing k with
  | zero =>
    intro s hk h
    rw [List.drop_eq_nil_of_le (by omega)] at h
    exact h
  | succ m ih =>
    intro s hk h
    have hlt : k < rs.length := by omega
    rw [List.drop_eq_getElem_cons hlt] at h
    simp only [WR] at h
    rw [List.range'_succ]
    exact ⟨rs[k], List.getElem?_eq_getElem hlt, h.1, ih (k + 1) (by omega) _ (by omega) h.2⟩

section
variable {P : Program} [Globs P] {nt : Nat} {w0 : World} {S0 F0 : Fp} {fx : List (Nat × Value)}

/-- The state stands for these; these temporaries are what they were. -/
def RX (nt : Nat) (w0 : World) (S0 F0 : Fp) (fx : List (Nat × Value)) (s : St) (a : Act) (w : World) : Prop := (∃ F O β, RR nt w0 S0 F0 F O β s a w) ∧ ∀ p ∈ fx, tm a p.1 = p.2
theorem put_tm {a : Act} {d : Option Nat} {v : Value} {t : Nat} (h : d ≠ some t) : tm (a.put d v) t = tm a t := by
  cases d with
  | none => rfl
  | some d =>
    have hne : ¬ d = t := fun e => h (by rw [e])
    unfold tm Act.put
    simp only [Array.getD_eq_getD_getElem?, Array.getElem?_setIfInBounds, if_neg hne]
/-- What an operation doesn't yield stays. -/
theorem wp_tm {P : Program} {fx : List (Nat × Value)} {o : Oper} {a : Act} {w : World} {K : Act → World → Prop} {Q : Exit → Act → World → Prop} (hf : ∀ p ∈ fx, o.dst ≠ some p.1 ∧ tm a p.1 = p.2) (hh : o.wp P a w K Q) : o.wp P a w (fun a' w' => K a' w' ∧ ∀ p ∈ fx, tm a' p.1 = p.2) Q := by
  have hp : ∀ v, ∀ p ∈ fx, tm (a.put o.dst v) p.1 = p.2 := fun v p h => (put_tm (hf p h).1).trans (hf p h).2
  unfold Oper.wp at *
  generalize (execOp a.eval o).run P w = r at *
  cases r with
  | ok n w' =>
    cases n <;> simp only [Oper.upon] at hh ⊢
    all_goals first
      | exact ⟨hh, hp _⟩
      | exact ⟨hh, fun p h => (put_tm (a := { a with defers := _ :: a.defers }) (hf p h).1).trans (hf p h).2⟩
      | exact Rows.mono hh (fun _ _ he => ⟨he, hp _⟩)
      | exact Calls.mono hh (fun e w'' he => by cases e <;> first | exact ⟨he, hp _⟩ | exact he)
  | halt x w' => cases x <;> simp only [Oper.upon] at hh ⊢ <;> exact hh

theorem wanted_iff {F : Fp} {O : Nat → Fp} {β : Nat → Nat} {s : St} {a : Act} {w : World} {ops : Array Oper} {o : Oper} {t : Nat} {b : Bool} (h : RR nt w0 S0 F0 F O β s a w) {j : Nat} (hg : o.guard = some (j, b)) (hj : (ops[j]?).bind (·.dst) = some t)
    (hK : s.K t = true) (hB : s.D t → (s.env t).isB) : (Region.wanted o (yielded ops a.tmps) = true ↔ gd s (some (t, b))) := by
  unfold Region.wanted
  rw [hg]
  simp only [gd]
  by_cases hD : s.D t
  · have hr := h.rep t hD
    obtain ⟨b', hb'⟩ : ∃ b', s.env t = .bool b' := by have := hB hD; revert this; cases s.env t <;> simp [AV.isB]
    rw [hb'] at hr
    simp only [RepTop, Rep] at hr
    have hget : a.tmps[t]? = some (.bool b') := by
      unfold tm at hr
      rw [Array.getD_eq_getD_getElem?] at hr
      cases hx : a.tmps[t]? with
      | none => rw [hx] at hr; simp [undef] at hr
      | some v => rw [hx] at hr; simp at hr; rw [hr]
    have hy : yielded ops a.tmps j = some b' := by
      unfold yielded
      rw [hj]
      simp [hget]
    rw [hy, hb']
    simp [AV.toB, hD]
  · have hu := h.und t hK hD
    have hy : yielded ops a.tmps j = none := by
      unfold yielded
      rw [hj]
      unfold tm at hu
      rw [Array.getD_eq_getD_getElem?] at hu
      cases hx : a.tmps[t]? with
      | none => simp [hx]
      | some v => rw [hx] at hu; simp at hu; subst hu; simp [hx, undef]
    rw [hy]
    simp [hD]

theorem plain_pre {T : Tab} {r : R1} (h : r.plain = true) (s : St) : pre T s r = s := by
  cases r <;> simp [R1.plain] at h <;> try rfl
  rename_i f args
  simp only [pre]
  induction args with
  | nil => rfl
  | cons p args ih =>
    obtain ⟨b, y⟩ := p
    cases b
    · simp only [giveArgs]
      exact ih (fun a h' => h a (List.mem_cons_of_mem _ h'))
    · exact (h y (List.mem_cons_self ..)).elim

/-- One operation, wanted or not. -/
theorem op_ok {T : Tab} (hT : SoundG P T w0 F0) {ops : Array Oper} {rs : List RO} (hc : chkROs P nt ops ops.toList rs = true) {s : St} {a : Act} {w : World} (h : RX nt w0 S0 F0 fx s a w) {i : Nat} {r : RO} (hr : rs[i]? = some r) (hz : ∀ p ∈ fx, r.d ≠ some p.1) (hn : need T r s)
    {K : Act → World → Prop} {Q : Exit → Act → World → Prop} (hK : ∀ a' w', RX nt w0 S0 F0 fx (step T r s) a' w' → K a' w') : wpOp P ops Q i K a w := by
  have hlen := chkROs_len hc
  have hi : i < ops.size := by
    have := (List.getElem?_eq_some_iff.1 hr).1
    simp at hlen; omega
  have ho : ops[i]? = some ops[i] := Array.getElem?_eq_getElem hi
  obtain ⟨r', hr', hchk⟩ := chkROs_get (i := i) (o := ops[i]) hc (by simp [hi])
  rw [hr] at hr'
  cases hr'
  obtain ⟨⟨F, O, β, hRR⟩, hfx⟩ := h
  unfold wpOp
  rw [ho]
  simp only
  obtain ⟨n1, n2⟩ := hn
  have hchk' := hchk
  unfold chkRO at hchk'
  simp only [Bool.and_eq_true] at hchk'
  obtain ⟨⟨⟨hd, hcop⟩, hgd⟩, hx⟩ := hchk'
  have hdr : ops[i].dst = r.d := by
    revert hd
    cases ops[i].dst <;> cases r.d <;> simp
    exact fun h _ => h
  have hfd : ∀ p ∈ fx, ops[i].dst ≠ some p.1 ∧ tm a p.1 = p.2 := fun p hp => ⟨by rw [hdr]; exact hz p hp, hfx p hp⟩
  have via : ∀ {K' : Act → World → Prop}, ops[i].wp P a w K' Q → (∀ a' w', K' a' w' → (∀ p ∈ fx, tm a' p.1 = p.2) → K a' w') → ops[i].wp P a w K Q := fun h1 h2 => Oper.wp_mono (fun a' w' hh => h2 a' w' hh.1 hh.2) (wp_tm hfd h1)
  cases hg : r.g with
  | none =>
    rw [hg] at hgd n1
    cases hog : ops[i].guard with
    | some q => rw [hog] at hgd; simp at hgd
    | none =>
      have hw : Region.wanted ops[i] (yielded ops a.tmps) = true := by unfold Region.wanted; rw [hog]
      rw [if_pos hw]
      exact .inl (via (K' := fun a' w' => ∃ F' O' β', RR nt w0 S0 F0 F' O' β' (step T r s) a' w') (step_ok hT hRR hchk (by rw [hg]; trivial) (n1 trivial) fun F' O' β' a' w' hh => ⟨F', O', β', hh⟩) fun a' w' hh hz => hK a' w' ⟨hh, hz⟩)
  | some q =>
    obtain ⟨t, b⟩ := q
    rw [hg] at hgd n1 n2
    simp only at n2
    obtain ⟨p2, p3, p1⟩ := n2
    cases hog : ops[i].guard with
    | none => rw [hog] at hgd; simp at hgd
    | some q' =>
      obtain ⟨j, b'⟩ := q'
      rw [hog] at hgd
      simp only [Bool.and_eq_true, beq_iff_eq] at hgd
      obtain ⟨rfl, hj⟩ := hgd
      have hj' : (ops[j]?).bind (·.dst) = some t := by
        split at hj
        · rename_i oj hoj; rw [hoj]; simpa using hj
        · cases hj
      have hiff := wanted_iff hRR hog hj' p2 p3
      by_cases hw : Region.wanted ops[i] (yielded ops a.tmps) = true
      · rw [if_pos hw]
        have hgt := hiff.1 hw
        exact .inl (via (K' := fun a' w' => ∃ F' O' β', RR nt w0 S0 F0 F' O' β' (step T r s) a' w') (step_ok hT hRR hchk (by rw [hg]; exact hgt) (n1 hgt) fun F' O' β' a' w' hh => ⟨F', O', β', hh⟩) fun a' w' hh hz => hK a' w' ⟨hh, hz⟩)
      · rw [if_neg hw]
        have hgf : ¬ gd s r.g := by rw [hg]; exact fun hh => hw (hiff.2 hh)
        have p1 : r.op.plain = true := p1.resolve_right fun hh => hgf (by rw [hg]; exact hh)
        refine hK _ _ ⟨?_, fun p hp => (put_tm (hfd p hp).1).trans (hfd p hp).2⟩
        have hst : (match r.op with | .stB .. | .stR .. => false | _ => true) = true := by revert p1; cases r.op <;> simp [R1.plain]
        rw [step_eq T r s hst, plain_pre p1]
        revert hd
        cases hod : ops[i].dst <;> cases hrd : r.d <;> intro hd <;> simp at hd
        · exact ⟨F, O, β, hRR⟩
        · obtain ⟨rfl, hlt⟩ := hd
          exact ⟨_, _, _, hRR.put0 hlt _ undef (gd s r.g) (fun hh => (hgf hh).elim) (fun hh => (hgf hh).elim) (fun _ => rfl)⟩

theorem wi_ok {T : Tab} (hT : SoundG P T w0 F0) {ops : Array Oper} {rs : List RO} (hc : chkROs P nt ops ops.toList rs = true) {Qs : St → Prop} {Q : Exit → Act → World → Prop} (hQ : ∀ s a w, RX nt w0 S0 F0 fx s a w → Qs s → Q .normal a w) :
    (hz : ∀ r ∈ rs, ∀ p ∈ fx, r.d ≠ some p.1) → ∀ (l : List Nat) (s : St) (a : Act) (w : World), RX nt w0 S0 F0 fx s a w → WI T rs l Qs s → wpOps P ops Q l a w
  | _, [], s, a, w, h, hw => hQ s a w h hw
  | hz, i :: l, s, a, w, h, hw => by
    obtain ⟨r, hr, hn, hw⟩ := hw
    rw [wpOps_cons]
    exact op_ok hT hc h hr (hz r (List.mem_of_getElem? hr)) hn fun a' w' h' => wi_ok hT hc hQ hz l _ a' w' h' hw

theorem St.env_keep (s : St) (V : List Nat) (t : Nat) : (s.keep V).env t = if t ∈ V then keepV s t (s.env t) else .bad := by
  induction V with
  | nil => simp [St.keep, St.env]
  | cons u V ih =>
    simp only [St.keep, St.env, ih, List.mem_cons]
    by_cases h : u = t
    · subst h; simp
    · simp [h, Ne.symm h]
theorem St.D_keep (s : St) (V : List Nat) (t : Nat) : (s.keep V).D t ↔ t ∈ V ∧ s.D t := by
  induction V with
  | nil => simp [St.keep, St.D]
  | cons u V ih =>
    simp only [St.keep, St.D, List.mem_cons]
    by_cases h : u = t
    · subst h; simp
    · simp [h, Ne.symm h, ih]
theorem St.K_keep (s : St) (V : List Nat) (t : Nat) : (s.keep V).K t = false := by
  induction V with
  | nil => rfl
  | cons u V ih => simp only [St.keep, St.K, ih]; split <;> rfl

theorem St.refOk_keep (s : St) (V : List Nat) (x b : Nat) (h : (s.keep V).refOk x b = true) : x ∈ V ∧ (keepV s x (s.env x)).isTo b = true := by
  induction V with
  | nil => simp [St.keep, St.refOk] at h
  | cons u V ih =>
    simp only [St.keep, St.refOk] at h
    by_cases e : u = x
    · subst e
      rw [if_pos rfl] at h
      exact ⟨List.mem_cons_self .., h⟩
    · rw [if_neg e, if_neg (by simp)] at h
      exact ⟨List.mem_cons_of_mem _ (ih h).1, (ih h).2⟩
theorem keepV_to {s : St} {t b : Nat} {x : AV} (h : (keepV s t x).isTo b = true) : (keepV s t x = x ∧ s.refOk t b = true) ∨ (keepV s t x = .al t ∧ b = t) := by
  cases x <;> simp only [keepV] at h ⊢ <;> first | (simp [AV.isTo] at h; done) | skip
  all_goals
    split at h
    · rename_i hk
      simp only [AV.isTo, beq_iff_eq] at h
      subst h
      rw [if_pos hk]
      exact .inl ⟨rfl, hk⟩
    · rename_i hk
      simp only [AV.isTo, beq_iff_eq] at h
      rw [if_neg hk]
      exact .inr ⟨rfl, h.symm⟩

theorem RX.keep {s : St} {a : Act} {w : World} (h : RX nt w0 S0 F0 fx s a w) (V : List Nat) : RX nt w0 S0 F0 fx (s.keep V) a w := by
  obtain ⟨⟨F, O, β, h⟩, hz⟩ := h
  refine ⟨⟨F, O, β, ?_⟩, hz⟩
  refine ⟨h.chg, h.sep, h.dis, h.inF, h.inO, h.own, h.fF, fun t ht => ?_, fun t hk _ => (by rw [St.K_keep] at hk; cases hk), fun x b hx hb => ?_, h.size, h.defs, h.gl⟩
  · obtain ⟨h1, h2⟩ := (St.D_keep s V t).1 ht
    rw [St.env_keep, if_pos h1]
    have hr := h.rep t h2
    revert hr
    cases s.env t <;> simp only [keepV] <;> first | exact id | skip
    all_goals (split <;> simp only [RepTop, imp_self, implies_true])
  · obtain ⟨h1, h2⟩ := (St.D_keep s V x).1 hx
    obtain ⟨h3, h4⟩ := St.refOk_keep s V x b hb
    rw [St.env_keep, if_pos h1]
    rcases keepV_to h4 with ⟨h5, h6⟩ | ⟨h5, rfl⟩
    · rw [h5]; exact h.refs x b h2 h6
    · rw [h5]; exact ⟨fun off e => (by cases e), fun _ => rfl, fun off n e => by cases e⟩

theorem RX.drew {s : St} {a : Act} {w : World} (h : RX nt w0 S0 F0 fx s a w) : RX nt w0 S0 F0 fx s a w.drew := by
  obtain ⟨⟨F, O, β, h⟩, hz⟩ := h
  exact ⟨⟨F, O, β, h.move (S := NoFp) (chg_drew NoFp w) (fun _ _ _ hn => hn.elim) (fun _ _ hn => hn.elim) (fun _ => False) (fun _ _ _ _ _ hn => hn) (fun _ _ hF => hF) (fun _ _ hF => .inl hF) h.inF h.sep (fun _ hu => hu.elim)⟩, hz⟩

/-- A region in the text's order. -/
theorem reg_ok {T : Tab} (hT : SoundG P T w0 F0) {id : Nat} {ops : Array Oper} {rs : List RO} (hc : chkROs P nt ops ops.toList rs = true) {Qs : St → Prop} {Q : Exit → Act → World → Prop} (hQ : ∀ s a w, RX nt w0 S0 F0 fx s a w → Qs s → Q .normal a w)
    (hz : ∀ r ∈ rs, ∀ p ∈ fx, r.d ≠ some p.1) {s : St} {a : Act} {w : World} (h : RX nt w0 S0 F0 fx s a w) (hw : WR T rs Qs s) : (Code.region id ops false).wp P Q a w := by
  refine wp_region ?_
  have hlen := chkROs_len hc
  have := WI_of_WR T Qs rs 0 s (Nat.zero_le _) (by simpa using hw)
  rw [List.range_eq_range', show ops.size = rs.length by simpa using hlen]
  exact wi_ok hT hc hQ hz _ s a w h this
end
end Go.Proofs.Ytbikpgaiocjnoaa.Pad
