/- Regions that draw their order: whichever it is, it comes to what the text's order comes to. -/
import Derived.Test.YtbikpgaiocjnoaaE10
set_option linter.unusedVariables false
set_option linter.unusedSimpArgs false
namespace Go.Proofs.Ytbikpgaiocjnoaa.Pad

/-- Alike at a temporary. -/
def At (s s' : St) (t : Nat) : Prop := s.env t = s'.env t ∧ s.D t = s'.D t ∧ s.K t = s'.K t
theorem At.refl (s : St) (t : Nat) : At s s t := ⟨rfl, rfl, rfl⟩
theorem At.symm {s s' : St} {t : Nat} (h : At s s' t) : At s' s t := ⟨h.1.symm, h.2.1.symm, h.2.2.symm⟩
theorem At.trans {s s' s'' : St} {t : Nat} (h : At s s' t) (k : At s' s'' t) : At s s'' t := ⟨h.1.trans k.1, h.2.1.trans k.2.1, h.2.2.trans k.2.2⟩
def Alike (s s' : St) : Prop := (∀ t, At s s' t) ∧ ∀ x b, s.refOk x b = s'.refOk x b

section
variable {s s' : St}
theorem raw_at {x : RV} (h : ∀ t ∈ tR x, At s s' t) : s.raw x = s'.raw x ∧ s.ok x = s'.ok x := by
  cases x with
  | t n => have := h n (List.mem_singleton.2 rfl); exact ⟨this.1, this.2.1⟩
  | c v => exact ⟨rfl, rfl⟩
theorem rd_at {x : RV} (h : ∀ t ∈ tR x, At s s' t) : s.rd x = s'.rd x := by unfold St.rd; rw [(raw_at h).1]
theorem ok_at {x : RV} (h : ∀ t ∈ tR x, At s s' t) : s.ok x = s'.ok x := (raw_at h).2
theorem low_at {x : Option RV} (h : ∀ t ∈ tO x, At s s' t) : lowOf s x = lowOf s' x ∧ okO s x = okO s' x ∧ ∀ n, highOf s n x = highOf s' n x := by
  cases x with
  | none => exact ⟨rfl, rfl, fun _ => rfl⟩
  | some y => simp only [lowOf, okO, highOf, rd_at (x := y) h, ok_at (x := y) h, true_and, implies_true]
theorem parts_at : ∀ (ps : List (Nat × Nat × RV)), (∀ t ∈ tP ps, At s s' t) → (∀ xs, fillAV s xs ps = fillAV s' xs ps) ∧ ∀ n, okParts s n ps = okParts s' n ps
  | [], _ => ⟨fun _ => rfl, fun _ => rfl⟩
  | (o, k, x) :: ps, h => by
    have hx : ∀ t ∈ tR x, At s s' t := fun t ht => h t (List.mem_append_left _ ht)
    obtain ⟨e1, e2⟩ := parts_at ps fun t ht => h t (List.mem_append_right _ ht)
    exact ⟨fun xs => by simp only [fillAV, rd_at hx, e1], fun n => by simp only [okParts, rd_at hx, ok_at hx, e2]⟩
theorem args_at : ∀ (as : List (Bool × RV)), (∀ t ∈ tA as, At s s' t) → argAV s as = argAV s' as ∧ okArgs s as = okArgs s' as
  | [], _ => ⟨rfl, rfl⟩
  | (b, x) :: as, h => by
    have hx : ∀ t ∈ tR x, At s s' t := fun t ht => h t (List.mem_append_left _ ht)
    obtain ⟨e1, e2⟩ := args_at as fun t ht => h t (List.mem_append_right _ ht)
    cases b <;> simp only [argAV, okArgs, rd_at hx, ok_at hx, (raw_at hx).1, e1, e2, and_self]
theorem vals_at : ∀ (as : List RV), (∀ t ∈ tV as, At s s' t) → valsAV s as = valsAV s' as ∧ okVals s as = okVals s' as
  | [], _ => ⟨rfl, rfl⟩
  | x :: as, h => by
    have hx : ∀ t ∈ tR x, At s s' t := fun t ht => h t (List.mem_append_left _ ht)
    obtain ⟨e1, e2⟩ := vals_at as fun t ht => h t (List.mem_append_right _ ht)
    exact ⟨by simp only [valsAV, rd_at hx, e1], by simp only [okVals, rd_at hx, ok_at hx, e2]⟩
theorem argB_at (b : Nat) : ∀ (as : List (Bool × RV)), (∀ t ∈ tA as, At s s' t) → At s s' b → argB s b as = argB s' b as
  | [], _, _ => rfl
  | (c, x) :: as, h, hb => by
    have hx : ∀ t ∈ tR x, At s s' t := fun t ht => h t (List.mem_append_left _ ht)
    have e1 := argB_at b as (fun t ht => h t (List.mem_append_right _ ht)) hb
    cases c <;> simp only [argB, rd_at hx, hb.1, e1]
theorem isOf_at {b : Nat} {x : RV} (h : ∀ t ∈ tR x, At s s' t) (hr : ∀ t ∈ tR x, s.refOk t b = s'.refOk t b) : isOf s b x = isOf s' b x := by
  cases x with
  | t n =>
    have hn := h n (List.mem_singleton.2 rfl)
    have hq := hr n (List.mem_singleton.2 rfl)
    simp only [isOf, hn.1, hn.2.1, hq]
  | c v => rfl
theorem okArgsB_at (b : Nat) : ∀ (as : List (Bool × RV)), (∀ t ∈ tA as, At s s' t) → (∀ t ∈ tA as, s.refOk t b = s'.refOk t b) → okArgsB s b as = okArgsB s' b as
  | [], _, _ => rfl
  | (c, x) :: as, h, hr => by
    have hx : ∀ t ∈ tR x, At s s' t := fun t ht => h t (List.mem_append_left _ ht)
    have hq : ∀ t ∈ tR x, s.refOk t b = s'.refOk t b := fun t ht => hr t (List.mem_append_left _ ht)
    have e1 := okArgsB_at b as (fun t ht => h t (List.mem_append_right _ ht)) (fun t ht => hr t (List.mem_append_right _ ht))
    cases c <;> simp only [okArgsB, rd_at hx, ok_at hx, isOf_at hx hq, e1]
theorem lendA_at {b sz : Nat} {x : RV} (h : ∀ t ∈ tR x, At s s' t) (hb : At s s' b) (hr : ∀ t ∈ tR x, s.refOk t b = s'.refOk t b) : lendA s b sz x = lendA s' b sz x ∧ okLend s b sz x = okLend s' b sz x := by
  cases x with
  | t n =>
    have hn := h n (List.mem_singleton.2 rfl)
    have hq := hr n (List.mem_singleton.2 rfl)
    simp only [lendA, okLend, hn.1, hn.2.1, hb.1, hb.2.1, hq, and_self]
  | c v => exact ⟨rfl, rfl⟩
theorem argLs_at : ∀ (as : List (Option (Nat × Nat) × RV)), (∀ t ∈ tL as, At s s' t) → (∀ x ∈ tL as, ∀ b ∈ tL as, s.refOk x b = s'.refOk x b) → argLs s as = argLs s' as ∧ okLs s as = okLs s' as
  | [], _, _ => ⟨rfl, rfl⟩
  | (none, x) :: as, h, hr => by
    have hx : ∀ t ∈ tR x, At s s' t := fun t ht => h t (List.mem_append_left _ ht)
    obtain ⟨e1, e2⟩ := argLs_at as (fun t ht => h t (List.mem_append_right _ ht)) (fun x hx b hb => hr x (List.mem_append_right _ hx) b (List.mem_append_right _ hb))
    simp only [argLs, okLs, rd_at hx, ok_at hx, e1, e2, and_self]
  | (some (b, sz), x) :: as, h, hr => by
    have hx : ∀ t ∈ tR x, At s s' t := fun t ht => h t (List.mem_cons_of_mem _ (List.mem_append_left _ ht))
    obtain ⟨e1, e2⟩ := argLs_at as (fun t ht => h t (List.mem_cons_of_mem _ (List.mem_append_right _ ht))) (fun x hx b hb => hr x (List.mem_cons_of_mem _ (List.mem_append_right _ hx)) b (List.mem_cons_of_mem _ (List.mem_append_right _ hb)))
    obtain ⟨e3, e4⟩ := lendA_at (b := b) (sz := sz) (x := x) hx (h b (List.mem_cons_self ..)) (fun t ht => hr t (List.mem_cons_of_mem _ (List.mem_append_left _ ht)) b (List.mem_cons_self ..))
    simp only [argLs, okLs, e1, e2, e3, e4, and_self]
theorem gd_at {g : Option (Nat × Bool)} (h : ∀ t ∈ gR g, At s s' t) : gd s g = gd s' g := by
  cases g with
  | none => rfl
  | some p =>
    obtain ⟨t, b⟩ := p
    have := h t (List.mem_singleton.2 rfl)
    simp only [gd, this.1, this.2.1]

theorem val_at (T : Tab) (r : R1) (h : ∀ t ∈ rdOf r, At s s' t) (hr : ∀ x ∈ rdOf r, ∀ b ∈ rdOf r, s.refOk x b = s'.refOk x b) : val T s r = val T s' r ∧ dfn T s r = dfn T s' r := by
  cases r <;> simp only [rdOf, List.mem_append, List.mem_cons, List.not_mem_nil, or_false, or_imp, forall_and, forall_eq] at h <;> simp only [val, dfn]
  case mov x => rw [rd_at h, ok_at h]; exact ⟨rfl, rfl⟩
  case steal t => rw [h.1, h.2.1]; exact ⟨rfl, rfl⟩
  case pick c x y => rw [rd_at h.1.1, rd_at h.1.2, rd_at h.2, ok_at h.1.1, ok_at h.1.2, ok_at h.2]; exact ⟨rfl, rfl⟩
  case bin op ex x y => rw [rd_at h.1, rd_at h.2, ok_at h.1, ok_at h.2]; exact ⟨rfl, rfl⟩
  case beq op sh x y => rw [rd_at h.1, rd_at h.2, ok_at h.1, ok_at h.2]; exact ⟨rfl, rfl⟩
  case un op x => rw [rd_at h, ok_at h]; exact ⟨rfl, rfl⟩
  case conv ex k x => rw [rd_at h, ok_at h]; exact ⟨rfl, rfl⟩
  case b2s x => rw [rd_at h, ok_at h]; exact ⟨rfl, rfl⟩
  case s2b x => rw [rd_at h, ok_at h]; exact ⟨rfl, rfl⟩
  case len x => rw [rd_at h, ok_at h]; exact ⟨rfl, rfl⟩
  case sidx x i => rw [rd_at h.1, rd_at h.2, ok_at h.1, ok_at h.2]; exact ⟨rfl, rfl⟩
  case ssl x lo hi =>
    obtain ⟨⟨h1, h2⟩, h3⟩ := h
    obtain ⟨a1, a2, _⟩ := low_at h2
    obtain ⟨_, b2, b3⟩ := low_at h3
    rw [rd_at h1, ok_at h1, a1, a2, b2, b3]; exact ⟨rfl, rfl⟩
  case slsl sz x lo hi =>
    obtain ⟨⟨h1, h2⟩, h3⟩ := h
    obtain ⟨a1, a2, _⟩ := low_at h2
    obtain ⟨_, b2, b3⟩ := low_at h3
    rw [rd_at h1, ok_at h1, a1, a2, b2, b3]; exact ⟨rfl, rfl⟩
  case idxA sz x i => rw [rd_at h.1, rd_at h.2, ok_at h.1, ok_at h.2]; exact ⟨rfl, rfl⟩
  case idxG g sz n xs i => rw [rd_at h, ok_at h]; exact ⟨rfl, rfl⟩
  case loadG g n agg xs => simp
  case fldP off x => rw [rd_at h, ok_at h]; exact ⟨rfl, rfl⟩
  case fldB t off => rw [h.1, h.2.1]; simp
  case fldR x b off => rw [h.1.1, h.1.2.1, hr x (by simp [rdOf]) b (by simp [rdOf])]; exact ⟨rfl, rfl⟩
  case nck x b => rw [h.1.1, h.1.2.1, h.2.1, h.2.2.1, hr x (by simp [rdOf]) b (by simp [rdOf])]; simp
  case s2aR x b sz n => rw [h.1.1, h.1.2.1, h.2.1, h.2.2.1, hr x (by simp [rdOf]) b (by simp [rdOf])]; exact ⟨rfl, rfl⟩
  case s2aP n x => rw [rd_at h, ok_at h]; exact ⟨rfl, rfl⟩
  case allocO zs => simp
  case fldO t off => rw [h.1, h.2.1]; simp
  case loadO t n agg => rw [h.1, h.2.1]; exact ⟨rfl, rfl⟩
  case extO t i => rw [h.1, h.2.1]; exact ⟨rfl, rfl⟩
  case loadRO x b n agg => rw [h.1.1, h.1.2.1, h.2.1, h.2.2.1, hr x (by simp [rdOf]) b (by simp [rdOf])]; exact ⟨rfl, rfl⟩
  case stO t n x => rw [h.1.1, h.1.2.1, rd_at h.2, ok_at h.2]; simp
  case stRO x b n y => rw [h.1.1, h.1.2.1, h.2.1.1, h.2.1.2.1, rd_at h.2.2, ok_at h.2.2, hr x (by simp [rdOf]) b (by simp [rdOf])]; simp
  case takeO x b => rw [h.1.1, h.1.2.1, h.2.1, h.2.2.1, hr x (by simp [rdOf]) b (by simp [rdOf])]; exact ⟨rfl, rfl⟩
  case putO x b t => rw [h.1.1, h.1.2.1, h.2.1.1, h.2.1.2.1, h.2.2.1, h.2.2.2.1, hr x (by simp [rdOf]) b (by simp [rdOf])]; simp
  case mkI t x => rw [rd_at h, ok_at h]; exact ⟨rfl, rfl⟩
  case isNil p ne x => rw [rd_at h, ok_at h]; exact ⟨rfl, rfl⟩
  case isNilS ne x => rw [rd_at h, ok_at h]; exact ⟨rfl, rfl⟩
  case callL f as =>
    obtain ⟨e1, e2⟩ := argLs_at as h (fun x hx b hb => hr x (by simpa [rdOf] using hx) b (by simpa [rdOf] using hb))
    rw [e1, e2]; exact ⟨rfl, rfl⟩
  case asI t ok z x => rw [rd_at h, ok_at h]; exact ⟨rfl, rfl⟩
  case mkF f as bs => rw [(vals_at as h.1).1, (vals_at as h.1).2, (vals_at bs h.2).1, (vals_at bs h.2).2]; exact ⟨rfl, rfl⟩
  case callF x as fs => rw [rd_at h.1, ok_at h.1, (vals_at as h.2).1, (vals_at as h.2).2]; exact ⟨rfl, rfl⟩
  case idxR x b sz n i =>
    obtain ⟨q1, _, q2⟩ := h
    rw [q1.1, q1.2.1, hr x (by simp [rdOf]) b (by simp [rdOf]), rd_at q2, ok_at q2]; exact ⟨rfl, rfl⟩
  case idxB t sz n i => rw [h.1.1, h.1.2.1, rd_at h.2, ok_at h.2]; simp
  case loadP x n agg => rw [rd_at h, ok_at h]; exact ⟨rfl, rfl⟩
  case loadB t n agg => rw [h.1, h.2.1]; exact ⟨rfl, rfl⟩
  case loadR x b n agg => rw [h.1.1, h.1.2.1, h.2.1, h.2.2.1, hr x (by simp [rdOf]) b (by simp [rdOf])]; exact ⟨rfl, rfl⟩
  case stB t n x => rw [h.1.1, h.1.2.1, rd_at h.2, ok_at h.2]; simp
  case stR x b n y => rw [h.1.1, h.1.2.1, h.2.1.1, h.2.1.2.1, rd_at h.2.2, ok_at h.2.2, hr x (by simp [rdOf]) b (by simp [rdOf])]; simp
  case box x => rw [rd_at h, ok_at h]; exact ⟨rfl, rfl⟩
  case alloc zs => simp
  case nilR sz => simp
  case fld off n agg x => rw [rd_at h, ok_at h]; exact ⟨rfl, rfl⟩
  case aidx sz len agg x i => rw [rd_at h.1, rd_at h.2, ok_at h.1, ok_at h.2]; exact ⟨rfl, rfl⟩
  case build zs ps => rw [(parts_at ps h).1, (parts_at ps h).2]; exact ⟨rfl, rfl⟩
  case mkSl sz n zs ps => rw [(parts_at ps h).1, (parts_at ps h).2]; exact ⟨rfl, rfl⟩
  case mkSlM sz n zs ps => rw [(parts_at ps h).1, (parts_at ps h).2]; exact ⟨rfl, rfl⟩
  case app sz b base y => rw [rd_at h.2, ok_at h.1, ok_at h.2, (raw_at h.1).1]; exact ⟨rfl, rfl⟩
  case make sz b zs l c => rw [rd_at h.1, rd_at h.2, ok_at h.1, ok_at h.2]; exact ⟨rfl, rfl⟩
  case ext x i => rw [rd_at h, ok_at h]; exact ⟨rfl, rfl⟩
  case call f as => rw [(args_at as h).1, (args_at as h).2]; exact ⟨rfl, rfl⟩
  case mm mx x y => rw [rd_at h.1, rd_at h.2, ok_at h.1, ok_at h.2]; exact ⟨rfl, rfl⟩
  case s2bM x => rw [rd_at h, ok_at h]; exact ⟨rfl, rfl⟩
  case makeM sz b zs l c => rw [rd_at h.1, rd_at h.2, ok_at h.1, ok_at h.2]; exact ⟨rfl, rfl⟩
  case al t => rw [h.2.1]; simp
  case idxM x b sz i => rw [h.1.1, h.1.2.1, h.2.1.1, h.2.1.2.1, rd_at h.2.2, ok_at h.2.2, hr x (by simp [rdOf]) b (by simp [rdOf])]; exact ⟨rfl, rfl⟩
  case winB t sz n lo hi =>
    obtain ⟨a1, a2, a3⟩ := low_at (x := lo) (fun t ht => h.2.1 t ht)
    obtain ⟨b1, b2, b3⟩ := low_at (x := hi) (fun t ht => h.2.2 t ht)
    rw [h.1.1, h.1.2.1, a1, a2, b2, b3]; exact ⟨rfl, rfl⟩
  case winX x b sz lo hi =>
    obtain ⟨a1, a2, a3⟩ := low_at (x := lo) (fun t ht => h.2.2.1 t ht)
    obtain ⟨b1, b2, b3⟩ := low_at (x := hi) (fun t ht => h.2.2.2 t ht)
    rw [h.1.1, h.1.2.1, h.2.1.1, h.2.1.2.1, a1, a2, b2, b3, hr x (by simp [rdOf]) b (by simp [rdOf])]; exact ⟨rfl, rfl⟩
  case cpy x b sz y => rw [h.1.1, h.1.2.1, h.2.1.1, h.2.1.2.1, rd_at h.2.2, ok_at h.2.2, hr x (by simp [rdOf]) b (by simp [rdOf])]; exact ⟨rfl, rfl⟩
  case cpyV x b sz y b2 => rw [h.1.1, h.1.2.1, h.2.1.1, h.2.1.2.1, h.2.2.1.1, h.2.2.1.2.1, h.2.2.2.1, h.2.2.2.2.1, hr x (by simp [rdOf]) b (by simp [rdOf]), hr y (by simp [rdOf]) b2 (by simp [rdOf])]; exact ⟨rfl, rfl⟩
  case lenM x b => rw [h.1.1, h.1.2.1, h.2.1, h.2.2.1, hr x (by simp [rdOf]) b (by simp [rdOf])]; exact ⟨rfl, rfl⟩
  case b2sM x b => rw [h.1.1, h.1.2.1, h.2.1, h.2.2.1, hr x (by simp [rdOf]) b (by simp [rdOf])]; exact ⟨rfl, rfl⟩
  case mkC f b => rw [h.1, h.2.1]; exact ⟨rfl, rfl⟩
  case callC x b as fs => rw [h.1.1, h.1.2.1, h.2.1.1, h.2.1.2.1, (vals_at as h.2.2).1, (vals_at as h.2.2).2, hr x (by simp [rdOf]) b (by simp [rdOf])]; exact ⟨rfl, rfl⟩
  case mvW x b => rw [h.1.1, h.1.2.1, hr x (by simp [rdOf]) b (by simp [rdOf])]; exact ⟨rfl, rfl⟩
  case wnV x b sz => rw [h.1.1, h.1.2.1, h.2.1, h.2.2.1, hr x (by simp [rdOf]) b (by simp [rdOf])]; exact ⟨rfl, rfl⟩
  case winR x b sz n lo hi =>
    obtain ⟨a1, a2, a3⟩ := low_at (x := lo) (fun t ht => h.2.2.1 t ht)
    obtain ⟨b1, b2, b3⟩ := low_at (x := hi) (fun t ht => h.2.2.2 t ht)
    rw [h.1.1, h.1.2.1, a1, a2, b2, b3, hr x (by simp [rdOf]) b (by simp [rdOf])]; exact ⟨rfl, rfl⟩
  case frz t => rw [h.1, h.2.1]; exact ⟨rfl, rfl⟩
  case stealM t => rw [h.1, h.2.1]; exact ⟨rfl, rfl⟩
  case rng x => rw [rd_at h, ok_at h]; exact ⟨rfl, rfl⟩
  case nxt t => rw [h.1, h.2.1]; exact ⟨rfl, rfl⟩
  case nilM sz => simp
  case appM sz b t y => rw [h.1.1, h.1.2.1, rd_at h.2, ok_at h.2]; exact ⟨rfl, rfl⟩
  case callB f as b =>
    have e1 := argB_at b as h.2 h.1
    have e2 := okArgsB_at b as h.2 (fun x hx => hr x (by simp [rdOf, hx]) b (by simp [rdOf]))
    rw [e1, e2, h.1.1, h.1.2.1]; exact ⟨rfl, rfl⟩

theorem need_at (T : Tab) (r : RO) (h : ∀ t ∈ r.rd, At s s' t) (hr : ∀ x ∈ r.rd, ∀ b ∈ r.rd, s.refOk x b = s'.refOk x b) : need T r s = need T r s' := by
  have h1 := val_at T r.op (fun t ht => h t (List.mem_append_left _ ht)) (fun x hx b hb => hr x (List.mem_append_left _ hx) b (List.mem_append_left _ hb))
  have h2 : ∀ t ∈ gR r.g, At s s' t := fun t ht => h t (List.mem_append_right _ ht)
  unfold need
  rw [h1.2, gd_at h2]
  cases hg : r.g with
  | none => rfl
  | some p =>
    obtain ⟨t, b⟩ := p
    rw [hg] at h2
    have := h2 t (List.mem_singleton.2 rfl)
    simp only [this.1, this.2.1, this.2.2]
end

theorem set_at {s s' : St} {d t : Nat} {v : AV} {p : Prop} {k : Bool} (h : At s s' t) : At (s.set d v p k) (s'.set d v p k) t := by
  unfold At at *
  simp only [St.env_set, St.D_set, St.K_set]
  split
  · exact ⟨rfl, rfl, rfl⟩
  · exact h
theorem set_out {s : St} {d t : Nat} {v : AV} {p : Prop} {k : Bool} (h : d ≠ t) : At (s.set d v p k) s t := by
  unfold At
  simp only [St.env_set, St.D_set, St.K_set, if_neg h, and_self]
theorem give_at {s s' : St} {x : RV} {t : Nat} (hx : ∀ u ∈ tR x, At s s' u) (h : At s s' t) : At (s.give x) (s'.give x) t := by
  cases x with
  | t n =>
    have := hx n (List.mem_singleton.2 rfl)
    simp only [St.give, this.1, this.2.1, this.2.2]
    exact set_at h
  | c v => exact h
theorem give_out {s : St} {x : RV} {t : Nat} (h : t ∉ tR x) : At (s.give x) s t := by
  cases x with
  | t n => exact set_out (by simpa [tR, eq_comm] using h)
  | c v => exact At.refl _ _
theorem gives_at {s s' : St} : ∀ (as : List (Bool × RV)) (s s' : St) (t : Nat), (∀ u ∈ stolenN as, At s s' u) → At s s' t → At (giveArgs s as) (giveArgs s' as) t
  | [], _, _, _, _, h => h
  | (false, x) :: as, s, s', t, hx, h => gives_at (s := s) (s' := s') as s s' t hx h
  | (true, .c v) :: as, s, s', t, hx, h => gives_at (s := s) (s' := s') as s s' t hx h
  | (true, .t n) :: as, s, s', t, hx, h => by
    simp only [giveArgs]
    have hn : ∀ u ∈ tR (.t n), At s s' u := fun u hu => hx u (by simp only [tR, List.mem_singleton] at hu; subst hu; simp [stolenN])
    exact gives_at (s := s) (s' := s') as _ _ t (fun u hu => give_at hn (hx u (by simp [stolenN, hu]))) (give_at hn h)
theorem gives_out : ∀ (as : List (Bool × RV)) (s : St) (t : Nat), t ∉ stolenN as → At (giveArgs s as) s t
  | [], _, _, _ => At.refl _ _
  | (false, x) :: as, s, t, h => gives_out as s t h
  | (true, .c v) :: as, s, t, h => gives_out as s t h
  | (true, .t n) :: as, s, t, h => by
    simp only [stolenN, List.mem_cons, not_or] at h
    simp only [giveArgs]
    exact (gives_out as _ t h.2).trans (give_out (by simpa [tR] using h.1))

theorem stolen_sub : ∀ (as : List (Bool × RV)) (t : Nat), t ∈ stolenN as → t ∈ tA as
  | [], _, h => h
  | (false, x) :: as, t, h => List.mem_append_right _ (stolen_sub as t h)
  | (true, .c v) :: as, t, h => List.mem_append_right _ (stolen_sub as t h)
  | (true, .t n) :: as, t, h => by
    simp only [stolenN, List.mem_cons] at h
    simp only [tA, tR, List.mem_append, List.mem_singleton]
    exact h.imp id (stolen_sub as t)

theorem stepD_at {s s' : St} {d : Option Nat} {v : AV} {p : Prop} {t : Nat} (h : At s s' t) : At (stepD d s v p) (stepD d s' v p) t := by
  cases d with
  | none => exact h
  | some d => exact set_at h
theorem stepD_out {s : St} {d : Option Nat} {v : AV} {p : Prop} {t : Nat} (h : t ∉ d.toList) : At (stepD d s v p) s t := by
  cases d with
  | none => exact At.refl _ _
  | some d => exact set_out (by simpa [eq_comm] using h)

theorem pre_at {T : Tab} (r : R1) {s s' : St} (h : ∀ t ∈ rdOf r, At s s' t) {t : Nat} (ht : At s s' t) : At (pre T s r) (pre T s' r) t := by
  cases r <;> simp only [pre] <;> first | exact ht | skip
  case steal u => exact give_at (fun v hv => h v hv) ht
  case app sz b base y => exact give_at (fun v hv => h v (List.mem_append_left _ hv)) ht
  case call f as => exact gives_at (s := s) (s' := s') as s s' t (fun u hu => h u (stolen_sub as u hu)) ht
  case frz u => exact set_at ht
  case stealM u => exact set_at ht
  case mkC f u => exact set_at ht
  case callC x b as fs =>
    rw [(vals_at as (fun t ht => h t (by simp [rdOf, ht]))).1, (h b (by simp [rdOf])).1]
    exact set_at ht
  case nxt u =>
    have hu := h u (by simp [rdOf])
    rw [hu.1, hu.2.1]
    exact set_at ht
  case appM sz b u y => exact set_at ht
  case stO u n x =>
    rw [rd_at (x := x) (fun t ht => h t (by simp [rdOf, ht]))]
    exact set_at ht
  case stRO x b n y =>
    rw [(h x (by simp [rdOf])).1, (h b (by simp [rdOf])).1, rd_at (x := y) (fun t ht => h t (by simp [rdOf, ht]))]
    exact set_at ht
  case takeO x b =>
    rw [(h x (by simp [rdOf])).1, (h b (by simp [rdOf])).1]
    exact set_at ht
  case extO b i =>
    rw [(h b (by simp [rdOf])).1]
    exact set_at ht
  case putO x b u =>
    rw [(h x (by simp [rdOf])).1, (h b (by simp [rdOf])).1, (h u (by simp [rdOf])).1]
    exact set_at (give_at (fun v hv => h v (by simp only [tR, List.mem_singleton] at hv; subst hv; simp [rdOf])) ht)
  case cpy x b sz y =>
    have hx := h x (by simp [rdOf])
    have hb := h b (by simp [rdOf])
    rw [hx.1, hb.1, rd_at (x := y) (fun t ht => h t (by simp [rdOf, ht]))]
    exact set_at ht
  case cpyV x b sz y b2 =>
    have hx := h x (by simp [rdOf])
    have hb := h b (by simp [rdOf])
    have hy := h y (by simp [rdOf])
    have hb2 := h b2 (by simp [rdOf])
    rw [hx.1, hb.1, hy.1, hb2.1]
    exact set_at ht
  case callB f as b =>
    rw [argB_at b as (fun t ht => h t (by simp [rdOf, ht])) (h b (by simp [rdOf]))]
    exact set_at ht
theorem pre_out {T : Tab} (r : R1) (s : St) {t : Nat} (ht : t ∉ wrOf r) : At (pre T s r) s t := by
  cases r <;> simp only [pre] <;> first | exact At.refl _ _ | skip
  case steal u => exact give_out ht
  case app sz b base y => exact give_out ht
  case call f as => exact gives_out as s t ht
  case frz u => exact set_out (by simpa [wrOf, eq_comm] using ht)
  case stealM u => exact set_out (by simpa [wrOf, eq_comm] using ht)
  case mkC f u => exact set_out (by simpa [wrOf, eq_comm] using ht)
  case callC x b as fs => exact set_out (by simpa [wrOf, eq_comm] using ht)
  case nxt u => exact set_out (by simpa [wrOf, eq_comm] using ht)
  case appM sz b u y => exact set_out (by simpa [wrOf, eq_comm] using ht)
  case stO u n x => exact set_out (by simpa [wrOf, eq_comm] using ht)
  case stRO x b n y => exact set_out (by simpa [wrOf, eq_comm] using ht)
  case takeO x b => exact set_out (by simpa [wrOf, eq_comm] using ht)
  case extO b i => exact set_out (by simpa [wrOf, eq_comm] using ht)
  case putO x b u =>
    simp only [wrOf, List.mem_cons, List.not_mem_nil, or_false, not_or] at ht
    exact (set_out (Ne.symm ht.1)).trans (give_out (by simpa [tR] using ht.2))
  case callB f as b => exact set_out (by simpa [wrOf, eq_comm] using ht)
  case cpy x b sz y => exact set_out (by simpa [wrOf, eq_comm] using ht)
  case cpyV x b sz y b2 => exact set_out (by simpa [wrOf, eq_comm] using ht)

theorem rd_of_wr (r : R1) {t : Nat} (ht : t ∈ wrOf r) : t ∈ rdOf r := by
  revert ht
  cases r <;> simp only [wrOf, rdOf, List.not_mem_nil, false_implies, imp_self]
  case app sz b base y => exact fun hh => List.mem_append_left _ hh
  case stB t' n x => simp; intro e; exact .inl e
  case stR x b n y => simp; intro e; exact .inr (.inl e)
  case call f as => exact stolen_sub as t
  case appM sz b u y => simp; intro e; exact .inl e
  case stO t' n x => simp; intro e; exact .inl e
  case stRO x b n y => simp; intro e; exact .inr (.inl e)
  case takeO x b => simp; intro e; exact .inr e
  case putO x b u => simp; rintro (e | e); exact .inr (.inl e); exact .inr (.inr e)
  case callB f as b => simp; intro e; exact .inl e
  case callC x b as fs => simp; intro e; exact .inr (.inl e)
  case cpy x b sz y => simp; intro e; exact .inr (.inl e)
  case cpyV x b sz y b2 => simp; intro e; exact .inr (.inl e)
theorem step_stB (T : Tab) {r : RO} {u n : Nat} {x : RV} (h : r.op = .stB u n x) (s : St) : step T r s = s.set u (.box (s.rd x).cells) True false := by
  unfold step; rw [h]
theorem step_stR (T : Tab) {r : RO} {x b n : Nat} {y : RV} (h : r.op = .stR x b n y) (s : St) : step T r s = s.set b ((s.env b).withInner (splice (s.env b).inner (s.env x).refOff (s.rd y).cells)) True false := by
  unfold step; rw [h]
theorem set_same {s s' : St} {d t : Nat} {v : AV} {p : Prop} {k : Bool} (h : At s s' t ∨ t = d) : At (s.set d v p k) (s'.set d v p k) t := by
  rcases h with h | rfl
  · exact set_at h
  · unfold At; simp only [St.env_set, St.D_set, St.K_set, if_true, and_self]

theorem step_at (T : Tab) (r : RO) {s s' : St} (h : ∀ t ∈ r.rd, At s s' t) (hr : ∀ x ∈ r.rd, ∀ b ∈ r.rd, s.refOk x b = s'.refOk x b) {t : Nat} (ht : At s s' t ∨ t ∈ r.wr) : At (step T r s) (step T r s') t := by
  have h1 := val_at T r.op (fun t ht => h t (List.mem_append_left _ ht)) (fun x hx b hb => hr x (List.mem_append_left _ hx) b (List.mem_append_left _ hb))
  have h2 := gd_at (g := r.g) fun t ht => h t (List.mem_append_right _ ht)
  have hwr : ∀ t ∈ wrOf r.op, At s s' t := fun t ht => h t (List.mem_append_left _ (rd_of_wr r.op ht))
  cases hs : r.stores
  · have hst : (match r.op with | .stB .. | .stR .. => false | _ => true) = true := by revert hs; unfold RO.stores; cases r.op <;> simp
    rw [step_eq T r s hst, step_eq T r s' hst, h1.1, h2]
    unfold RO.wr at ht
    rw [hs] at ht
    simp only [Bool.false_eq_true, if_false] at ht
    by_cases hd : t ∈ r.d.toList
    · cases hrd : r.d with
      | none => rw [hrd] at hd; simp at hd
      | some d =>
        rw [hrd] at hd
        simp at hd
        exact set_same (.inr hd)
    · refine stepD_at (pre_at r.op (fun t ht => h t (List.mem_append_left _ ht)) ?_)
      rcases ht with ht | ht
      · exact ht
      · exact hwr t ((List.mem_append.1 ht).resolve_left hd)
  · have hcase : (∃ u n x, r.op = .stB u n x) ∨ ∃ x b n y, r.op = .stR x b n y := by
      revert hs; unfold RO.stores; cases r.op <;> simp
    unfold RO.wr at ht
    rw [hs] at ht
    simp only [if_true, List.nil_append] at ht
    have hbase : At s s' t := ht.elim id (hwr t)
    rcases hcase with ⟨u, n, x, hop⟩ | ⟨x, b, n, y, hop⟩
    · rw [step_stB T hop, step_stB T hop]
      have hx : ∀ t ∈ tR x, At s s' t := fun t ht => h t (List.mem_append_left _ (by rw [hop]; simp [rdOf, ht]))
      rw [rd_at hx]
      exact set_at hbase
    · rw [step_stR T hop, step_stR T hop]
      have hy : ∀ t ∈ tR y, At s s' t := fun t ht => h t (List.mem_append_left _ (by rw [hop]; simp [rdOf, ht]))
      have hx : At s s' x := h x (List.mem_append_left _ (by rw [hop]; simp [rdOf]))
      have hb : At s s' b := h b (List.mem_append_left _ (by rw [hop]; simp [rdOf]))
      rw [rd_at hy, hx.1, hb.1]
      exact set_at hbase
theorem step_out (T : Tab) (r : RO) (s : St) {t : Nat} (ht : t ∉ r.wr) : At (step T r s) s t := by
  unfold RO.wr at ht
  simp only [List.mem_append, not_or] at ht
  cases hs : r.stores
  · have hst : (match r.op with | .stB .. | .stR .. => false | _ => true) = true := by revert hs; unfold RO.stores; cases r.op <;> simp
    rw [hs] at ht
    simp only [Bool.false_eq_true, if_false] at ht
    rw [step_eq T r s hst]
    exact (stepD_out ht.1).trans (pre_out r.op s ht.2)
  · have hcase : (∃ u n x, r.op = .stB u n x) ∨ ∃ x b n y, r.op = .stR x b n y := by
      revert hs; unfold RO.stores; cases r.op <;> simp
    rcases hcase with ⟨u, n, x, hop⟩ | ⟨x, b, n, y, hop⟩
    · rw [step_stB T hop]; rw [hop] at ht; exact set_out (by simpa [wrOf, eq_comm] using ht.2)
    · rw [step_stR T hop]; rw [hop] at ht; exact set_out (by simpa [wrOf, eq_comm] using ht.2)

/-! ### What points where -/
theorem give_ref (s : St) (x : RV) (y b : Nat) : (s.give x).refOk y b = if y ∈ tR x then false else s.refOk y b := by
  cases x with
  | t n =>
    simp only [St.give, St.refOk_set, tR, List.mem_singleton, isTo_share]
    by_cases e : n = y
    · rw [if_pos e, if_pos e.symm]
    · rw [if_neg e, if_neg (Ne.symm e), if_neg (by simp)]
  | c v => simp [St.give, tR]
theorem gives_ref (y b : Nat) : ∀ (as : List (Bool × RV)) (s : St), (giveArgs s as).refOk y b = if y ∈ stolenN as then false else s.refOk y b
  | [], s => by simp [giveArgs, stolenN]
  | (false, x) :: as, s => by simp only [giveArgs, stolenN]; exact gives_ref y b as s
  | (true, .c v) :: as, s => by simp only [giveArgs, stolenN, St.give]; exact gives_ref y b as s
  | (true, .t n) :: as, s => by
    simp only [giveArgs, stolenN]
    rw [gives_ref y b as, give_ref]
    simp only [tR, List.mem_cons, List.not_mem_nil, or_false]
    by_cases h1 : y ∈ stolenN as <;> by_cases h2 : y = n <;> simp [h1, h2]
theorem drop_ref (s : St) (t y b : Nat) : (s.set t .bad False false).refOk y b = if y = t then false else s.refOk y b := by
  rw [St.refOk_set]
  by_cases e : t = y
  · rw [if_pos e, if_pos e.symm]; rfl
  · rw [if_neg e, if_neg (Ne.symm e), if_neg (by simp)]
theorem rest_to (x : AV) (b : Nat) : x.rest.isTo b = false := by
  cases x with
  | iter l pos =>
    simp only [AV.rest]
    by_cases h : pos < l.length
    · rw [if_pos h]; rfl
    · rw [if_neg h]; rfl
  | _ => rfl
theorem withInner_to (x : AV) (ys : List AV) (b : Nat) : (x.withInner ys).isTo b = false := by cases x <;> simp [AV.withInner, AV.isTo]
theorem pre_ref {T : Tab} (r : R1) (hst : (match r with | .stB .. | .stR .. => false | _ => true) = true) (s : St) (y b : Nat) : (pre T s r).refOk y b = if y ∈ wrOf r then false else s.refOk y b := by
  cases r <;> first | (simp at hst; done) | skip
  all_goals simp only [pre, wrOf]
  all_goals first | (simp; done) | skip
  case steal u => exact give_ref s (.t u) y b
  case app sz b' base z => exact give_ref s base y b
  case call f as => exact gives_ref y b as s
  case frz u => rw [drop_ref]; simp
  case stealM u => rw [drop_ref]; simp
  case mkC f u => rw [drop_ref]; simp
  case callC x b' as fs =>
    rw [St.refOk_set]
    by_cases e : b' = y
    · subst e
      cases s.env b' <;> simp [nCallC, AV.isTo]
    · simp [e, Ne.symm e]
  case appM sz b u y => rw [drop_ref]; simp
  case stO u n x =>
    rw [St.refOk_set]
    by_cases e : u = y
    · subst e; simp [AV.isTo]
    · simp [e, Ne.symm e]
  case stRO x b' n z =>
    rw [St.refOk_set]
    by_cases e : b' = y
    · subst e; simp [AV.isTo]
    · simp [e, Ne.symm e]
  case extO b' i =>
    rw [St.refOk_set]
    by_cases e : b' = y
    · subst e; simp [AV.isTo]
    · simp [e, Ne.symm e]
  case takeO x b' =>
    rw [St.refOk_set]
    by_cases e : b' = y
    · subst e; simp [AV.isTo]
    · simp [e, Ne.symm e]
  case putO x b' u =>
    rw [St.refOk_set, give_ref]
    by_cases e : b' = y
    · subst e; simp [AV.isTo]
    · simp [e, Ne.symm e, tR]
  case cpy x b' sz z =>
    rw [St.refOk_set]
    by_cases e : b' = y
    · subst e
      simp [withInner_to]
    · simp [e, Ne.symm e]
  case cpyV x b' sz z b2 =>
    rw [St.refOk_set]
    by_cases e : b' = y
    · subst e
      simp [withInner_to]
    · simp [e, Ne.symm e]
  case callB f as b =>
    rw [St.refOk_set]
    by_cases e : b = y
    · subst e
      simp [isTo_nr]
    · simp [e, Ne.symm e]
  case nxt u =>
    rw [St.refOk_set]
    by_cases e : u = y
    · subst e
      simp [rest_to]
    · simp [e, Ne.symm e]
/-- Does it make b anew? -/
def RO.kills (r : RO) (b : Nat) : Prop := r.stores = false ∧ r.d = some b
theorem RO.kills_wr {r : RO} {b : Nat} (h : r.kills b) : b ∈ r.wr := by
  unfold RO.wr; rw [h.1, h.2]; simp
open Classical in
theorem step_ref (T : Tab) (r : RO) (s : St) {x : Nat} (hx : x ∉ r.wr) (b : Nat) : (step T r s).refOk x b = if r.kills b then false else s.refOk x b := by
  unfold RO.wr at hx
  simp only [List.mem_append, not_or] at hx
  cases hs : r.stores
  · have hst : (match r.op with | .stB .. | .stR .. => false | _ => true) = true := by revert hs; unfold RO.stores; cases r.op <;> simp
    rw [hs] at hx
    simp only [Bool.false_eq_true, if_false] at hx
    rw [step_eq T r s hst]
    have hp := pre_ref (T := T) r.op hst s x b
    rw [if_neg hx.2] at hp
    unfold RO.kills
    cases hd : r.d with
    | none => simp only [stepD, hp]; simp
    | some d =>
      rw [hd] at hx
      simp only [Option.toList_some, List.mem_singleton] at hx
      simp only [stepD, St.refOk_set, hp, hs]
      rw [if_neg (Ne.symm hx.1)]
      by_cases e : d = b <;> simp [e]
  · have hcase : (∃ u n x, r.op = .stB u n x) ∨ ∃ x b n y, r.op = .stR x b n y := by
      revert hs; unfold RO.stores; cases r.op <;> simp
    rw [if_neg (fun hh : r.kills b => by rw [hh.1] at hs; cases hs)]
    rcases hcase with ⟨u, n, y, hop⟩ | ⟨y, b', n, z, hop⟩
    · rw [step_stB T hop, St.refOk_set]
      rw [hop] at hx
      rw [if_neg (by simpa [wrOf, eq_comm] using hx.2), if_neg (by simp)]
    · rw [step_stR T hop, St.refOk_set]
      rw [hop] at hx
      rw [if_neg (by simpa [wrOf, eq_comm] using hx.2), if_neg (by simp)]
open Classical in
theorem step_ref_in (T : Tab) (r : RO) (s : St) {x : Nat} (hx : x ∈ r.wr) (b : Nat) : (step T r s).refOk x b = if r.kills x then (r.op.yields (val T s r.op)).isTo b else false := by
  unfold RO.wr at hx
  cases hs : r.stores
  · have hst : (match r.op with | .stB .. | .stR .. => false | _ => true) = true := by revert hs; unfold RO.stores; cases r.op <;> simp
    rw [hs] at hx
    simp only [Bool.false_eq_true, if_false, List.mem_append] at hx
    rw [step_eq T r s hst]
    have hp := pre_ref (T := T) r.op hst s x b
    unfold RO.kills
    cases hd : r.d with
    | none =>
      rw [hd] at hx
      simp only [Option.toList_none, List.not_mem_nil, false_or] at hx
      rw [if_pos hx] at hp
      simp [stepD, hp]
    | some d =>
      rw [hd] at hx
      simp only [Option.toList_some, List.mem_singleton] at hx
      simp only [stepD, St.refOk_set, hs]
      by_cases e : d = x
      · rw [if_pos e, if_pos (by simp [e])]
      · rw [if_neg e]
        have hw : x ∈ wrOf r.op := hx.resolve_left (Ne.symm e)
        rw [if_pos hw] at hp
        rw [hp]
        simp [e]
  · have hcase : (∃ u n x, r.op = .stB u n x) ∨ ∃ x b n y, r.op = .stR x b n y := by
      revert hs; unfold RO.stores; cases r.op <;> simp
    rw [if_neg (fun hh : r.kills x => by rw [hh.1] at hs; cases hs)]
    rw [hs] at hx
    simp only [if_true, List.nil_append] at hx
    rcases hcase with ⟨u, n, y, hop⟩ | ⟨y, b', n, z, hop⟩
    · rw [hop] at hx
      simp only [wrOf, List.mem_singleton] at hx
      rw [step_stB T hop, St.refOk_set, if_pos hx.symm]; rfl
    · rw [hop] at hx
      simp only [wrOf, List.mem_singleton] at hx
      rw [step_stR T hop, St.refOk_set, if_pos hx.symm, withInner_to]
theorem yields_to (T : Tab) (s : St) (r : R1) {b : Nat} (h : (r.yields (val T s r)).isTo b = true) : b ∈ rdOf r := by
  cases r <;> simp only [R1.yields, isTo_nr, Bool.false_eq_true] at h
  case mvW x b' =>
    simp only [val] at h
    revert h
    cases s.env x <;> simp [AV.viewTo, AV.isTo, rdOf]
    all_goals intro e; exact .inr e.symm
  all_goals
    simp only [val, AV.isTo, beq_iff_eq] at h
    subst h
    simp [rdOf]

theorem step_alike (T : Tab) (r : RO) {s s' : St} (h : Alike s s') : Alike (step T r s) (step T r s') := by
  refine ⟨fun t => step_at T r (fun t _ => h.1 t) (fun x _ b _ => h.2 x b) (.inl (h.1 t)), fun x b => ?_⟩
  by_cases hx : x ∈ r.wr
  · rw [step_ref_in T r s hx, step_ref_in T r s' hx, (val_at T r.op (fun t _ => h.1 t) (fun x _ b _ => h.2 x b)).1]
  · rw [step_ref T r s hx, step_ref T r s' hx, h.2 x b]

theorem disj_iff {a b : List Nat} (h : disj a b = true) : ∀ t ∈ a, t ∉ b := fun t ht hb => by
  have := List.all_eq_true.1 h t ht
  simp at this
  exact this hb

/-- Two that have nothing to do with one another may change places. -/
theorem swap_ok (T : Tab) {r r' : RO} (h : apart r r' = true) (s : St) : need T r' (step T r s) = need T r' s ∧ need T r (step T r' s) = need T r s ∧ Alike (step T r' (step T r s)) (step T r (step T r' s)) := by
  unfold apart at h
  simp only [Bool.and_eq_true] at h
  obtain ⟨d1, d2⟩ := h
  have n1 : ∀ t ∈ r'.rd, t ∉ r.wr := fun t ht hw => disj_iff d1 t hw (List.mem_append_left _ ht)
  have n2 : ∀ t ∈ r.rd, t ∉ r'.wr := fun t ht hw => disj_iff d2 t hw ht
  have e1 : ∀ t ∈ r'.rd, At (step T r s) s t := fun t ht => step_out T r s (n1 t ht)
  have e2 : ∀ t ∈ r.rd, At (step T r' s) s t := fun t ht => step_out T r' s (n2 t ht)
  have f1 : ∀ x ∈ r'.rd, ∀ b ∈ r'.rd, (step T r s).refOk x b = s.refOk x b := fun x hx b hb => by
    rw [step_ref T r s (n1 x hx), if_neg (fun hk => n1 b hb (RO.kills_wr hk))]
  have f2 : ∀ x ∈ r.rd, ∀ b ∈ r.rd, (step T r' s).refOk x b = s.refOk x b := fun x hx b hb => by
    rw [step_ref T r' s (n2 x hx), if_neg (fun hk => n2 b hb (RO.kills_wr hk))]
  have v1 := (val_at T r'.op (fun t ht => e1 t (List.mem_append_left _ ht)) (fun x hx b hb => f1 x (List.mem_append_left _ hx) b (List.mem_append_left _ hb))).1
  have v2 := (val_at T r.op (fun t ht => e2 t (List.mem_append_left _ ht)) (fun x hx b hb => f2 x (List.mem_append_left _ hx) b (List.mem_append_left _ hb))).1
  refine ⟨need_at T r' e1 f1, need_at T r e2 f2, fun t => ?_, fun x b => ?_⟩
  · by_cases h1 : t ∈ r'.wr
    · have h2 : t ∉ r.wr := fun hw => disj_iff d1 t hw (List.mem_append_right _ h1)
      exact (step_at T r' e1 f1 (.inr h1)).trans (step_out T r (step T r' s) h2).symm
    · by_cases h2 : t ∈ r.wr
      · exact (step_out T r' (step T r s) h1).trans (step_at T r (fun t ht => (e2 t ht).symm) (fun x hx b hb => (f2 x hx b hb).symm) (.inr h2))
      · exact ((step_out T r' _ h1).trans (step_out T r s h2)).trans ((step_out T r _ h2).trans (step_out T r' s h1)).symm
  · by_cases h1 : x ∈ r'.wr
    · have h2 : x ∉ r.wr := fun hw => disj_iff d1 x hw (List.mem_append_right _ h1)
      rw [step_ref_in T r' _ h1, step_ref T r _ h2, step_ref_in T r' _ h1, v1]
      by_cases hk : r.kills b
      · rw [if_pos hk]
        split
        · cases hb : (r'.op.yields (val T s r'.op)).isTo b with
          | false => rfl
          | true => exact (n1 b (List.mem_append_left _ (yields_to T s r'.op hb)) (RO.kills_wr hk)).elim
        · rfl
      · rw [if_neg hk]
    · by_cases h2 : x ∈ r.wr
      · rw [step_ref T r' _ h1, step_ref_in T r _ h2, step_ref_in T r _ h2, v2]
        by_cases hk : r'.kills b
        · rw [if_pos hk]
          split
          · cases hb : (r.op.yields (val T s r.op)).isTo b with
            | false => rfl
            | true => exact (n2 b (List.mem_append_left _ (yields_to T s r.op hb)) (RO.kills_wr hk)).elim
          · rfl
        · rw [if_neg hk]
      · rw [step_ref T r' _ h1, step_ref T r _ h2, step_ref T r _ h2, step_ref T r' _ h1]
        split <;> split <;> rfl

theorem WI_alike (T : Tab) (rs : List RO) {Qs : St → Prop} (hQ : ∀ s s', Alike s s' → Qs s → Qs s') : ∀ (l : List Nat) (s s' : St), Alike s s' → WI T rs l Qs s → WI T rs l Qs s'
  | [], s, s', h, hw => hQ s s' h hw
  | i :: l, s, s', h, hw => by
    obtain ⟨r, h1, h2, h3⟩ := hw
    exact ⟨r, h1, by rw [← need_at T r (fun t _ => h.1 t) (fun x _ b _ => h.2 x b)]; exact h2, WI_alike T rs hQ l _ _ (step_alike T r h) h3⟩

theorem WI_front (T : Tab) (rs : List RO) {Qs : St → Prop} (hQ : ∀ s s', Alike s s' → Qs s → Qs s') {i : Nat} {r : RO} (hi : rs[i]? = some r) (post : List Nat) : ∀ (pre : List Nat) (s : St), (∀ p ∈ pre, ∀ q, rs[p]? = some q → apart q r = true) →
    WI T rs (pre ++ i :: post) Qs s → need T r s ∧ WI T rs (pre ++ post) Qs (step T r s)
  | [], s, _, h => by
    obtain ⟨r', h1, h2, h3⟩ := h
    rw [hi] at h1
    cases h1
    exact ⟨h2, h3⟩
  | p :: pre, s, hp, h => by
    obtain ⟨q, h1, h2, h3⟩ := h
    obtain ⟨k1, k2⟩ := WI_front T rs hQ hi post pre _ (fun p hp' => hp p (List.mem_cons_of_mem _ hp')) h3
    obtain ⟨e1, e2, e3⟩ := swap_ok T (hp p (List.mem_cons_self ..) q h1) s
    refine ⟨by rw [← e1]; exact k1, q, h1, by rw [e2]; exact h2, ?_⟩
    exact WI_alike T rs hQ _ _ _ e3 k2

def remaining (n : Nat) (listed : Array Bool) : List Nat := (List.range n).filter fun i => !listed.getD i true

theorem mem_remaining {n : Nat} {listed : Array Bool} {i : Nat} : i ∈ remaining n listed ↔ i < n ∧ listed.getD i true = false := by
  simp [remaining]

theorem remaining_split {n : Nat} {listed : Array Bool} {i : Nat} (hi : i ∈ remaining n listed) (hs : listed.size = n) : ∃ pre post, remaining n listed = pre ++ i :: post ∧ remaining n (listed.setIfInBounds i true) = pre ++ post ∧ ∀ p ∈ pre, p < i ∧ listed.getD p true = false := by
  obtain ⟨h1, h2⟩ := mem_remaining.1 hi
  have hr : List.range n = List.range i ++ i :: List.range' (i + 1) (n - (i + 1)) := by
    rw [List.range_eq_range', List.range_eq_range', show n = i + (1 + (n - (i + 1))) by omega, ← List.range'_append_1]
    congr 1
    · rw [Nat.zero_add, Nat.add_comm 1, List.range'_succ]
      congr 2; omega
  refine ⟨(List.range i).filter fun j => !listed.getD j true, (List.range' (i + 1) (n - (i + 1))).filter fun j => !listed.getD j true, ?_, ?_, fun p hp => ?_⟩
  · unfold remaining
    rw [hr, List.filter_append, List.filter_cons, h2]
    rfl
  · unfold remaining
    rw [hr, List.filter_append, List.filter_cons]
    have hg : ∀ j, j ≠ i → (listed.setIfInBounds i true).getD j true = listed.getD j true := fun j hj => by
      simp only [Array.getD_eq_getD_getElem?, Array.getElem?_setIfInBounds, if_neg (Ne.symm hj)]
    have hgi : (listed.setIfInBounds i true).getD i true = true := by
      simp [Array.getD_eq_getD_getElem?, show i < listed.size by omega]
    rw [hgi]
    simp only [Bool.not_true, Bool.false_eq_true, if_false]
    congr 1
    · refine List.filter_congr fun j hj => ?_
      rw [hg j (by simp at hj; omega)]
    · refine List.filter_congr fun j hj => ?_
      rw [hg j (by simp at hj; omega)]
  · simp only [List.mem_filter, List.mem_range, Bool.not_eq_true'] at hp; exact hp

/-- Who comes before an operation, step by step, as bits of a number. -/
def ancStep (ops : Array Oper) (l : List Nat) (j : Nat) : Nat := match ops[j]? with
  | some o => o.after.toList.foldl (fun m e => if (Region.binds .any e && decide (e.on < j)) = true then m ||| (1 <<< e.on) ||| l.getD e.on 0 else m) 0
  | none => 0
def ancTo (ops : Array Oper) : Nat → List Nat
  | 0 => []
  | n + 1 => ancTo ops n ++ [ancStep ops (ancTo ops n) n]
theorem ancTo_len (ops : Array Oper) : ∀ n, (ancTo ops n).length = n
  | 0 => rfl
  | n + 1 => by simp [ancTo, ancTo_len ops n]
theorem ancTo_get (ops : Array Oper) (j : Nat) : ∀ n, j < n → (ancTo ops n).getD j 0 = ancStep ops (ancTo ops j) j
  | 0, h => by omega
  | n + 1, h => by
    rw [ancTo, List.getD_eq_getElem?_getD]
    rcases Nat.lt_or_eq_of_le (Nat.le_of_lt_succ h) with h1 | rfl
    · rw [List.getElem?_append_left (by rw [ancTo_len]; exact h1), ← List.getD_eq_getElem?_getD, ancTo_get ops j n h1]
    · rw [List.getElem?_append_right (by rw [ancTo_len]; exact Nat.le_refl _), ancTo_len]; simp
theorem anc_bit (l : List Nat) (j i : Nat) : ∀ (es : List Edge) (m : Nat), (es.foldl (fun m e => if (Region.binds .any e && decide (e.on < j)) = true then m ||| (1 <<< e.on) ||| l.getD e.on 0 else m) m).testBit i = true →
    m.testBit i = true ∨ ∃ e ∈ es, Region.binds .any e = true ∧ e.on < j ∧ (e.on = i ∨ (l.getD e.on 0).testBit i = true)
  | [], m, h => .inl h
  | e :: es, m, h => by
    rw [List.foldl_cons] at h
    rcases anc_bit l j i es _ h with h1 | ⟨e', h1, h2⟩
    · split at h1
      · rename_i hb
        simp only [Bool.and_eq_true, decide_eq_true_eq] at hb
        rw [Nat.testBit_or, Nat.testBit_or, Bool.or_eq_true, Bool.or_eq_true] at h1
        rcases h1 with (h1 | h1) | h1
        · exact .inl h1
        · refine .inr ⟨e, List.mem_cons_self .., hb.1, hb.2, .inl ?_⟩
          rw [Nat.one_shiftLeft, Nat.testBit_two_pow] at h1
          simpa using h1
        · exact .inr ⟨e, List.mem_cons_self .., hb.1, hb.2, .inr h1⟩
      · exact .inl h1
    · exact .inr ⟨e', List.mem_cons_of_mem _ h1, h2⟩
theorem anc_listed {ops : Array Oper} {listed : Array Bool} (hcl : ∀ m o, ops[m]? = some o → listed.getD m false = true → ∀ e ∈ o.after, Region.binds .any e = true → listed.getD e.on false = true) :
    ∀ j, (∀ o, ops[j]? = some o → ∀ e ∈ o.after, Region.binds .any e = true → listed.getD e.on false = true) → ∀ i, (ancStep ops (ancTo ops j) j).testBit i = true → listed.getD i false = true := by
  intro j
  induction j using Nat.strongRecOn with
  | _ j ih =>
    intro hj i hi
    unfold ancStep at hi
    cases ho : ops[j]? with
    | none => rw [ho] at hi; simp at hi
    | some o =>
      rw [ho] at hi
      rcases anc_bit _ j i _ 0 hi with h | ⟨e, he, hb, hlt, h⟩
      · simp at h
      · have hl := hj o ho e (by simpa using he) hb
        rcases h with rfl | h
        · exact hl
        · rw [ancTo_get ops e.on j hlt] at h
          exact ih e.on hlt (fun o' ho' => hcl e.on o' ho' hl) i h
/-- In whichever order. -/
def okDr (ops : Array Oper) (rs : List RO) : Bool :=
  (fun l : List Nat => (List.range ops.size).all fun j => match ops[j]?, rs[j]? with
    | some o, some r => (o.after.all fun e => !Region.binds .any e || decide (e.on < j)) &&
        (List.range j).all fun i => match rs[i]? with
          | some q => apart q r || (l.getD j 0).testBit i
          | none => false
    | _, _ => false) (ancTo ops ops.size)

section
variable {P : Program} [Globs P] {nt : Nat} {w0 : World} {S0 F0 : Fp} {fx : List (Nat × Value)}

theorem any_ok {T : Tab} (hT : SoundG P T w0 F0) {ops : Array Oper} {rs : List RO} (hc : chkROs P nt ops ops.toList rs = true) (hd : okDr ops rs = true) {Qs : St → Prop} (hQs : ∀ s s', Alike s s' → Qs s → Qs s') {Q : Exit → Act → World → Prop}
    (hz : ∀ r ∈ rs, ∀ p ∈ fx, r.d ≠ some p.1) (hQ : ∀ s a w, RX nt w0 S0 F0 fx s a w → Qs s → Q .normal a w) : ∀ (fuel : Nat) (listed : Array Bool) (s : St) (a : Act) (w : World), listed.size = ops.size → (remaining ops.size listed).length ≤ fuel → RX nt w0 S0 F0 fx s a w →
    (∀ m o, ops[m]? = some o → listed.getD m false = true → ∀ e ∈ o.after, Region.binds .any e = true → listed.getD e.on false = true) →
    WI T rs (remaining ops.size listed) Qs s → wpAny P .any ops Q fuel listed a w := by
  have hready : ∀ listed i, i ∈ Region.ready .any ops listed → i ∈ remaining ops.size listed ∧ ∀ o, ops[i]? = some o → ∀ e ∈ o.after, Region.binds .any e = true → listed.getD e.on false = true := by
    intro listed i hi
    unfold Region.ready at hi
    simp only [List.mem_filter, List.mem_range, Bool.and_eq_true, Bool.not_eq_true'] at hi
    obtain ⟨h1, h2, h3⟩ := hi
    refine ⟨mem_remaining.2 ⟨h1, h2⟩, fun o ho e he hb => ?_⟩
    rw [ho] at h3
    simp only [Option.map_some, Option.getD_some] at h3
    obtain ⟨k, hk, hke⟩ := Array.mem_iff_getElem.1 he
    have := Array.all_eq_true.1 h3 k hk
    rw [hke, hb] at this
    simpa using this
  have hnil : ∀ listed, listed.size = ops.size → Region.ready .any ops listed = [] → remaining ops.size listed = [] := by
    intro listed hs hr
    cases hrem : remaining ops.size listed with
    | nil => rfl
    | cons i l =>
      exfalso
      have hi : i ∈ remaining ops.size listed := by rw [hrem]; exact List.mem_cons_self ..
      obtain ⟨h1, h2⟩ := mem_remaining.1 hi
      obtain ⟨pre, post, q1, _, q3⟩ := remaining_split hi hs
      -- nothing before it is left
      have hmin : ∀ p, p < i → listed.getD p true = true := fun p hp => by
        cases hl : listed.getD p true with
        | true => rfl
        | false =>
          exfalso
          have hpm : p ∈ remaining ops.size listed := mem_remaining.2 ⟨by omega, hl⟩
          have hsorted : (remaining ops.size listed).Pairwise (· < ·) := List.Pairwise.filter _ (List.pairwise_lt_range)
          rw [hrem] at hpm hsorted
          rcases List.mem_cons.1 hpm with rfl | hpm
          · omega
          · have := (List.pairwise_cons.1 hsorted).1 p hpm; omega
      have hin : i ∈ Region.ready .any ops listed := by
        unfold Region.ready
        simp only [List.mem_filter, List.mem_range, Bool.and_eq_true, Bool.not_eq_true']
        refine ⟨h1, h2, ?_⟩
        have ho : ops[i]? = some ops[i] := Array.getElem?_eq_getElem h1
        rw [ho]
        simp only [Option.map_some, Option.getD_some]
        have hdi := List.all_eq_true.1 hd i (List.mem_range.2 h1)
        rw [ho] at hdi
        split at hdi
        · rename_i o r e1 e2
          cases e1
          simp only [Bool.and_eq_true] at hdi
          refine Array.all_eq_true.2 fun k hk => ?_
          have := Array.all_eq_true.1 hdi.1 k hk
          cases hb : Region.binds .any ops[i].after[k]
          · rfl
          · rw [hb] at this
            simp only [Bool.not_true, Bool.false_or, decide_eq_true_eq] at this
            show (!true || listed.getD ops[i].after[k].on false) = true
            rw [Bool.not_true, Bool.false_or]
            have hl := hmin _ this
            rw [Array.getD_eq_getD_getElem?] at hl ⊢
            rw [Array.getElem?_eq_getElem (by omega)] at hl ⊢
            exact hl
        · cases hdi
      rw [hr] at hin
      cases hin
  intro fuel
  induction fuel with
  | zero =>
    intro listed s a w hs hl h hcl hw
    have hrem : remaining ops.size listed = [] := List.eq_nil_of_length_eq_zero (by omega)
    refine ⟨?_, ?_⟩
    · cases hr : Region.ready .any ops listed with
      | nil => rfl
      | cons i l =>
        have := (hready listed i (by rw [hr]; exact List.mem_cons_self ..)).1
        rw [hrem] at this; cases this
    · rw [hrem] at hw; exact hQ s a w h hw
  | succ fuel ih =>
    intro listed s a w hs hl h hcl hw
    refine ⟨fun hr => ?_, fun i hi => ?_⟩
    · rw [hnil listed hs hr] at hw; exact hQ s a w h hw
    · obtain ⟨k1, k2⟩ := hready listed i hi
      obtain ⟨pre, post, q1, q2, q3⟩ := remaining_split k1 hs
      have hlt := (mem_remaining.1 k1).1
      have hlen := chkROs_len hc
      simp only [Array.length_toList] at hlen
      have hri : rs[i]? = some rs[i] := List.getElem?_eq_getElem (by omega)
      have ho : ops[i]? = some ops[i] := Array.getElem?_eq_getElem hlt
      have hap : ∀ p ∈ pre, ∀ q, rs[p]? = some q → apart q rs[i] = true := by
        intro p hp q hq
        obtain ⟨p1, p2⟩ := q3 p hp
        have hdi := List.all_eq_true.1 hd i (List.mem_range.2 hlt)
        rw [ho, hri] at hdi
        simp only [Bool.and_eq_true] at hdi
        have := List.all_eq_true.1 hdi.2 p (List.mem_range.2 p1)
        rw [hq] at this
        simp only [Bool.or_eq_true] at this
        rcases this with this | this
        · exact this
        · exfalso
          rw [ancTo_get ops i ops.size hlt] at this
          have hlst := anc_listed hcl i (fun o' ho' e he hb => k2 o' ho' e he hb) p this
          rw [Array.getD_eq_getD_getElem?] at hlst p2
          rw [Array.getElem?_eq_getElem (by omega)] at hlst p2
          simp at hlst p2
          rw [hlst] at p2; cases p2
      rw [q1] at hw
      obtain ⟨w1, w2⟩ := WI_front T rs hQs hri post pre s hap hw
      refine op_ok hT hc h hri (hz _ (List.mem_of_getElem? hri)) w1 fun a' w' h' => ih _ _ a' w' (by simpa using hs) ?_ h' ?_ (by rw [q2]; exact w2)
      · rw [q2]
        rw [q1] at hl
        simp at hl ⊢; omega
      · have hset : ∀ m : Nat, (listed.setIfInBounds i true).getD m false = true ↔ (m = i ∨ listed.getD m false = true) := by
          intro m
          rw [Array.getD_eq_getD_getElem?, Array.getD_eq_getD_getElem?, Array.getElem?_setIfInBounds]
          by_cases hmi : i = m
          · subst hmi
            simp [show i < listed.size by omega]
          · rw [if_neg hmi]
            simp [show ¬ m = i from fun e => hmi e.symm]
        intro m om hom hlm e he hb
        rw [hset] at hlm ⊢
        rcases hlm with rfl | hlm
        · rw [ho] at hom
          cases hom
          exact Or.inr (k2 _ ho _ he hb)
        · exact Or.inr (hcl m om hom hlm e he hb)

theorem draw_ok {T : Tab} (hT : SoundG P T w0 F0) (hm : P.follows .mixedOrders = true) {id : Nat} {ops : Array Oper} {rs : List RO} (hc : chkROs P nt ops ops.toList rs = true) (hd : okDr ops rs = true) {Qs : St → Prop} (hQs : ∀ s s', Alike s s' → Qs s → Qs s') {Q : Exit → Act → World → Prop}
    (hz : ∀ r ∈ rs, ∀ p ∈ fx, r.d ≠ some p.1) (hQ : ∀ s a w, RX nt w0 S0 F0 fx s a w → Qs s → Q .normal a w) {s : St} {a : Act} {w : World} (h : RX nt w0 S0 F0 fx s a w) (hw : WR T rs Qs s) : (Code.region id ops true).wp P Q a w := by
  refine wp_region_any hm ?_
  have hlen := chkROs_len hc
  simp only [Array.length_toList] at hlen
  have hrem : remaining ops.size (Array.replicate ops.size false) = List.range ops.size := by
    unfold remaining
    rw [List.filter_eq_self]
    intro i hi
    simp at hi
    simp [Array.getD_eq_getD_getElem?, hi]
  have := WI_of_WR T Qs rs 0 s (Nat.zero_le _) (by simpa using hw)
  refine any_ok hT hc hd hQs hz hQ ops.size _ s a w.drew (by simp) (by rw [hrem]; simp) h.drew ?_ ?_
  · intro m o _ hl
    simp [Array.getD_eq_getD_getElem?, Array.getElem?_replicate] at hl
    split at hl <;> simp at hl
  rw [hrem, List.range_eq_range', hlen]
  exact this
end

theorem keepV_alike {s s' : St} (h : Alike s s') (t : Nat) (x : AV) : keepV s t x = keepV s' t x := by
  cases x <;> simp only [keepV, h.2]
theorem keep_alike {s s' : St} (h : Alike s s') (V : List Nat) : s.keep V = s'.keep V := by
  induction V with
  | nil => rfl
  | cons t V ih => simp only [St.keep, ih, (h.1 t).1, (h.1 t).2.1, keepV_alike h]

end Go.Proofs.Ytbikpgaiocjnoaa.Pad
