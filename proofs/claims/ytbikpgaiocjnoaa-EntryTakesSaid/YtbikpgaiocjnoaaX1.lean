/- entry: what is too much to be looked at. -/
import Derived.Test.YtbikpgaiocjnoaaX0
set_option linter.unusedVariables false
set_option linter.unusedSimpArgs false
namespace Go.Proofs.Ytbikpgaiocjnoaa
open Go.Proofs.Ytbikpgaiocjnoaa.Pad Go.Proofs.Ytbikpgaiocjnoaa.Pad.En
theorem nd_inj3 {α : Type} {f : Nd → Nat → Int → α} : ∀ a b : Nd × Nat × Int, [AV.agg a.1.av, AV.int .i64 a.2.1, AV.int .i64 a.2.2] = [AV.agg b.1.av, AV.int .i64 b.2.1, AV.int .i64 b.2.2] → f a.1 a.2.1 a.2.2 = f b.1 b.2.1 b.2.2 := by
  rintro ⟨x, i, l⟩ ⟨y, j, m⟩ h
  simp only [List.cons.injEq, AV.agg.injEq, AV.int.injEq, true_and, and_true, Int.natCast_inj] at h
  rw [av_inj _ _ h.1, h.2.1, h.2.2]
theorem longs_all {l : List Tx} (h : longs l = false) : ∀ i (hi : i < l.length), ¬ 200 < l[i].length := fun i hi h2 => by
  have : longs l = true := List.any_eq_true.2 ⟨l[i], List.getElem_mem hi, by simpa using h2⟩
  rw [this] at h; cases h
noncomputable def R26 (m : Nat) : Tab := tabAdd T22 26 (fun z : Nd × Nat × Int => (z.2.1 ≤ 100 ∧ -1000 ≤ z.2.2 ∧ z.2.2 ≤ 1000) ∧ z.1.sz < m) (fun z => [.agg z.1.av, .int .i64 z.2.1, .int .i64 z.2.2]) (fun z => .int .i64 (ovr z.2.1 z.2.2 z.1))
theorem R26_eq (m : Nat) (x : Nd) (d : Nat) (left : Int) (h : d ≤ 100 ∧ -1000 ≤ left ∧ left ≤ 1000) (hm : x.sz < m) : R26 m 26 [.agg x.av, .int .i64 d, .int .i64 left] = some (.int .i64 (ovr d left x)) := tabAdd_eq (a := (x, d, left)) (nd_inj3 (f := fun x d l => AV.int .i64 (ovr d l x))) ⟨h, hm⟩ rfl
@[simp] theorem R26_ne {m g : Nat} {xs : List AV} (h : g ≠ 26) : R26 m g xs = T22 g xs := tabAdd_ne h
theorem pf26 (x : Nd) (d : Nat) (left : Int) (h : d ≤ 100 ∧ -1000 ≤ left ∧ left ≤ 1000) : PFx Try.prog 26 [.agg x.av, .int .i64 d, .int .i64 left] (.int .i64 (ovr d left x)) := by
  refine tabRec (T := T22) (p := fun z : Nd × Nat × Int => z.2.1 ≤ 100 ∧ -1000 ≤ z.2.2 ∧ z.2.2 ≤ 1000) (args := fun z => [.agg z.1.av, .int .i64 z.2.1, .int .i64 z.2.2]) (res := fun z => .int .i64 (ovr z.2.1 z.2.2 z.1)) (fun z => z.1.sz) T22_ok (fun z h hT => ?_) (by unfold inPlace; omega) (x, d, left) h
  obtain ⟨x, d, left⟩ := z
  try dsimp only at h
  replace hT : Sound Try.prog (R26 (x.sz)) := hT
  refine PFx_of_W (rc := rc26) (rs := rs26) Try.func26 rfl hT hm (by kernel_rfl) (by kernel_rfl) (by simp [Try.ntmps26]) ?_
  obtain ⟨k, n, s, kids, names⟩ := x
  simp only [Nd.av]
  have hs : ∀ (c : Bool), (7 < d ∨ left < 1 ∨ 200 < s.length ∨ 70 < kids.length ∨ 70 < names.length) → ovr d left (.mk k n s kids names) = 1000 := fun _ hh => by
    rw [ovr, if_pos (by rcases hh with hh | hh | hh | hh | hh <;> simp [hh])]
  by_cases h1 : 7 < d
  · have h1' : (7 : Int) < d := by omega
    rw [hs true (.inl h1)]
    simp [rc26, rs26, h1, h1']
  have h1' : ¬ (7 : Int) < d := by omega
  by_cases h2 : left < 1
  · rw [hs true (.inr (.inl h2))]
    simp [rc26, rs26, h1, h1', h2]
  by_cases h3 : 200 < s.length
  · have h3' : (200 : Int) < s.length := by omega
    rw [hs true (.inr (.inr (.inl h3)))]
    simp [rc26, rs26, h1, h1', h2, h3, h3']
  have h3' : ¬ (200 : Int) < s.length := by omega
  by_cases h4 : 70 < kids.length
  · have h4' : (70 : Int) < kids.length := by omega
    rw [hs true (.inr (.inr (.inr (.inl h4))))]
    simp [rc26, rs26, h1, h1', h2, h3, h3', h4, h4']
  have h4' : ¬ (70 : Int) < kids.length := by omega
  by_cases h5 : 70 < names.length
  · have h5' : (70 : Int) < names.length := by omega
    rw [hs true (.inr (.inr (.inr (.inr h5))))]
    simp [rc26, rs26, h1, h1', h2, h3, h3', h4, h4', h5, h5']
  have h5' : ¬ (70 : Int) < names.length := by omega
  simp [rc26, rs26, h1, h1', h2, h3, h3', h4, h4', h5, h5']
  refine W_varU (fun i : Nat => i ≤ names.length ∧ longs names = longs (names.drop i)) (fun i => names.length - i) (fun i => [(8, .int .i64 i)]) 0 ⟨Nat.zero_le _, rfl⟩ (by simp) ?_
  rintro i ⟨hi, hc⟩
  rcases Nat.lt_or_ge i names.length with hlt | hge
  · have hlt' : (i : Int) < names.length := by omega
    by_cases h6 : 200 < names[i].length
    · have h6' : (200 : Int) < names[i].length := by omega
      have hL : longs names = true := List.any_eq_true.2 ⟨names[i], List.getElem_mem hlt, by simpa using h6⟩
      simp [hlt, hlt', h6, h6', ovr, hL]
      omega
    · have h6' : ¬ (200 : Int) < names[i].length := by omega
      simp [hlt, hlt', h6, h6']
      refine ⟨by omega, ⟨by omega, by omega⟩, i + 1, ⟨by omega, ?_⟩, by omega, by omega⟩
      rw [hc, drop_eq names i hlt]
      simp only [longs, List.any_cons, decide_eq_false h6, Bool.false_or]
  have e : i = names.length := by omega
  subst e
  have hL : longs names = false := by rw [hc]; simp [longs]
  have ho : ovr d left (.mk k n s kids names) = ovrL (d + 1) left 1 kids := by
    rw [ovr, if_neg (by simp [h1, h2, h3, h4, h5, hL])]
  simp
  rw [ho]
  refine W_varU (fun p : Nat × Int => p.1 ≤ kids.length ∧ 1 ≤ p.2 ∧ p.2 ≤ left ∧ ovrL (d + 1) left 1 kids = ovrL (d + 1) left p.2 (kids.drop p.1)) (fun p => kids.length - p.1) (fun p => [(7, .int .i64 p.2), (9, .int .i64 p.1)]) (0, 1) ⟨Nat.zero_le _, Int.le_refl _, by omega, rfl⟩ (by simp) ?_
  rintro ⟨i, u⟩ ⟨hi, hu1, hu2, hc2⟩
  simp only at hi hu1 hu2 hc2
  rw [hc2]
  rcases Nat.lt_or_ge i kids.length with hlt | hge
  · have hlt' : (i : Int) < kids.length := by omega
    have q := R26_eq (Nd.sz (.mk k n s kids names)) kids[i] (d + 1) (left - u) (by omega) (size_kid hlt)
    rw [← avs_get kids i hlt, Int.natCast_add, Int.natCast_one] at q
    have hle := ovr_le (d + 1) (left - u) (by omega) kids[i]
    have hb : 5 ≤ kids.length * 5 - i * 5 := by omega
    have hd : (d : Int) ≤ 100 := by omega
    rw [drop_eq kids i hlt, ovrL]
    generalize ovr (d + 1) (left - u) kids[i] = r at q hle
    by_cases h7 : left < u + r
    · simp [hlt, hlt', q, hb, h7]
      omega
    · simp [hlt, hlt', q, hb, h7]
      exact ⟨by omega, ⟨by omega, by omega⟩, ⟨by omega, by omega⟩, ⟨by omega, by omega⟩, i + 1, u + r, ⟨by omega, by omega, by omega, rfl⟩, by omega, rfl, by omega⟩
  · have e : i = kids.length := by omega
    subst e
    simp [ovrL]
noncomputable def T26 : Tab := tabAdd T22 26 (fun z : Nd × Nat × Int => z.2.1 ≤ 100 ∧ -1000 ≤ z.2.2 ∧ z.2.2 ≤ 1000) (fun z => [.agg z.1.av, .int .i64 z.2.1, .int .i64 z.2.2]) (fun z => .int .i64 (ovr z.2.1 z.2.2 z.1))
@[simp] theorem T26_eq (x : Nd) (d : Nat) (left : Int) (h : d ≤ 100 ∧ -1000 ≤ left ∧ left ≤ 1000) : T26 26 [.agg x.av, .int .i64 d, .int .i64 left] = some (.int .i64 (ovr d left x)) := tabAdd_eq (a := (x, d, left)) (nd_inj3 (f := fun x d l => AV.int .i64 (ovr d l x))) h rfl
@[simp] theorem T26_ne {g : Nat} {xs : List AV} (h : g ≠ 26) : T26 g xs = T22 g xs := tabAdd_ne h
theorem T26_ok : Sound Try.prog T26 := tabAdd_sound T22_ok fun z h => pf26 z.1 z.2.1 z.2.2 h
def tooMuch (x : Nd) : Bool := decide (150 < ovr 0 150 x)
theorem pf8 (x : Nd)  : PFx Try.prog 8 [.agg x.av] (.bool (tooMuch x)) := by
  refine PFx_of_W (rc := rc8) (rs := rs8) Try.func8 rfl T26_ok hm (by kernel_rfl) (by kernel_rfl) (by simp [Try.ntmps8]) ?_
  have q := T26_eq x 0 150 (by omega)
  obtain ⟨k, n, s, kids, names⟩ := x
  simp [Nd.av] at q ⊢
  simp [rc8, rs8, q, tooMuch, -T26_eq]
noncomputable def T8 : Tab := tabAdd T26 8 (fun _ : Nd => True) (fun z => [.agg z.av]) (fun z => .bool (tooMuch z))
@[simp] theorem T8_eq (x : Nd)  : T8 8 [.agg x.av] = some (.bool (tooMuch x)) := tabAdd_eq (a := x) (by intro a b h; simp only [List.cons.injEq, AV.agg.injEq, and_true] at h; rw [av_inj _ _ h]) trivial rfl
@[simp] theorem T8_ne {g : Nat} {xs : List AV} (h : g ≠ 8) : T8 g xs = T26 g xs := tabAdd_ne h
theorem T8_ok : Sound Try.prog T8 := tabAdd_sound T26_ok fun z _ => pf8 z 
end Go.Proofs.Ytbikpgaiocjnoaa

