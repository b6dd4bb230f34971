/- Loops that count, and loops with a state of their own; facts on lists. -/
import Derived.Test.YtbikpgaiocjnoaaE18
set_option linter.unusedVariables false
set_option linter.unusedSimpArgs false
namespace Go.Proofs.Ytbikpgaiocjnoaa.Pad
theorem WR_mono {T : Tab} {Q Q' : St → Prop} (h : ∀ s, Q s → Q' s) : ∀ (os : List RO) (s : St), WR T os Q s → WR T os Q' s
  | [], s, hw => h s hw
  | _ :: os, _, hw => ⟨hw.1, WR_mono h os _ hw.2⟩
theorem W_mono {T : Tab} : ∀ (c : RC) {Q Q' : Ex → St → Prop}, (∀ e s, Q e s → Q' e s) → ∀ s, W T c Q s → W T c Q' s
  | .skip, _, _, h, s, hw => h _ s hw
  | .reg _ _ _, _, _, h, s, hw => WR_mono (fun s hs => h _ _ hs) _ s hw
  | .seq a b, _, _, h, s, hw => W_mono a (fun e s' hq => match e with
    | .normal => W_mono b h s' hq
    | .exit _ => h _ _ hq
    | .ret => h _ _ hq) s hw
  | .cond _ a b, _, _, h, s, hw => ⟨hw.1, hw.2.1, fun g => W_mono a h s (hw.2.2.1 g), fun g => W_mono b h s (hw.2.2.2 g)⟩
  | .block id a, _, _, h, s, hw => W_mono a (fun e s' hq => match e with
    | .normal => h _ _ hq
    | .exit i => by
      show if i = id then _ else _
      have hq' : if i = id then _ else _ := hq
      split
      · rename_i hi; rw [if_pos hi] at hq'; exact h _ _ hq'
      · rename_i hi; rw [if_neg hi] at hq'; exact h _ _ hq'
    | .ret => h _ _ hq) s hw
  | .loop a, _, _, h, s, hw => by
    obtain ⟨I, μ, h0, hb⟩ := hw
    exact ⟨I, μ, h0, fun s' hs' => W_mono a (fun e s'' hq => match e with
      | .normal => hq
      | .exit _ => h _ _ hq
      | .ret => h _ _ hq) s' (hb s' hs')⟩
  | .exit _, _, _, h, s, hw => h _ s hw
  | .ret, _, _, h, s, hw => h _ s hw
theorem least {p : Nat → Prop} (h : ∃ n, p n) : ∃ n, p n ∧ ∀ m, p m → n ≤ m := by
  obtain ⟨n, hn⟩ := h
  induction n using Nat.strongRecOn with
  | _ n ih =>
    by_cases hm : ∃ m, m < n ∧ p m
    · obtain ⟨m, h1, h2⟩ := hm
      exact ih m h1 h2
    · exact ⟨n, hn, fun m h => by
        rcases Nat.lt_or_ge m n with h1 | h1
        · exact (hm ⟨m, h1, h⟩).elim
        · exact h1⟩
open Classical in
/-- A loop with a state of its own. -/
theorem W_var {T : Tab} {Q : Ex → St → Prop} {s : St} {a : RC} {α : Type} (P : α → Prop) (μ : α → Nat) (f : α → St) (a0 : α) (h0 : P a0) (hs : s = f a0)
    (h : ∀ x, P x → W T a (fun e s' => match e with | .normal => ∃ y, P y ∧ μ y < μ x ∧ s' = f y | .exit i => Q (.exit i) s' | .ret => Q .ret s') (f x)) : W T (.loop a) Q s := by
  let M : St → Nat := fun s => if hh : ∃ n, ∃ x, P x ∧ s = f x ∧ μ x = n then (least hh).choose else 0
  refine ⟨fun s => ∃ x, P x ∧ s = f x, M, ⟨a0, h0, hs⟩, ?_⟩
  intro s' hs'
  obtain ⟨x1, p1, e1⟩ := hs'
  have hh : ∃ n, ∃ x, P x ∧ s' = f x ∧ μ x = n := ⟨_, x1, p1, e1, rfl⟩
  obtain ⟨x, px, ex, hx⟩ := (least hh).choose_spec.1
  have hM : M s' = μ x := by show dite _ _ _ = _; rw [dif_pos hh, hx]
  rw [ex]
  refine W_mono a ?_ _ (h x px)
  intro e s'' hq
  match e, hq with
  | .normal, ⟨y, py, ly, ey⟩ =>
    refine ⟨⟨y, py, ey⟩, ?_⟩
    have hh' : ∃ n, ∃ x, P x ∧ s'' = f x ∧ μ x = n := ⟨_, y, py, ey, rfl⟩
    have : M s'' ≤ μ y := by
      show dite _ _ _ ≤ _
      rw [dif_pos hh']
      exact (least hh').choose_spec.2 _ ⟨y, py, ey, rfl⟩
    rw [← ex, hM]
    omega
  | .exit _, hq => exact hq
  | .ret, hq => exact hq
/-- A loop that counts up to n. -/
theorem W_for {T : Tab} {Q : Ex → St → Prop} {s : St} {a : RC} (n : Nat) (P : Nat → Prop) (f : Nat → St) (h0 : P 0) (hs : s = f 0)
    (hstep : ∀ k, k < n → P k → W T a (fun e s' => match e with | .normal => P (k + 1) ∧ s' = f (k + 1) | .exit i => Q (.exit i) s' | .ret => Q .ret s') (f k))
    (hend : P n → W T a (fun e s' => match e with | .normal => False | .exit i => Q (.exit i) s' | .ret => Q .ret s') (f n)) : W T (.loop a) Q s := by
  refine W_var (fun k => k ≤ n ∧ P k) (fun k => n - k) f 0 ⟨Nat.zero_le _, h0⟩ hs ?_
  rintro k ⟨hk, hp⟩
  rcases Nat.lt_or_eq_of_le hk with hlt | rfl
  · refine W_mono a ?_ _ (hstep k hlt hp)
    intro e s' hq
    match e, hq with
    | .normal, hq => exact ⟨k + 1, ⟨hlt, hq.1⟩, by omega, hq.2⟩
    | .exit _, hq => exact hq
    | .ret, hq => exact hq
  · refine W_mono a ?_ _ (hend hp)
    intro e s' hq
    match e, hq with
    | .normal, hq => exact hq.elim
    | .exit _, hq => exact hq
    | .ret, hq => exact hq
/-- A state with some variables set anew, in place. -/
def updV : List (Nat × AV) → Nat → AV → AV
  | [], _, v => v
  | (t, x) :: l, n, v => if t = n then x else updV l n v
def updS : St → List (Nat × AV) → St
  | [], _ => []
  | e :: s, ch => ⟨e.t, updV ch e.t e.v, e.d, e.k⟩ :: updS s ch
attribute [simp] updV updS
/-- A loop that counts up to n; what changes is named. -/
theorem W_forU {T : Tab} {Q : Ex → St → Prop} {s : St} {a : RC} (n : Nat) (P : Nat → Prop) (ch : Nat → List (Nat × AV)) (h0 : P 0) (hs : s = updS s (ch 0))
    (hstep : ∀ k, k < n → P k → W T a (fun e s' => match e with | .normal => P (k + 1) ∧ s' = updS s (ch (k + 1)) | .exit i => Q (.exit i) s' | .ret => Q .ret s') (updS s (ch k)))
    (hend : P n → W T a (fun e s' => match e with | .normal => False | .exit i => Q (.exit i) s' | .ret => Q .ret s') (updS s (ch n))) : W T (.loop a) Q s :=
  W_for n P (fun k => updS s (ch k)) h0 hs hstep hend
/-- A loop with a state of its own; what changes is named. -/
theorem W_varU {T : Tab} {Q : Ex → St → Prop} {s : St} {a : RC} {α : Type} (P : α → Prop) (μ : α → Nat) (ch : α → List (Nat × AV)) (a0 : α) (h0 : P a0) (hs : s = updS s (ch a0))
    (h : ∀ x, P x → W T a (fun e s' => match e with | .normal => ∃ y, P y ∧ μ y < μ x ∧ s' = updS s (ch y) | .exit i => Q (.exit i) s' | .ret => Q .ret s') (updS s (ch x))) : W T (.loop a) Q s :=
  W_var P μ (fun x => updS s (ch x)) a0 h0 hs h
attribute [simp] strs_inj
/-- simp doesn't go into what comes behind a loop. -/
@[congr] theorem W_congr {T : Tab} {c : RC} {Q : Ex → St → Prop} {s s' : St} (h : s = s') : W T c Q s = W T c Q s' := by rw [h]
theorem getI {α : Type} {l : List α} {k : Nat} (h : k < l.length) : l[k]? = some l[k] := List.getElem?_eq_getElem h
theorem take_all {α : Type} (p : α → Prop) {l : List α} {k : Nat} (h : k < l.length) (h1 : ∀ x ∈ l.take k, p x) (h2 : p l[k]) : ∀ x ∈ l.take (k + 1), p x := by
  rw [take_one l k h]
  intro x hx
  rcases List.mem_append.1 hx with hx | hx
  · exact h1 x hx
  · simp at hx; subst hx; exact h2
end Go.Proofs.Ytbikpgaiocjnoaa.Pad
