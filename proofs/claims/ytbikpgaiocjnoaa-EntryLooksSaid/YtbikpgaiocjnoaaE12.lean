/- Code, and functions. -/
import Derived.Test.YtbikpgaiocjnoaaE11
import Derived.KernelRfl
set_option linter.unusedVariables false
set_option linter.unusedSimpArgs false
namespace Go.Proofs.Ytbikpgaiocjnoaa.Pad

inductive RS where
  | tmp (t : Nat)
  | cell (t n : Nat) (agg : Bool)
def RS.ok (s : St) : RS → Prop
  | .tmp t => s.D t ∧ okOwn true (s.env t)
  | .cell t n agg => s.D t ∧ (s.env t).isBox ∧ dPart 0 n agg (s.env t).inner
/-- What is handed back: owned, if it is one thing. -/
def RS.av (s : St) : RS → AV
  | .tmp t => s.env t
  | .cell t n agg => aPart 0 n agg (s.env t).inner
/-- Does it hand back a thing that is written in place? -/
def RS.big (s : St) (r : RS) : Bool := (r.av s).isBigT
def anyBig (s : St) : List RS → Bool
  | [] => false
  | r :: rs => r.big s || anyBig s rs
def RS.tmpIs (t : Nat) : RS → Bool
  | .tmp t' => t == t'
  | .cell .. => false
/-- What is handed back more than once is only read. -/
def okDist (s : St) : List RS → Prop
  | [] => True
  | .tmp t :: rs => ((s.env t).isBigT = true → rs.any (RS.tmpIs t) = false) ∧ okDist s rs
  | .cell .. :: rs => okDist s rs
def okAll (s : St) : List RS → Prop
  | [] => True
  | r :: rs => r.ok s ∧ ((r.av s).isBigT = false → (r.av s).share.good) ∧ okAll s rs
def okRes (s : St) (rs : List RS) : Prop := match rs with
  | [r] => r.ok s
  | rs => okAll s rs ∧ okDist s rs
def okEach (s : St) : List RS → Prop
  | [] => True
  | r :: rs => r.ok s ∧ okEach s rs
theorem okEach_of : ∀ {s : St} {rs : List RS}, okAll s rs → okEach s rs
  | _, [], _ => trivial
  | _, _ :: _, h => ⟨h.1, okEach_of h.2.2⟩
theorem okAll_good : ∀ {s : St} {rs : List RS}, okAll s rs → ∀ r ∈ rs, (r.av s).isBigT = false → (r.av s).share.good
  | _, [], _, r, h => by cases h
  | _, r' :: rs, h, r, hr => by
    rcases List.mem_cons.1 hr with rfl | hr
    · exact h.2.1
    · exact okAll_good h.2.2 r hr
theorem okDist_ne : ∀ {s : St} {rs : List RS}, okDist s rs → ∀ (i j : Nat) (t : Nat), i ≠ j → rs[i]? = some (.tmp t) → rs[j]? = some (.tmp t) → (s.env t).isBigT = false
  | _, [], _, i, j, t, _, h, _ => by simp at h
  | s, r :: rs, h, i, j, t, hij, hi, hj => by
    have htail : okDist s rs := by cases r <;> simp only [okDist] at h <;> first | exact h.2 | exact h
    have hd : ∀ (k : Nat), r = RS.tmp t → rs[k]? = some (RS.tmp t) → (s.env t).isBigT = false := fun k hr hk => by
      subst hr
      simp only [okDist] at h
      cases hb : (s.env t).isBigT with
      | false => rfl
      | true =>
        have := h.1 hb
        rw [List.any_eq_false] at this
        exact (this _ (List.mem_of_getElem? hk) (by simp [RS.tmpIs])).elim
    cases i with
    | zero =>
      cases j with
      | zero => exact (hij rfl).elim
      | succ j => exact hd j (by simpa using hi) (by simpa using hj)
    | succ i =>
      cases j with
      | zero => exact hd i (by simpa using hj) (by simpa using hi)
      | succ j => exact okDist_ne htail i j t (fun e => hij (by rw [e])) (by simpa using hi) (by simpa using hj)
theorem okRes_of {s : St} {rs : List RS} (h : okRes s rs) : okEach s rs ∧ (rs.length ≠ 1 → (∀ r ∈ rs, (r.av s).isBigT = false → (r.av s).share.good) ∧ okDist s rs) := by
  match rs, h with
  | [], _ => exact ⟨trivial, fun _ => ⟨fun r hr => (by cases hr), trivial⟩⟩
  | [r], h => exact ⟨⟨h, trivial⟩, fun hh => (hh rfl).elim⟩
  | a :: b :: rs, h => exact ⟨okEach_of h.1, fun _ => ⟨okAll_good h.1, h.2⟩⟩
/-- A part of what is handed back. -/
def RS.part (s : St) (r : RS) : AV := if (r.av s).isBigT = true then r.av s else (r.av s).share
def resAV (s : St) : List RS → AV
  | [r] => r.av s
  | rs => if anyBig s rs = true then .otup (rs.map (RS.part s)) else .tup (rs.map fun r => (r.av s).share)
theorem anyBig_not : ∀ {s : St} {rs : List RS}, anyBig s rs = false → ∀ r ∈ rs, (r.av s).isBigT = false
  | _, [], _, r, h => by cases h
  | _, r' :: rs, h, r, hr => by
    simp only [anyBig, Bool.or_eq_false_iff] at h
    rcases List.mem_cons.1 hr with rfl | hr
    · exact h.1
    · exact anyBig_not h.2 r hr
theorem resAV_many (s : St) : ∀ {rs : List RS}, rs.length ≠ 1 → resAV s rs = if anyBig s rs = true then .otup (rs.map (RS.part s)) else .tup (rs.map fun r => (r.av s).share)
  | [], _ => rfl
  | [_], h => (h rfl).elim
  | _ :: _ :: _, _ => rfl
def chkRS (P : Program) : List ResultVar → List RS → Bool
  | [], [] => true
  | .tmp t :: vs, .tmp t' :: rs => t == t' && chkRS P vs rs
  | .cell t ty :: vs, .cell t' n agg :: rs => t == t' && szIs P ty n && aggIs P ty agg && chkRS P vs rs
  | _, _ => false

def exOf : Ex → Exit
  | .normal => .normal
  | .exit i => .exit i
  | .ret => .ret

/-- A loop, by what a ghost says. -/
theorem wp_loop_ghost {σ : Type} {P : Program} {Q : Exit → Act → World → Prop} {c : Code} (I : σ → Act → World → Prop) (μ : σ → Nat) (s : σ) {a : Act} {w : World} (h0 : I s a w)
    (round : ∀ s a w, I s a w → c.wp P (Exit.then (fun a' w' => ∃ s', I s' a' w' ∧ μ s' < μ s) Q) a w) : (Code.loop c).wp P Q a w := by
  intro b k cs
  have key : ∀ n s a w, μ s = n → I s a w → ∃ e a' w', Q e a' w' ∧ Arrives P (lone (b.at a (.code c :: .inLoop c :: k)) cs w) b k cs e a' w' := by
    intro n
    induction n using Nat.strongRecOn with
    | _ n ih =>
      intro s a w hn hI
      obtain ⟨e, a1, w1, hq, harr⟩ := round s a w hI b (.inLoop c :: k) cs
      have pass : ∀ e', e' ≠ Exit.normal → Arrives P (lone (b.at a (.code c :: .inLoop c :: k)) cs w) b (.inLoop c :: k) cs e' a1 w1 → Arrives P (lone (b.at a (.code c :: .inLoop c :: k)) cs w) b k cs e' a1 w1 :=
        fun e' he' h => Arrives.pass (x := .inLoop c) rfl (fun _ _ => .inl he') h
      cases e with
      | normal =>
        obtain ⟨s', hI1, hlt⟩ := hq
        obtain ⟨e2, a2, w2, hq2, harr2⟩ := ih (μ s') (hn ▸ hlt) s' a1 w1 rfl hI1
        exact ⟨e2, a2, w2, hq2, .of_steps (Steps.trans harr (.one step_inLoop)) harr2⟩
      | exit id => exact ⟨_, a1, w1, hq, pass _ (by simp) harr⟩
      | goto l => exact ⟨_, a1, w1, hq, pass _ (by simp) harr⟩
      | ret => exact ⟨_, a1, w1, hq, pass _ (by simp) harr⟩
      | panic ch => exact ⟨_, a1, w1, hq, pass _ (by simp) harr⟩
      | outgrown => exact ⟨_, a1, w1, hq, pass _ (by simp) harr⟩
  obtain ⟨e, a', w', hq, harr⟩ := key _ s a w rfl h0
  exact ⟨e, a', w', hq, .of_steps (.one step_loop) harr⟩

/-- Is it the code? -/
def chkK (P : Program) [Globs P] (nt : Nat) : Code → RC → Bool
  | .skip, .skip => true
  | .skip, .reg d rs _ => !d && rs.isEmpty
  | .region _ ops draw, .reg draw' rs _ => draw == draw' && chkROs P nt ops ops.toList rs && (!draw || okDr ops rs)
  | .seq a b, .seq a' b' => chkK P nt a a' && chkK P nt b b'
  | .cond (.tmp t) a b, .cond t' a' b' => t == t' && chkK P nt a a' && chkK P nt b b'
  | .cond (.const (.bool c)) a b, r => if c then chkK P nt a r else chkK P nt b r
  | .block id a, .block id' a' => id == id' && chkK P nt a a'
  | .loop a, .loop a' => chkK P nt a a'
  | .exit id, .exit id' => id == id'
  | .exit id, .seq (.reg d rs _) (.exit id') => !d && rs.isEmpty && id == id'
  | .ret, .ret => true
  | _, _ => false


/-- No region yields into t. -/
def RC.off (t : Nat) : RC → Bool
  | .reg _ rs _ => rs.all fun r => r.d != some t
  | .seq a b => a.off t && b.off t
  | .cond _ a b => a.off t && b.off t
  | .block _ a => a.off t
  | .loop a => a.off t
  | _ => true

section
variable {P : Program} [Globs P] {nt : Nat} {w0 : World} {S0 F0 : Fp} {fx : List (Nat × Value)}

theorem code_ok {T : Tab} (hT : SoundG P T w0 F0) (hm : P.follows .mixedOrders = true) : ∀ (c : Code) (rc : RC), chkK P nt c rc = true → (∀ p ∈ fx, rc.off p.1 = true) → ∀ (Qs : Ex → St → Prop) (Q : Exit → Act → World → Prop),
    (∀ e s a w, RX nt w0 S0 F0 fx s a w → Qs e s → Q (exOf e) a w) → ∀ s a w, RX nt w0 S0 F0 fx s a w → W T rc Qs s → c.wp P Q a w := by
  intro c
  induction c with
  | skip =>
    intro rc hc hz Qs Q hQ s a w h hw
    cases rc <;> simp [chkK] at hc
    · exact wp_skip (hQ .normal s a w h hw)
    · rename_i d rs V
      obtain ⟨_, rfl⟩ := hc
      exact wp_skip (hQ .normal _ a w (h.keep V) hw)
  | region id ops draw =>
    intro rc hc hz Qs Q hQ s a w h hw
    cases rc <;> simp [chkK] at hc
    rename_i draw' rs V
    obtain ⟨⟨rfl, h1⟩, h2⟩ := hc
    have hq : ∀ s a w, RX nt w0 S0 F0 fx s a w → Qs .normal (s.keep V) → Q .normal a w := fun s a w h hq => hQ .normal _ a w (h.keep V) hq
    have hz' : ∀ r ∈ rs, ∀ p ∈ fx, r.d ≠ some p.1 := fun r hr p hp => by
      have := List.all_eq_true.1 (hz p hp) r hr
      simpa using this
    cases draw with
    | false => exact reg_ok hT h1 hq hz' h hw
    | true => exact draw_ok hT hm h1 (by simpa using h2) (hz := hz') (fun s s' ha hq => by rw [← keep_alike ha]; exact hq) hq h hw
  | seq x y ihx ihy =>
    intro rc hc hz Qs Q hQ s a w h hw
    cases rc <;> simp [chkK] at hc
    rename_i x' y'
    have hz1 : ∀ p ∈ fx, x'.off p.1 = true ∧ y'.off p.1 = true := fun p hp => by simpa [RC.off] using hz p hp
    refine wp_seq (ihx x' hc.1 (fun p hp => (hz1 p hp).1) _ _ (fun e s a w h hq => ?_) s a w h hw)
    cases e with
    | normal => exact ihy y' hc.2 (fun p hp => (hz1 p hp).2) Qs Q hQ s a w h hq
    | exit i => exact hQ (.exit i) s a w h hq
    | ret => exact hQ .ret s a w h hq
  | cond o x y ihx ihy =>
    intro rc hc hz Qs Q hQ s a w h hw
    by_cases hcst : ∃ c, o = .const (.bool c)
    · obtain ⟨c, rfl⟩ := hcst
      cases c
      · exact wp_cond_false rfl (ihy rc (by simpa [chkK] using hc) hz Qs Q hQ s a w h hw)
      · exact wp_cond_true rfl (ihx rc (by simpa [chkK] using hc) hz Qs Q hQ s a w h hw)
    obtain ⟨t, rfl⟩ : ∃ t, o = .tmp t := by
      cases o with
      | tmp t => exact ⟨t, rfl⟩
      | const v => cases v <;> first | (exact (hcst ⟨_, rfl⟩).elim) | (cases rc <;> simp [chkK] at hc)
      | global g => cases rc <;> simp [chkK] at hc
      | func f => cases rc <;> simp [chkK] at hc
    cases rc <;> simp [chkK] at hc
    rename_i t' x' y'
    obtain ⟨⟨rfl, hcx⟩, hcy⟩ := hc
    simp only [W] at hw
    obtain ⟨h1, h2, h3, h4⟩ := hw
    obtain ⟨⟨F, O, β, hR⟩, hfx⟩ := h
    have hz1 : ∀ p ∈ fx, x'.off p.1 = true ∧ y'.off p.1 = true := fun p hp => by simpa [RC.off] using hz p hp
    have hr := hR.rep t h1
    obtain ⟨b, hev, hbt, hbf⟩ : ∃ b, a.eval (.tmp t) = .bool b ∧ (b = true → (s.env t).mayT = true) ∧ (b = false → (s.env t).mayF = true) := by
      revert h2 hr
      cases s.env t <;> simp only [AV.isC, AV.mayT, AV.mayF, RepTop, Rep, false_implies, implies_true, forall_const]
      · intro e; exact ⟨_, e, id, fun e' => by rw [e']; rfl⟩
      · rintro ⟨b, e⟩; exact ⟨b, e, trivial, trivial⟩
    cases b
    · exact wp_cond_false hev (ihy y' hcy (fun p hp => (hz1 p hp).2) Qs Q hQ s a w ⟨⟨F, O, β, hR⟩, hfx⟩ (h4 (hbf rfl)))
    · exact wp_cond_true hev (ihx x' hcx (fun p hp => (hz1 p hp).1) Qs Q hQ s a w ⟨⟨F, O, β, hR⟩, hfx⟩ (h3 (hbt rfl)))
  | block id x ih =>
    intro rc hc hz Qs Q hQ s a w h hw
    cases rc <;> simp [chkK] at hc
    rename_i id' x'
    obtain ⟨rfl, hc⟩ := hc
    refine wp_block (ih x' hc (fun p hp => by simpa [RC.off] using hz p hp) _ _ (fun e s a w h hq => ?_) s a w h hw)
    cases e with
    | normal => exact hQ .normal s a w h hq
    | exit i =>
      simp only [exOf, Exit.inBlock]
      simp only at hq
      split <;> rename_i hi
      · rw [if_pos hi] at hq; exact hQ .normal s a w h hq
      · rw [if_neg hi] at hq; exact hQ (.exit i) s a w h hq
    | ret => exact hQ .ret s a w h hq
  | loop x ih =>
    intro rc hc hz Qs Q hQ s a w h hw
    cases rc <;> simp [chkK] at hc
    rename_i x'
    simp only [W] at hw
    obtain ⟨I, μ, hI, hround⟩ := hw
    refine wp_loop_ghost (fun s a w => I s ∧ RX nt w0 S0 F0 fx s a w) μ s ⟨hI, h⟩ fun s a w ⟨hI, h⟩ => ?_
    refine ih x' hc (fun p hp => by simpa [RC.off] using hz p hp) _ _ (fun e s' a' w' h' hq => ?_) s a w h (hround s hI)
    cases e with
    | normal => exact ⟨s', ⟨hq.1, h'⟩, hq.2⟩
    | exit i => exact hQ (.exit i) s' a' w' h' hq
    | ret => exact hQ .ret s' a' w' h' hq
  | exit id =>
    intro rc hc hz Qs Q hQ s a w h hw
    by_cases hs : ∃ d rs V id', rc = .seq (.reg d rs V) (.exit id')
    · obtain ⟨d, rs, V, id', rfl⟩ := hs
      simp [chkK] at hc
      obtain ⟨⟨_, rfl⟩, rfl⟩ := hc
      exact wp_exit (hQ (.exit _) _ a w (h.keep V) hw)
    · have : rc = .exit id := by
        cases rc with
        | seq x y => cases x <;> cases y <;> first | (simp [chkK] at hc; done) | exact (hs ⟨_, _, _, _, rfl⟩).elim
        | exit id' => simp [chkK] at hc; rw [hc]
        | _ => simp [chkK] at hc
      subst this
      exact wp_exit (hQ (.exit _) s a w h hw)
  | ret =>
    intro rc hc hz Qs Q hQ s a w h hw
    cases rc <;> simp [chkK] at hc
    exact wp_ret (hQ .ret s a w h hw)
  | _ => intro rc hc; cases rc <;> simp [chkK] at hc
end

def initSt : Nat → List AV → St
  | _, [] => []
  | i, x :: xs => ⟨i, x, True, false⟩ :: initSt (i + 1) xs
theorem init_env : ∀ (xs : List AV) (i t : Nat), i ≤ t → (initSt i xs).env t = (xs[t - i]?).getD .bad
  | [], i, t, _ => by simp [initSt, St.env]
  | x :: xs, i, t, h => by
    simp only [initSt, St.env]
    by_cases e : i = t
    · subst e; simp
    · rw [if_neg e, init_env xs (i + 1) t (by omega), show t - i = (t - (i + 1)) + 1 by omega, List.getElem?_cons_succ]
theorem init_D : ∀ (xs : List AV) (i t : Nat), (initSt i xs).D t → i ≤ t ∧ t - i < xs.length
  | [], i, t, h => h.elim
  | x :: xs, i, t, h => by
    simp only [initSt, St.D] at h
    by_cases e : i = t
    · subst e; simp
    · rw [if_neg e] at h
      have := init_D xs (i + 1) t h
      simp only [List.length_cons]; omega
theorem init_ref (x b : Nat) : ∀ (xs : List AV) (i : Nat), (initSt i xs).refOk x b = true → (initSt i xs).D x ∧ ((initSt i xs).env x).isTo b = true
  | [], i, h => by simp [initSt, St.refOk] at h
  | y :: xs, i, h => by
    simp only [initSt, St.refOk, St.D, St.env] at h ⊢
    by_cases e : i = x
    · rw [if_pos e] at h ⊢; rw [if_pos e]; exact ⟨trivial, h⟩
    · rw [if_neg e, if_neg (by simp)] at h
      rw [if_neg e, if_neg e]
      exact init_ref x b xs (i + 1) h
theorem init_K : ∀ (xs : List AV) (i t : Nat), (initSt i xs).K t = false
  | [], i, t => rfl
  | x :: xs, i, t => by
    simp only [initSt, St.K]
    split
    · rfl
    · exact init_K xs (i + 1) t

def oneRes (tmps : Array Value) : ResultVar → Sem Value
  | .tmp t => pure (tmps.getD t undef)
  | .cell a t => do loadVar t (← asAddr (tmps.getD a undef))
theorem results_eq (fn : Func) (tmps : Array Value) : results fn tmps = (do let vs ← fn.results.mapM (oneRes tmps); pure (if h : vs.size = 1 then vs[0] else .tuple vs)) := by
  have : (oneRes tmps) = (fun | .tmp t => pure (tmps.getD t undef) | .cell a t => do loadVar t (← asAddr (tmps.getD a undef)) : ResultVar → Sem Value) := by
    funext x; cases x <;> rfl
  rw [this]; rfl
theorem results_ok {P : Program} {nt : Nat} {w0 : World} {S0 F0 F : Fp} {O : Nat → Fp} {β : Nat → Nat} {s : St} {a : Act} {w : World} (h : RR nt w0 S0 F0 F O β s a w) : ∀ (vs : List ResultVar) (rs : List RS), chkRS P vs rs = true → okEach s rs →
    ∃ us : List Value, (vs.mapM (oneRes a.tmps)).run P w = .ok us w ∧ us.length = rs.length ∧
      ∀ (i : Nat) (r : RS) (v : Value), rs[i]? = some r → us[i]? = some v → okOwn true (r.av s) ∧ ∃ Or n, RepTop w F Or (fun _ => n) 0 (r.av s) v ∧ (∀ b o, Or b o → ¬ F b o ∧ b < w.heap.size ∧ (w0.heap.size ≤ b ∨ S0 b o)) ∧ ∀ b o, Or b o → ∃ t, r = .tmp t ∧ O t b o
  | [], [], _, _ => ⟨[], rfl, rfl, fun i r v h => by simp at h⟩
  | [], _ :: _, h, _ => by simp [chkRS] at h
  | .tmp _ :: _, [], h, _ => by simp [chkRS] at h
  | .cell .. :: _, [], h, _ => by simp [chkRS] at h
  | .tmp _ :: _, .cell .. :: _, h, _ => by simp [chkRS] at h
  | .cell .. :: _, .tmp _ :: _, h, _ => by simp [chkRS] at h
  | .tmp t :: vs, .tmp t' :: rs, hc, hok => by
    simp only [chkRS, Bool.and_eq_true, beq_iff_eq] at hc
    obtain ⟨rfl, hc⟩ := hc
    simp only [okEach, RS.ok] at hok
    obtain ⟨us, e1, e2, e3⟩ := results_ok h vs rs hc hok.2
    refine ⟨tm a t :: us, ?_, by simp [e2], fun i r v hr hv => ?_⟩
    · rw [List.mapM_cons]
      simp only [oneRes, Sem.run_bind, Sem.run_pure, Result.andThen_ok, e1]
      rfl
    · cases i with
      | zero =>
        simp at hr hv
        subst hr; subst hv
        exact ⟨hok.1.2, O t, β t, RepTop.reloc rfl (h.rep t hok.1.1), fun b o ho => ⟨h.sep t b o ho, h.inO t b o ho, h.own t b o ho⟩, fun b o ho => ⟨t, rfl, ho⟩⟩
      | succ i => exact e3 i r v (by simpa using hr) (by simpa using hv)
  | .cell t ty :: vs, .cell t' n agg :: rs, hc, hok => by
    simp only [chkRS, Bool.and_eq_true, beq_iff_eq] at hc
    obtain ⟨⟨⟨rfl, hs⟩, ha⟩, hc⟩ := hc
    simp only [okEach, RS.ok] at hok
    obtain ⟨⟨k1, k2, k3⟩, hok⟩ := hok
    obtain ⟨us, e1, e2, e3⟩ := results_ok h vs rs hc hok
    obtain ⟨xs, hx⟩ : ∃ xs, s.env t = .box xs := by revert k2; cases s.env t <;> simp [AV.isBox]
    have hr := h.rep t k1
    rw [hx] at hr k3
    simp only [RepTop] at hr
    obtain ⟨hv, c, e, q1, q2, q3⟩ := hr
    obtain ⟨v, p1, p2⟩ := run_loadVar_at (P := P) ty n agg hs ha xs (β t) 0 ⟨c.toList, q2, fun j v hj => by rw [cell_of_heap q1]; simpa using hj⟩ k3
    have hv' : a.tmps.getD t undef = .pointer (some ⟨β t, 0, none⟩) := hv
    refine ⟨v :: us, ?_, by simp [e2], fun i r u hr hu => ?_⟩
    · have h1 : (oneRes a.tmps (.cell t ty)).run P w = .ok v w := by
        simp only [oneRes, Sem.run_bind, hv', asAddr, Sem.run_pure, Result.andThen_ok, p1]
      rw [List.mapM_cons]
      simp only [Sem.run_bind, h1, Sem.run_pure, Result.andThen_ok, e1]
    · cases i with
      | zero =>
        simp at hr hu
        subst hr; subst hu
        have hav : RS.av s (.cell t n agg) = aPart 0 n agg xs := by simp only [RS.av, hx, AV.inner]
        rw [hav]
        obtain ⟨g1, g2⟩ := good_of_rep p2
        exact ⟨okOwn_good (by rw [g1]; exact g2), NoFp, 0, top_of_rep p2, fun _ _ hn => hn.elim, fun _ _ hn => hn.elim⟩
      | succ i => exact e3 i r u (by simpa using hr) (by simpa using hu)

/-- Several things that are handed back. -/
theorem many_ok {nt : Nat} {w0 : World} {S0 F0 F : Fp} {O : Nat → Fp} {β : Nat → Nat} {s : St} {a : Act} {w : World} (h : RR nt w0 S0 F0 F O β s a w) {rs : List RS} {us : List Value} (hl : us.length = rs.length)
    (hgood : (∀ r ∈ rs, (r.av s).isBigT = false → (r.av s).share.good) ∧ okDist s rs)
    (he : ∀ (i : Nat) (r : RS) (v : Value), rs[i]? = some r → us[i]? = some v → okOwn true (r.av s) ∧ ∃ Or n, RepTop w F Or (fun _ => n) 0 (r.av s) v ∧ (∀ b o, Or b o → ¬ F b o ∧ b < w.heap.size ∧ (w0.heap.size ≤ b ∨ S0 b o)) ∧ ∀ b o, Or b o → ∃ t, r = .tmp t ∧ O t b o) :
    ∃ O', RepTop w F O' (fun _ => 0) 0 (if anyBig s rs = true then .otup (rs.map (RS.part s)) else .tup (rs.map fun r => (r.av s).share)) (.tuple us.toArray) ∧ okOwn true (if anyBig s rs = true then .otup (rs.map (RS.part s)) else .tup (rs.map fun r => (r.av s).share)) ∧
      (∀ b o, O' b o → ¬ F b o ∧ b < w.heap.size ∧ (w0.heap.size ≤ b ∨ S0 b o)) ∧ ∀ b o, O' b o → ∃ t, .tmp t ∈ rs ∧ O t b o := by
  cases hb : anyBig s rs with
  | false =>
    simp only [Bool.false_eq_true, if_false]
    refine ⟨NoFp, ?_, trivial, fun _ _ hn => hn.elim, fun _ _ hn => hn.elim⟩
    simp only [RepTop, Rep]
    refine ⟨us.toArray, rfl, repL_of_get _ _ (by simp [hl]) fun j hj => ?_⟩
    have hj' : j < rs.length := by simpa using hj
    have hu : us[j]? = some us[j] := List.getElem?_eq_getElem (by omega)
    obtain ⟨_, Or, nr, k1, _, _⟩ := he j rs[j] us[j] (List.getElem?_eq_getElem hj') hu
    have g := hgood.1 _ (List.getElem_mem hj') (anyBig_not hb _ (List.getElem_mem hj'))
    exact ⟨us[j], by simp, (fun hf => by cases hf), by simpa using share_rep k1 g⟩
  | true =>
    simp only [if_true]
    let Q : Nat → Fp := fun i b o => ∃ t, rs[i]? = some (.tmp t) ∧ (s.env t).isBigT = true ∧ O t b o
    refine ⟨fun b o => ∃ i, Q i b o, ?_, trivial, fun b o ⟨i, t, q1, q2, q3⟩ => ⟨h.sep t b o q3, h.inO t b o q3, h.own t b o q3⟩, fun b o ⟨i, t, q1, q2, q3⟩ => ⟨t, List.mem_of_getElem? q1, q3⟩⟩
    simp only [RepTop]
    refine ⟨us.toArray, rfl, by simp [hl], Q, fun i b o hq => ⟨i, hq⟩, fun i j b o hij ⟨t, q1, q2, q3⟩ ⟨t', r1, r2, r3⟩ => ?_, fun i x u hx hu => ?_⟩
    · by_cases e : t = t'
      · subst e
        rw [okDist_ne hgood.2 i j t hij q1 r1] at q2; cases q2
      · exact h.dis t t' b o e q3 r3
    · rw [List.getElem?_map] at hx
      obtain ⟨r, hr, rfl⟩ := Option.map_eq_some_iff.1 hx
      obtain ⟨_, Or, nr, k1, k2, k3⟩ := he i r u hr (by simpa using hu)
      unfold RS.part
      cases hbr : (r.av s).isBigT with
      | false =>
        simp only [Bool.false_eq_true, if_false]
        exact .inr (share_rep k1 (hgood.1 r (List.mem_of_getElem? hr) hbr))
      | true =>
        simp only [if_true]
        have htree : (r.av s).isTree := by revert hbr; cases r.av s <;> simp [AV.isBigT, AV.isTree]
        refine .inl (Own.mono _ (fun b o ho => ?_) (top_own htree k1).1)
        obtain ⟨t, rfl, hO⟩ := k3 b o ho
        exact ⟨t, hr, hbr, hO⟩
/-- **What a function tells, out of what its code comes to.** -/
theorem PFx_of_W {P : Program} [Globs P] {T : Tab} {f : Nat} {fn : Func} {c : Code} {rc : RC} {rs : List RS} {args : List AV} {r : AV} (hf : P.funcs[f]? = some fn) (hb : fn.body = some c)
    (hT : Sound P T) (hm : P.follows .mixedOrders = true) (hc : chkK P fn.ntmps c rc = true) (hr : chkRS P fn.results.toList rs = true) (hn : args.length ≤ fn.ntmps)
    (hw : W T rc (fun e s => match e with | .exit _ => False | _ => okRes s rs ∧ resAV s rs = r) (initSt 0 args)) : PFx P f args r := by
  intro w F Os β0 vs hgiven
  obtain ⟨hG, hvs, hargs, hsep, hdis, hinF, hinO⟩ := hgiven
  refine calls_of_wp hf hb ?_
  have hget : ∀ t, t < args.length → tm { tmps := vs ++ Array.replicate (fn.ntmps - vs.size) undef, defers := [] } t = vs.getD t undef := fun t ht => by
    unfold tm
    simp only [Array.getD_eq_getD_getElem?]
    rw [Array.getElem?_append_left (by omega)]
  have hR : RR fn.ntmps w (fun b o => ∃ i, Os i b o) F F Os β0 (initSt 0 args) { tmps := vs ++ Array.replicate (fn.ntmps - vs.size) undef, defers := [] } w := by
    refine ⟨Chg.refl _ _, fun t b o ho hF => hsep t b o ho hF, hdis, hinF, fun t b o ho => (hinO t b o ho).1, fun t b o ho => .inr ⟨t, ho⟩, fun b o hF => .inl hF, fun t ht => ?_, fun t hk _ => (by rw [init_K] at hk; cases hk), fun x b _ hb => ?_, by simp; omega, rfl, fun b o h => ⟨h, rfl⟩⟩
    · have h1 := (init_D args 0 t ht).2
      simp only [Nat.sub_zero] at h1
      rw [init_env args 0 t (Nat.zero_le _), Nat.sub_zero, hget t h1, List.getElem?_eq_getElem h1]
      have h2 : vs[t]? = some (vs.getD t undef) := by
        rw [Array.getD_eq_getD_getElem?, Array.getElem?_eq_getElem (by omega)]; rfl
      exact (hargs t args[t] _ (List.getElem?_eq_getElem h1) h2).1
    · exfalso
      obtain ⟨ht, hto⟩ := init_ref x b args 0 hb
      have h1 := (init_D args 0 x ht).2
      simp only [Nat.sub_zero] at h1
      rw [init_env args 0 x (Nat.zero_le _), Nat.sub_zero, List.getElem?_eq_getElem h1] at hto
      have h2 : vs[x]? = some (vs.getD x undef) := by
        rw [Array.getD_eq_getD_getElem?, Array.getElem?_eq_getElem (by omega)]; rfl
      have hg := (hargs x args[x] _ (List.getElem?_eq_getElem h1) h2).2
      simp only [Option.getD_some] at hto
      rw [own_isTo hg] at hto; cases hto
  refine code_ok (w0 := w) (S0 := fun b o => ∃ i, Os i b o) (F0 := F) (fx := []) ⟨hT, hG⟩ hm c rc hc (fun p hp => by cases hp) _ _ (fun e s a w' hx hq => ?_) _ _ _ ⟨⟨F, Os, _, hR⟩, fun p hp => by cases hp⟩ hw
  have fin : okRes s rs ∧ resAV s rs = r → a.defers = [] ∧ ∃ v, (results fn a.tmps).run P w' = .ok v w' ∧ ∃ v' F' O' n', Ending.returned v = .returned v' ∧ Post w F (fun b o => ∃ i, Os i b o) r v' w' F' O' n' := by
    rintro ⟨hok, hav⟩
    obtain ⟨⟨F1, O1, β1, h1⟩, _⟩ := hx
    refine ⟨h1.defs, ?_⟩
    obtain ⟨hok, hgood⟩ := okRes_of hok
    obtain ⟨us, e1, e2, e3⟩ := results_ok (P := P) h1 fn.results.toList rs hr hok
    have hres : (results fn a.tmps).run P w' = .ok (if h : us.toArray.size = 1 then us.toArray[0] else .tuple us.toArray) w' := by
      rw [results_eq, Sem.run_bind, Array.mapM_eq_mapM_toList, Sem.run_map]
      rw [e1]
      simp only [Result.andThen_ok, Sem.run_pure]
    refine ⟨_, hres, ?_⟩
    by_cases hone : rs.length = 1
    · obtain ⟨r1, rfl⟩ : ∃ r1, rs = [r1] := by
        match rs, hone with
        | [r1], _ => exact ⟨r1, rfl⟩
      obtain ⟨u, rfl⟩ : ∃ u, us = [u] := by
        match us, e2 with
        | [u], _ => exact ⟨u, rfl⟩
      obtain ⟨g, Or, nr, k1, k2, _⟩ := e3 0 r1 u rfl rfl
      simp only [resAV] at hav
      rw [hav] at g k1
      exact ⟨u, F1, Or, nr, rfl, h1.chg, k1, fun b o ho => (k2 b o ho).1, h1.fF, fun b o ho => (k2 b o ho).2.2, h1.inF, fun b o ho => (k2 b o ho).2.1, g⟩
    · have hsz : ¬ us.toArray.size = 1 := by simp; omega
      rw [dif_neg hsz]
      rw [resAV_many s hone] at hav
      obtain ⟨O', m1, m2, m3, _⟩ := many_ok h1 e2 (hgood hone) e3
      rw [hav] at m1 m2
      exact ⟨_, F1, O', 0, rfl, h1.chg, m1, fun b o ho => (m3 b o ho).1, h1.fF, fun b o ho => (m3 b o ho).2.2, h1.inF, fun b o ho => (m3 b o ho).2.1, m2⟩
  cases e with
  | normal => exact fin hq
  | exit i => exact hq.elim
  | ret => exact fin hq

/-- Does the value point at this block? -/
def pts (u : Value) (b : Nat) : Prop := u = .pointer (some ⟨b, 0, none⟩) ∨ (∃ n c, u = .slice (some ⟨b, 0, none⟩) n c) ∨ ∃ f, u = .func (.func f) #[] #[.pointer (some ⟨b, 0, none⟩)]
theorem own_pts {w : World} {F O : Fp} {β : Nat → Nat} {t : Nat} {x : AV} {u : Value} (hx : x.isBigB = true) (h : RepTop w F O β t x u) : (∀ b, pts u b → b = β t ∧ ∀ o, O b o) ∧ ∀ (β' : Nat → Nat) (t' : Nat), (∀ b, pts u b → β' t' = b) → RepTop w F O β' t' x u := by
  cases x <;> simp only [AV.isBigB, Bool.false_eq_true] at hx
  case box xs =>
    simp only [RepTop] at h ⊢
    obtain ⟨rfl, c, e, h1, h2, h3⟩ := h
    refine ⟨fun b hb => ?_, fun β' t' hβ => ?_⟩
    · rcases hb with hb | ⟨n, c, hb⟩ | ⟨f, hb⟩
      · cases hb; exact ⟨rfl, h3⟩
      · cases hb
      · cases hb
    · rw [hβ _ (.inl rfl)]
      exact ⟨rfl, c, e, h1, h2, h3⟩
  case obox xs =>
    simp only [RepTop] at h ⊢
    obtain ⟨rfl, c, e, h1, h2, h3⟩ := h
    refine ⟨fun b hb => ?_, fun β' t' hβ => ?_⟩
    · rcases hb with hb | ⟨n, c, hb⟩ | ⟨f, hb⟩
      · cases hb; exact ⟨rfl, h3⟩
      · cases hb
      · cases hb
    · rw [hβ _ (.inl rfl)]
      exact ⟨rfl, c, e, h1, h2, h3⟩
  case clo f xs =>
    simp only [RepTop] at h ⊢
    obtain ⟨rfl, c, e, h1, h2, h3⟩ := h
    refine ⟨fun b hb => ?_, fun β' t' hβ => ?_⟩
    · rcases hb with hb | ⟨n, c, hb⟩ | ⟨f, hb⟩
      · cases hb
      · cases hb
      · cases hb; exact ⟨rfl, h3⟩
    · rw [hβ _ (.inr (.inr ⟨_, rfl⟩))]
      exact ⟨rfl, c, e, h1, h2, h3⟩
  case mrow sz xs n =>
    simp only [RepTop] at h ⊢
    rcases h with ⟨rfl, h1, h2⟩ | ⟨c, cur, e, lo, hi, rfl, h1, h2, h3, h4, h5, h6, h7, h8⟩
    · exact ⟨fun b hb => (by rcases hb with hb | ⟨n, c, hb⟩ | ⟨f, hb⟩ <;> cases hb), fun _ _ _ => .inl ⟨rfl, h1, h2⟩⟩
    · refine ⟨fun b hb => ?_, fun β' t' hβ => .inr ?_⟩
      · rcases hb with hb | ⟨n, c, hb⟩ | ⟨f, hb⟩ <;> cases hb
        exact ⟨rfl, h7⟩
      · rw [hβ _ (.inr (.inl ⟨_, _, rfl⟩))]
        exact ⟨c, cur, e, lo, hi, rfl, h1, h2, h3, h4, h5, h6, h7, h8⟩
theorem pts_one {u : Value} {b c : Nat} (h : pts u b) (k : pts u c) : b = c := by
  rcases h with rfl | ⟨n, m, rfl⟩ | ⟨f, rfl⟩
  · rcases k with k | ⟨n, m, k⟩ | ⟨f, k⟩ <;> cases k
    rfl
  · rcases k with k | ⟨n', m', k⟩ | ⟨f, k⟩ <;> cases k
    rfl
  · rcases k with k | ⟨n', m', k⟩ | ⟨f', k⟩ <;> cases k
    rfl
def oneOwn (args : List AV) (p : Nat) : Bool := (List.range args.length).all fun i => i == p || !(args.getD i .bad).isBigB
def RS.not (p : Nat) : RS → Bool
  | .tmp t => t != p
  | .cell .. => true
/-- **What a function tells that turns its argument p, and what that stands for then.** -/
theorem PFb_of_W {P : Program} [Globs P] {T : Tab} {f : Nat} {fn : Func} {c : Code} {rc : RC} {rs : List RS} {args : List AV} {r x' : AV} (p : Nat) (hf : P.funcs[f]? = some fn) (hb : fn.body = some c)
    (hT : Sound P T) (hm : P.follows .mixedOrders = true) (hc : chkK P fn.ntmps c rc = true) (hr : chkRS P fn.results.toList rs = true) (hoff : (rc.off p && rs.all (RS.not p)) = true) (hn : args.length ≤ fn.ntmps) (hone : oneOwn args p = true) (hown : (args.getD p .bad).isBigB = true)
    (hw : W T rc (fun e s => match e with | .exit _ => False | _ => (okRes s rs ∧ resAV s rs = r) ∧ s.D p ∧ s.env p = x' ∧ x'.isBig) (initSt 0 args)) : PFb P f args r x' := by
  intro w F Os β0 vs hgiven
  obtain ⟨hG, hvs, hargs, hsep, hdis, hinF, hinO⟩ := hgiven
  refine calls_of_wp hf hb ?_
  simp only [Bool.and_eq_true] at hoff
  have hget : ∀ t, t < args.length → tm { tmps := vs ++ Array.replicate (fn.ntmps - vs.size) undef, defers := [] } t = vs.getD t undef := fun t ht => by
    unfold tm
    simp only [Array.getD_eq_getD_getElem?]
    rw [Array.getElem?_append_left (by omega)]
  have hval : ∀ t, t < args.length → vs[t]? = some (vs.getD t undef) := fun t ht => by
    rw [Array.getD_eq_getD_getElem?, Array.getElem?_eq_getElem (by omega)]; rfl
  obtain ⟨u, hu⟩ : ∃ u, u = vs.getD p undef := ⟨_, rfl⟩
  have hpl : p < args.length := by
    rcases Nat.lt_or_ge p args.length with h | h
    · exact h
    · rw [List.getD_eq_getElem?_getD, List.getElem?_eq_none h] at hown; simp [AV.isBigB] at hown
  have hpg : args.getD p .bad = args[p] := by simp [List.getD, hpl]
  rw [hpg] at hown
  have hpx := (hargs p args[p] u (List.getElem?_eq_getElem hpl) (by rw [hu]; exact hval p hpl)).1
  obtain ⟨q1, q2⟩ := own_pts hown hpx
  have hR : RR fn.ntmps w (fun b o => ∃ i, Os i b o) F F Os β0 (initSt 0 args) { tmps := vs ++ Array.replicate (fn.ntmps - vs.size) undef, defers := [] } w := by
    refine ⟨Chg.refl _ _, fun t b o ho hF => hsep t b o ho hF, fun t u b o htu ht hu => hdis t u b o htu ht hu, hinF, fun t b o ho => (hinO t b o ho).1, fun t b o ho => .inr ⟨t, ho⟩, fun b o hF => .inl hF, fun t ht => ?_, fun t hk _ => (by rw [init_K] at hk; cases hk), fun x b _ hb => ?_, by simp; omega, rfl, fun b o h => ⟨h, rfl⟩⟩
    · have h1 := (init_D args 0 t ht).2
      simp only [Nat.sub_zero] at h1
      rw [init_env args 0 t (Nat.zero_le _), Nat.sub_zero, hget t h1, List.getElem?_eq_getElem h1]
      exact (hargs t args[t] _ (List.getElem?_eq_getElem h1) (hval t h1)).1
    · exfalso
      obtain ⟨ht, hto⟩ := init_ref x b args 0 hb
      have h1 := (init_D args 0 x ht).2
      simp only [Nat.sub_zero] at h1
      rw [init_env args 0 x (Nat.zero_le _), Nat.sub_zero, List.getElem?_eq_getElem h1] at hto
      have hg := (hargs x args[x] _ (List.getElem?_eq_getElem h1) (hval x h1)).2
      simp only [Option.getD_some] at hto
      rw [own_isTo hg] at hto; cases hto
  refine code_ok (w0 := w) (S0 := fun b o => ∃ i, Os i b o) (F0 := F) (fx := [(p, u)]) ⟨hT, hG⟩ hm c rc hc (fun q hq => by rw [List.mem_singleton.1 hq]; exact hoff.1) _ _ (fun e s a w' hx hq => ?_) _ _ _ ⟨⟨F, Os, _, hR⟩, fun q hq => by rw [List.mem_singleton.1 hq, hu]; exact hget p hpl⟩ hw
  have fin : (okRes s rs ∧ resAV s rs = r) ∧ s.D p ∧ s.env p = x' ∧ x'.isBig → a.defers = [] ∧ ∃ v, (results fn a.tmps).run P w' = .ok v w' ∧ ∃ v' F' O' n', Ending.returned v = .returned v' ∧ Post w F (fun b o => ∃ i, Os i b o) r v' w' F' O' n' ∧
      ∀ p x u, args[p]? = some x → x.isBigB = true → vs[p]? = some u → ∃ Op, RepTop w' F' Op β0 p x' u ∧ (∀ b o, Op b o → ¬ F' b o ∧ ¬ O' b o ∧ b < w'.heap.size ∧ (w.heap.size ≤ b ∨ ∃ i, Os i b o)) ∧ x'.isBig := by
    rintro ⟨⟨hok, hav⟩, hD, henv, hx'⟩
    obtain ⟨⟨F1, O2, β1, h1⟩, hfx⟩ := hx
    refine ⟨h1.defs, ?_⟩
    obtain ⟨hok, hgood⟩ := okRes_of hok
    obtain ⟨us, e1, e2, e3⟩ := results_ok (P := P) h1 fn.results.toList rs hr hok
    have hres : (results fn a.tmps).run P w' = .ok (if h : us.toArray.size = 1 then us.toArray[0] else .tuple us.toArray) w' := by
      rw [results_eq, Sem.run_bind, Array.mapM_eq_mapM_toList, Sem.run_map]
      rw [e1]
      simp only [Result.andThen_ok, Sem.run_pure]
    refine ⟨_, hres, ?_⟩
    have hrp := h1.rep p hD
    rw [henv, hfx _ (List.mem_singleton.2 rfl)] at hrp
    have hxB : x'.isBigB = true := by revert hx'; cases x' <;> simp [AV.isBig, AV.isBigB]
    obtain ⟨z1, z2⟩ := own_pts hxB hrp
    have hout : RepTop w' F1 (O2 p) β0 p x' u := z2 β0 p (fun b hp => (q1 b hp).1.symm)
    have hother : ∀ (p' : Nat) (x : AV) (v : Value), args[p']? = some x → x.isBigB = true → vs[p']? = some v → p' = p ∧ v = u := fun p' x v h2 h3 h4 => by
      have hl := (List.getElem?_eq_some_iff.1 h2).1
      have h5 := List.all_eq_true.1 hone p' (List.mem_range.2 hl)
      rw [List.getD_eq_getElem?_getD, h2] at h5
      simp only [Option.getD_some, h3, Bool.not_true, Bool.or_false, beq_iff_eq] at h5
      subst h5
      refine ⟨rfl, ?_⟩
      rw [hval p' hl] at h4
      rw [hu]; exact (Option.some.inj h4).symm
    by_cases h1r : rs.length = 1
    · obtain ⟨r1, rfl⟩ : ∃ r1, rs = [r1] := by
        match rs, h1r with
        | [r1], _ => exact ⟨r1, rfl⟩
      obtain ⟨v, rfl⟩ : ∃ v, us = [v] := by
        match us, e2 with
        | [v], _ => exact ⟨v, rfl⟩
      obtain ⟨g, Or, nr, k1, k2, k3⟩ := e3 0 r1 v rfl rfl
      simp only [resAV] at hav
      rw [hav] at g k1
      refine ⟨v, F1, Or, nr, rfl, ⟨h1.chg, k1, fun b o ho => (k2 b o ho).1, h1.fF, fun b o ho => (k2 b o ho).2.2, h1.inF, fun b o ho => (k2 b o ho).2.1, g⟩, fun p' x v' h2 h3 h4 => ?_⟩
      obtain ⟨rfl, rfl⟩ := hother p' x v' h2 h3 h4
      refine ⟨O2 p', hout, fun b o ho => ⟨fun hf => h1.sep p' b o ho hf, fun hr' => ?_, h1.inO p' b o ho, h1.own p' b o ho⟩, hx'⟩
      obtain ⟨t, ht, hOt⟩ := k3 b o hr'
      have hne : t ≠ p' := by
        have := hoff.2
        simp only [List.all_cons, List.all_nil, Bool.and_true, ht, RS.not, bne_iff_ne, ne_eq] at this
        exact this
      exact h1.dis t p' b o hne hOt ho
    · have hsz : ¬ us.toArray.size = 1 := by simp; omega
      rw [dif_neg hsz]
      rw [resAV_many s h1r] at hav
      obtain ⟨O', m1, m2, m3, m4⟩ := many_ok h1 e2 (hgood h1r) e3
      rw [hav] at m1 m2
      refine ⟨_, F1, O', 0, rfl, ⟨h1.chg, m1, fun b o ho => (m3 b o ho).1, h1.fF, fun b o ho => (m3 b o ho).2.2, h1.inF, fun b o ho => (m3 b o ho).2.1, m2⟩, fun p' x v' h2 h3 h4 => ?_⟩
      obtain ⟨rfl, rfl⟩ := hother p' x v' h2 h3 h4
      refine ⟨O2 p', hout, fun b o ho => ⟨fun hf => h1.sep p' b o ho hf, fun hr' => ?_, h1.inO p' b o ho, h1.own p' b o ho⟩, hx'⟩
      obtain ⟨t, ht, hOt⟩ := m4 b o hr'
      have hne : t ≠ p' := by
        have := List.all_eq_true.1 hoff.2 _ ht
        simp only [RS.not, bne_iff_ne, ne_eq] at this
        exact this
      exact h1.dis t p' b o hne hOt ho
  cases e with
  | normal => exact fin hq
  | exit i => exact hq.elim
  | ret => exact fin hq

end Go.Proofs.Ytbikpgaiocjnoaa.Pad
