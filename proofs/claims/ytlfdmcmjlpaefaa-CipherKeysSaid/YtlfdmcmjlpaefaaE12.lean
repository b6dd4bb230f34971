/- Code, and functions. -/
import Derived.Test.YtlfdmcmjlpaefaaE11
import Derived.KernelRfl
set_option linter.unusedVariables false
set_option linter.unusedSimpArgs false
namespace Go.Proofs.Ytlfdmcmjlpaefaa.Pad

inductive RS where
  | tmp (t : Nat)
  | cell (t n : Nat) (agg : Bool)
def RS.ok (s : St) : RS → Prop
  | .tmp t => s.D t ∧ okOwn true (s.env t)
  | .cell t n agg => s.D t ∧ (s.env t).isBox ∧ dPart 0 n agg (s.env t).inner
/-- What is handed back: owned, if it is one thing. -/
def RS.av (s : St) : RS → AV
  | .tmp t => s.env t
  | .cell t n agg => aPart 0 n agg (s.env t).inner
def okAll (s : St) : List RS → Prop
  | [] => True
  | r :: rs => r.ok s ∧ (r.av s).share.good ∧ okAll s rs
def okRes (s : St) (rs : List RS) : Prop := match rs with
  | [r] => r.ok s
  | rs => okAll s rs
def okEach (s : St) : List RS → Prop
  | [] => True
  | r :: rs => r.ok s ∧ okEach s rs
theorem okEach_of : ∀ {s : St} {rs : List RS}, okAll s rs → okEach s rs
  | _, [], _ => trivial
  | _, _ :: _, h => ⟨h.1, okEach_of h.2.2⟩
theorem okAll_good : ∀ {s : St} {rs : List RS}, okAll s rs → ∀ r ∈ rs, (r.av s).share.good
  | _, [], _, r, h => by cases h
  | _, r' :: rs, h, r, hr => by
    rcases List.mem_cons.1 hr with rfl | hr
    · exact h.2.1
    · exact okAll_good h.2.2 r hr
theorem okRes_of {s : St} {rs : List RS} (h : okRes s rs) : okEach s rs ∧ (rs.length ≠ 1 → ∀ r ∈ rs, (r.av s).share.good) := by
  match rs, h with
  | [], _ => exact ⟨trivial, fun _ r hr => by cases hr⟩
  | [r], h => exact ⟨⟨h, trivial⟩, fun hh => (hh rfl).elim⟩
  | a :: b :: rs, h => exact ⟨okEach_of h, fun _ => okAll_good h⟩
def resAV (s : St) : List RS → AV
  | [r] => r.av s
  | rs => .tup (rs.map fun r => (r.av s).share)
def chkRS (P : Program) : List ResultVar → List RS → Bool
  | [], [] => true
  | .tmp t :: vs, .tmp t' :: rs => t == t' && chkRS P vs rs
  | .cell t ty :: vs, .cell t' n agg :: rs => t == t' && szIs P ty n && aggIs P ty agg && chkRS P vs rs
  | _, _ => false

def exOf : Ex → Exit
  | .normal => .normal
  | .exit i => .exit i
  | .ret => .ret

/-- A loop, by what a ghost says. -/
theorem wp_loop_ghost {σ : Type} {P : Program} {Q : Exit → Act → World → Prop} {c : Code} (I : σ → Act → World → Prop) (μ : σ → Nat) (s : σ) {a : Act} {w : World} (h0 : I s a w)
    (round : ∀ s a w, I s a w → c.wp P (Exit.then (fun a' w' => ∃ s', I s' a' w' ∧ μ s' < μ s) Q) a w) : (Code.loop c).wp P Q a w := by
  intro b k cs
  have key : ∀ n s a w, μ s = n → I s a w → ∃ e a' w', Q e a' w' ∧ Arrives P (lone (b.at a (.code c :: .inLoop c :: k)) cs w) b k cs e a' w' := by
    intro n
    induction n using Nat.strongRecOn with
    | _ n ih =>
      intro s a w hn hI
      obtain ⟨e, a1, w1, hq, harr⟩ := round s a w hI b (.inLoop c :: k) cs
      have pass : ∀ e', e' ≠ Exit.normal → Arrives P (lone (b.at a (.code c :: .inLoop c :: k)) cs w) b (.inLoop c :: k) cs e' a1 w1 → Arrives P (lone (b.at a (.code c :: .inLoop c :: k)) cs w) b k cs e' a1 w1 :=
        fun e' he' h => Arrives.pass (x := .inLoop c) rfl (fun _ _ => .inl he') h
      cases e with
      | normal =>
        obtain ⟨s', hI1, hlt⟩ := hq
        obtain ⟨e2, a2, w2, hq2, harr2⟩ := ih (μ s') (hn ▸ hlt) s' a1 w1 rfl hI1
        exact ⟨e2, a2, w2, hq2, .of_steps (Steps.trans harr (.one step_inLoop)) harr2⟩
      | exit id => exact ⟨_, a1, w1, hq, pass _ (by simp) harr⟩
      | goto l => exact ⟨_, a1, w1, hq, pass _ (by simp) harr⟩
      | ret => exact ⟨_, a1, w1, hq, pass _ (by simp) harr⟩
      | panic ch => exact ⟨_, a1, w1, hq, pass _ (by simp) harr⟩
      | outgrown => exact ⟨_, a1, w1, hq, pass _ (by simp) harr⟩
  obtain ⟨e, a', w', hq, harr⟩ := key _ s a w rfl h0
  exact ⟨e, a', w', hq, .of_steps (.one step_loop) harr⟩

section
variable {P : Program} [Globs P] {nt : Nat} {w0 : World} {S0 F0 : Fp}

theorem code_ok {T : Tab} (hT : SoundG P T w0 F0) (hm : P.follows .mixedOrders = true) : ∀ (c : Code) (rc : RC), chkC P nt c rc = true → ∀ (Qs : Ex → St → Prop) (Q : Exit → Act → World → Prop),
    (∀ e s a w, RX nt w0 S0 F0 s a w → Qs e s → Q (exOf e) a w) → ∀ s a w, RX nt w0 S0 F0 s a w → W T rc Qs s → c.wp P Q a w := by
  intro c
  induction c with
  | skip =>
    intro rc hc Qs Q hQ s a w h hw
    cases rc <;> simp [chkC] at hc
    · exact wp_skip (hQ .normal s a w h hw)
    · rename_i d rs V
      obtain ⟨_, rfl⟩ := hc
      exact wp_skip (hQ .normal _ a w (h.keep V) hw)
  | region id ops draw =>
    intro rc hc Qs Q hQ s a w h hw
    cases rc <;> simp [chkC] at hc
    rename_i draw' rs V
    obtain ⟨⟨rfl, h1⟩, h2⟩ := hc
    have hq : ∀ s a w, RX nt w0 S0 F0 s a w → Qs .normal (s.keep V) → Q .normal a w := fun s a w h hq => hQ .normal _ a w (h.keep V) hq
    cases draw with
    | false => exact reg_ok hT h1 hq h hw
    | true => exact draw_ok hT hm h1 (by simpa using h2) (fun s s' ha hq => by rw [← keep_alike ha]; exact hq) hq h hw
  | seq x y ihx ihy =>
    intro rc hc Qs Q hQ s a w h hw
    cases rc <;> simp [chkC] at hc
    rename_i x' y'
    refine wp_seq (ihx x' hc.1 _ _ (fun e s a w h hq => ?_) s a w h hw)
    cases e with
    | normal => exact ihy y' hc.2 Qs Q hQ s a w h hq
    | exit i => exact hQ (.exit i) s a w h hq
    | ret => exact hQ .ret s a w h hq
  | cond o x y ihx ihy =>
    intro rc hc Qs Q hQ s a w h hw
    by_cases hcst : ∃ c, o = .const (.bool c)
    · obtain ⟨c, rfl⟩ := hcst
      cases c
      · exact wp_cond_false rfl (ihy rc (by simpa [chkC] using hc) Qs Q hQ s a w h hw)
      · exact wp_cond_true rfl (ihx rc (by simpa [chkC] using hc) Qs Q hQ s a w h hw)
    obtain ⟨t, rfl⟩ : ∃ t, o = .tmp t := by
      cases o with
      | tmp t => exact ⟨t, rfl⟩
      | const v => cases v <;> first | (exact (hcst ⟨_, rfl⟩).elim) | (cases rc <;> simp [chkC] at hc)
      | global g => cases rc <;> simp [chkC] at hc
      | func f => cases rc <;> simp [chkC] at hc
    cases rc <;> simp [chkC] at hc
    rename_i t' x' y'
    obtain ⟨⟨rfl, hcx⟩, hcy⟩ := hc
    simp only [W] at hw
    obtain ⟨h1, h2, h3, h4⟩ := hw
    obtain ⟨F, O, β, hR⟩ := h
    have hr := hR.rep t h1
    obtain ⟨b, hb⟩ : ∃ b, s.env t = .bool b := by revert h2; cases s.env t <;> simp [AV.isB]
    rw [hb] at hr h3 h4
    simp only [RepTop, Rep] at hr
    have hev : a.eval (.tmp t) = .bool b := hr
    cases b
    · exact wp_cond_false hev (ihy y' hcy Qs Q hQ s a w ⟨F, O, β, hR⟩ (h4 rfl))
    · exact wp_cond_true hev (ihx x' hcx Qs Q hQ s a w ⟨F, O, β, hR⟩ (h3 rfl))
  | block id x ih =>
    intro rc hc Qs Q hQ s a w h hw
    cases rc <;> simp [chkC] at hc
    rename_i id' x'
    obtain ⟨rfl, hc⟩ := hc
    refine wp_block (ih x' hc _ _ (fun e s a w h hq => ?_) s a w h hw)
    cases e with
    | normal => exact hQ .normal s a w h hq
    | exit i =>
      simp only [exOf, Exit.inBlock]
      simp only at hq
      split <;> rename_i hi
      · rw [if_pos hi] at hq; exact hQ .normal s a w h hq
      · rw [if_neg hi] at hq; exact hQ (.exit i) s a w h hq
    | ret => exact hQ .ret s a w h hq
  | loop x ih =>
    intro rc hc Qs Q hQ s a w h hw
    cases rc <;> simp [chkC] at hc
    rename_i x'
    simp only [W] at hw
    obtain ⟨I, μ, hI, hround⟩ := hw
    refine wp_loop_ghost (fun s a w => I s ∧ RX nt w0 S0 F0 s a w) μ s ⟨hI, h⟩ fun s a w ⟨hI, h⟩ => ?_
    refine ih x' hc _ _ (fun e s' a' w' h' hq => ?_) s a w h (hround s hI)
    cases e with
    | normal => exact ⟨s', ⟨hq.1, h'⟩, hq.2⟩
    | exit i => exact hQ (.exit i) s' a' w' h' hq
    | ret => exact hQ .ret s' a' w' h' hq
  | exit id =>
    intro rc hc Qs Q hQ s a w h hw
    by_cases hs : ∃ d rs V id', rc = .seq (.reg d rs V) (.exit id')
    · obtain ⟨d, rs, V, id', rfl⟩ := hs
      simp [chkC] at hc
      obtain ⟨⟨_, rfl⟩, rfl⟩ := hc
      exact wp_exit (hQ (.exit _) _ a w (h.keep V) hw)
    · have : rc = .exit id := by
        cases rc with
        | seq x y => cases x <;> cases y <;> first | (simp [chkC] at hc; done) | exact (hs ⟨_, _, _, _, rfl⟩).elim
        | exit id' => simp [chkC] at hc; rw [hc]
        | _ => simp [chkC] at hc
      subst this
      exact wp_exit (hQ (.exit _) s a w h hw)
  | ret =>
    intro rc hc Qs Q hQ s a w h hw
    cases rc <;> simp [chkC] at hc
    exact wp_ret (hQ .ret s a w h hw)
  | _ => intro rc hc; cases rc <;> simp [chkC] at hc
end

def initSt : Nat → List AV → St
  | _, [] => []
  | i, x :: xs => ⟨i, x, True, false⟩ :: initSt (i + 1) xs
theorem init_env : ∀ (xs : List AV) (i t : Nat), i ≤ t → (initSt i xs).env t = (xs[t - i]?).getD .bad
  | [], i, t, _ => by simp [initSt, St.env]
  | x :: xs, i, t, h => by
    simp only [initSt, St.env]
    by_cases e : i = t
    · subst e; simp
    · rw [if_neg e, init_env xs (i + 1) t (by omega), show t - i = (t - (i + 1)) + 1 by omega, List.getElem?_cons_succ]
theorem init_D : ∀ (xs : List AV) (i t : Nat), (initSt i xs).D t → i ≤ t ∧ t - i < xs.length
  | [], i, t, h => h.elim
  | x :: xs, i, t, h => by
    simp only [initSt, St.D] at h
    by_cases e : i = t
    · subst e; simp
    · rw [if_neg e] at h
      have := init_D xs (i + 1) t h
      simp only [List.length_cons]; omega
theorem init_ref (x b : Nat) : ∀ (xs : List AV) (i : Nat), (initSt i xs).refOk x b = true → (initSt i xs).D x ∧ ((initSt i xs).env x).isTo b = true
  | [], i, h => by simp [initSt, St.refOk] at h
  | y :: xs, i, h => by
    simp only [initSt, St.refOk, St.D, St.env] at h ⊢
    by_cases e : i = x
    · rw [if_pos e] at h ⊢; rw [if_pos e]; exact ⟨trivial, h⟩
    · rw [if_neg e, if_neg (by simp)] at h
      rw [if_neg e, if_neg e]
      exact init_ref x b xs (i + 1) h
theorem init_K : ∀ (xs : List AV) (i t : Nat), (initSt i xs).K t = false
  | [], i, t => rfl
  | x :: xs, i, t => by
    simp only [initSt, St.K]
    split
    · rfl
    · exact init_K xs (i + 1) t

def oneRes (tmps : Array Value) : ResultVar → Sem Value
  | .tmp t => pure (tmps.getD t undef)
  | .cell a t => do loadVar t (← asAddr (tmps.getD a undef))
theorem results_eq (fn : Func) (tmps : Array Value) : results fn tmps = (do let vs ← fn.results.mapM (oneRes tmps); pure (if h : vs.size = 1 then vs[0] else .tuple vs)) := by
  have : (oneRes tmps) = (fun | .tmp t => pure (tmps.getD t undef) | .cell a t => do loadVar t (← asAddr (tmps.getD a undef)) : ResultVar → Sem Value) := by
    funext x; cases x <;> rfl
  rw [this]; rfl
theorem results_ok {P : Program} {nt : Nat} {w0 : World} {S0 F0 F : Fp} {O : Nat → Fp} {β : Nat → Nat} {s : St} {a : Act} {w : World} (h : RR nt w0 S0 F0 F O β s a w) : ∀ (vs : List ResultVar) (rs : List RS), chkRS P vs rs = true → okEach s rs →
    ∃ us : List Value, (vs.mapM (oneRes a.tmps)).run P w = .ok us w ∧ us.length = rs.length ∧
      ∀ (i : Nat) (r : RS) (v : Value), rs[i]? = some r → us[i]? = some v → okOwn true (r.av s) ∧ ∃ Or n, RepTop w F Or (fun _ => n) 0 (r.av s) v ∧ (∀ b o, Or b o → ¬ F b o ∧ b < w.heap.size ∧ (w0.heap.size ≤ b ∨ S0 b o))
  | [], [], _, _ => ⟨[], rfl, rfl, fun i r v h => by simp at h⟩
  | [], _ :: _, h, _ => by simp [chkRS] at h
  | .tmp _ :: _, [], h, _ => by simp [chkRS] at h
  | .cell .. :: _, [], h, _ => by simp [chkRS] at h
  | .tmp _ :: _, .cell .. :: _, h, _ => by simp [chkRS] at h
  | .cell .. :: _, .tmp _ :: _, h, _ => by simp [chkRS] at h
  | .tmp t :: vs, .tmp t' :: rs, hc, hok => by
    simp only [chkRS, Bool.and_eq_true, beq_iff_eq] at hc
    obtain ⟨rfl, hc⟩ := hc
    simp only [okEach, RS.ok] at hok
    obtain ⟨us, e1, e2, e3⟩ := results_ok h vs rs hc hok.2
    refine ⟨tm a t :: us, ?_, by simp [e2], fun i r v hr hv => ?_⟩
    · rw [List.mapM_cons]
      simp only [oneRes, Sem.run_bind, Sem.run_pure, Result.andThen_ok, e1]
      rfl
    · cases i with
      | zero =>
        simp at hr hv
        subst hr; subst hv
        exact ⟨hok.1.2, O t, β t, RepTop.reloc rfl (h.rep t hok.1.1), fun b o ho => ⟨h.sep t b o ho, h.inO t b o ho, h.own t b o ho⟩⟩
      | succ i => exact e3 i r v (by simpa using hr) (by simpa using hv)
  | .cell t ty :: vs, .cell t' n agg :: rs, hc, hok => by
    simp only [chkRS, Bool.and_eq_true, beq_iff_eq] at hc
    obtain ⟨⟨⟨rfl, hs⟩, ha⟩, hc⟩ := hc
    simp only [okEach, RS.ok] at hok
    obtain ⟨⟨k1, k2, k3⟩, hok⟩ := hok
    obtain ⟨us, e1, e2, e3⟩ := results_ok h vs rs hc hok
    obtain ⟨xs, hx⟩ : ∃ xs, s.env t = .box xs := by revert k2; cases s.env t <;> simp [AV.isBox]
    have hr := h.rep t k1
    rw [hx] at hr k3
    simp only [RepTop] at hr
    obtain ⟨hv, c, e, q1, q2, q3⟩ := hr
    obtain ⟨v, p1, p2⟩ := run_loadVar_at (P := P) ty n agg hs ha xs (β t) 0 ⟨c.toList, q2, fun j v hj => by rw [cell_of_heap q1]; simpa using hj⟩ k3
    have hv' : a.tmps.getD t undef = .pointer (some ⟨β t, 0, none⟩) := hv
    refine ⟨v :: us, ?_, by simp [e2], fun i r u hr hu => ?_⟩
    · have h1 : (oneRes a.tmps (.cell t ty)).run P w = .ok v w := by
        simp only [oneRes, Sem.run_bind, hv', asAddr, Sem.run_pure, Result.andThen_ok, p1]
      rw [List.mapM_cons]
      simp only [Sem.run_bind, h1, Sem.run_pure, Result.andThen_ok, e1]
    · cases i with
      | zero =>
        simp at hr hu
        subst hr; subst hu
        have hav : RS.av s (.cell t n agg) = aPart 0 n agg xs := by simp only [RS.av, hx, AV.inner]
        rw [hav]
        obtain ⟨g1, g2⟩ := good_of_rep p2
        exact ⟨okOwn_good (by rw [g1]; exact g2), NoFp, 0, top_of_rep p2, fun _ _ hn => hn.elim⟩
      | succ i => exact e3 i r u (by simpa using hr) (by simpa using hu)

/-- **What a function tells, out of what its code comes to.** -/
theorem PFx_of_W {P : Program} [Globs P] {T : Tab} {f : Nat} {fn : Func} {c : Code} {rc : RC} {rs : List RS} {args : List AV} {r : AV} (hf : P.funcs[f]? = some fn) (hb : fn.body = some c)
    (hT : Sound P T) (hm : P.follows .mixedOrders = true) (hc : chkC P fn.ntmps c rc = true) (hr : chkRS P fn.results.toList rs = true) (hn : args.length ≤ fn.ntmps)
    (hw : W T rc (fun e s => match e with | .exit _ => False | _ => okRes s rs ∧ resAV s rs = r) (initSt 0 args)) : PFx P f args r := by
  intro w F Os β0 vs hgiven
  obtain ⟨hG, hvs, hargs, hsep, hdis, hinF, hinO⟩ := hgiven
  refine calls_of_wp hf hb ?_
  have hget : ∀ t, t < args.length → tm { tmps := vs ++ Array.replicate (fn.ntmps - vs.size) undef, defers := [] } t = vs.getD t undef := fun t ht => by
    unfold tm
    simp only [Array.getD_eq_getD_getElem?]
    rw [Array.getElem?_append_left (by omega)]
  have hR : RR fn.ntmps w (fun b o => ∃ i, Os i b o) F F Os β0 (initSt 0 args) { tmps := vs ++ Array.replicate (fn.ntmps - vs.size) undef, defers := [] } w := by
    refine ⟨Chg.refl _ _, fun t b o ho hF => hsep t b o ho hF, hdis, hinF, fun t b o ho => (hinO t b o ho).1, fun t b o ho => .inr ⟨t, ho⟩, fun b o hF => .inl hF, fun t ht => ?_, fun t hk _ => (by rw [init_K] at hk; cases hk), fun x b _ hb => ?_, by simp; omega, rfl, fun b o h => ⟨h, rfl⟩⟩
    · have h1 := (init_D args 0 t ht).2
      simp only [Nat.sub_zero] at h1
      rw [init_env args 0 t (Nat.zero_le _), Nat.sub_zero, hget t h1, List.getElem?_eq_getElem h1]
      have h2 : vs[t]? = some (vs.getD t undef) := by
        rw [Array.getD_eq_getD_getElem?, Array.getElem?_eq_getElem (by omega)]; rfl
      exact (hargs t args[t] _ (List.getElem?_eq_getElem h1) h2).1
    · exfalso
      obtain ⟨ht, hto⟩ := init_ref x b args 0 hb
      have h1 := (init_D args 0 x ht).2
      simp only [Nat.sub_zero] at h1
      rw [init_env args 0 x (Nat.zero_le _), Nat.sub_zero, List.getElem?_eq_getElem h1] at hto
      have h2 : vs[x]? = some (vs.getD x undef) := by
        rw [Array.getD_eq_getD_getElem?, Array.getElem?_eq_getElem (by omega)]; rfl
      have hg := (hargs x args[x] _ (List.getElem?_eq_getElem h1) h2).2
      simp only [Option.getD_some] at hto
      rw [own_isTo hg] at hto; cases hto
  refine code_ok (w0 := w) (S0 := fun b o => ∃ i, Os i b o) (F0 := F) ⟨hT, hG⟩ hm c rc hc _ _ (fun e s a w' hx hq => ?_) _ _ _ ⟨F, Os, _, hR⟩ hw
  have fin : okRes s rs ∧ resAV s rs = r → a.defers = [] ∧ ∃ v, (results fn a.tmps).run P w' = .ok v w' ∧ ∃ v' F' O' n', Ending.returned v = .returned v' ∧ Post w F (fun b o => ∃ i, Os i b o) r v' w' F' O' n' := by
    rintro ⟨hok, hav⟩
    obtain ⟨F1, O1, β1, h1⟩ := hx
    refine ⟨h1.defs, ?_⟩
    obtain ⟨hok, hgood⟩ := okRes_of hok
    obtain ⟨us, e1, e2, e3⟩ := results_ok (P := P) h1 fn.results.toList rs hr hok
    have hres : (results fn a.tmps).run P w' = .ok (if h : us.toArray.size = 1 then us.toArray[0] else .tuple us.toArray) w' := by
      rw [results_eq, Sem.run_bind, Array.mapM_eq_mapM_toList, Sem.run_map]
      rw [e1]
      simp only [Result.andThen_ok, Sem.run_pure]
    refine ⟨_, hres, ?_⟩
    by_cases hone : rs.length = 1
    · obtain ⟨r1, rfl⟩ : ∃ r1, rs = [r1] := by
        match rs, hone with
        | [r1], _ => exact ⟨r1, rfl⟩
      obtain ⟨u, rfl⟩ : ∃ u, us = [u] := by
        match us, e2 with
        | [u], _ => exact ⟨u, rfl⟩
      obtain ⟨g, Or, nr, k1, k2⟩ := e3 0 r1 u rfl rfl
      simp only [resAV] at hav
      rw [hav] at g k1
      exact ⟨u, F1, Or, nr, rfl, h1.chg, k1, fun b o ho => (k2 b o ho).1, h1.fF, fun b o ho => (k2 b o ho).2.2, h1.inF, fun b o ho => (k2 b o ho).2.1, g⟩
    · have hsz : ¬ us.toArray.size = 1 := by simp; omega
      rw [dif_neg hsz]
      have hav' : r = .tup (rs.map fun r => (r.av s).share) := by
        rw [← hav]
        match rs, hone with
        | [], _ => rfl
        | _ :: _ :: _, _ => rfl
      subst hav'
      refine ⟨_, F1, NoFp, 0, rfl, h1.chg, ?_, fun _ _ hn => hn.elim, h1.fF, fun _ _ hn => hn.elim, h1.inF, fun _ _ hn => hn.elim, trivial⟩
      simp only [RepTop, Rep]
      refine ⟨us.toArray, rfl, repL_of_get _ _ (by simp [e2]) fun j hj => ?_⟩
      have hj' : j < rs.length := by simpa using hj
      have hu : us[j]? = some us[j] := List.getElem?_eq_getElem (by omega)
      obtain ⟨_, Or, nr, k1, k2⟩ := e3 j rs[j] us[j] (List.getElem?_eq_getElem hj') hu
      have g := hgood hone _ (List.getElem_mem hj')
      exact ⟨us[j], by simp, (fun hf => by cases hf), by simpa using share_rep k1 g⟩
  cases e with
  | normal => exact fin hq
  | exit i => exact hq.elim
  | ret => exact fin hq

end Go.Proofs.Ytlfdmcmjlpaefaa.Pad
