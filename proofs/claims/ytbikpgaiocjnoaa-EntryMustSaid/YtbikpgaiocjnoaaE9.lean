/- Every operation. -/
import Derived.Test.YtbikpgaiocjnoaaE8
import Derived.Laws.RangeString
set_option linter.unusedVariables false
set_option linter.unusedSimpArgs false
namespace Go.Proofs.Ytbikpgaiocjnoaa.Pad

def stepD (d : Option Nat) (s : St) (av : AV) (g : Prop) : St := match d with
  | none => s
  | some d => s.set d av g true

section
variable {P : Program} [Globs P] {nt : Nat} {w0 : World} {S0 F0 F : Fp} {O : Nat → Fp} {β : Nat → Nat} {s : St} {a : Act} {w : World}

theorem repL_of_get {one : Bool} : ∀ (xs : List AV) (vs : List Value), vs.length = xs.length → (∀ (j : Nat) (hj : j < xs.length), ∃ v, vs[j]? = some v ∧ (one = true → xs[j].one = true) ∧ Rep w F xs[j] v) → RepL w F one xs vs
  | [], [], _, _ => by simp only [RepL]
  | [], _ :: _, h, _ => by simp at h
  | _ :: _, [], h, _ => by simp at h
  | x :: xs, v :: vs, hl, h => by
    simp only [RepL]
    obtain ⟨u, h1, h2, h3⟩ := h 0 (by simp)
    simp at h1
    subst h1
    refine ⟨v, vs, rfl, h2, h3, repL_of_get xs vs (by simpa using hl) fun j hj => ?_⟩
    obtain ⟨u, k1, k2, k3⟩ := h (j + 1) (by simpa using hj)
    exact ⟨u, by simpa using k1, k2, k3⟩
theorem repeat_length (zs : List AV) : ∀ n, (repeatAV zs n).length = n * zs.length
  | 0 => by simp [repeatAV]
  | n + 1 => by simp [repeatAV, repeat_length zs n, Nat.add_mul]; omega
theorem repeat_get (zs : List AV) (hz : 0 < zs.length) : ∀ n j (hj : j < (repeatAV zs n).length), (repeatAV zs n)[j] = zs[j % zs.length]'(Nat.mod_lt _ hz)
  | 0, j, hj => by simp [repeatAV] at hj
  | n + 1, j, hj => by
    simp only [repeatAV]
    by_cases h : j < zs.length
    · rw [List.getElem_append_left h]; congr 1; rw [Nat.mod_eq_of_lt h]
    · rw [List.getElem_append_right (by omega), repeat_get zs hz n]
      congr 1
      exact (Nat.mod_eq_sub_mod (by omega)).symm

def ownArg (O : Nat → Fp) (p : Bool × RV) : Fp := match p with
  | (true, .t n) => O n
  | _ => NoFp
/-- The plain end of an operation. -/
theorem RR.endVal (h : RR nt w0 S0 F0 F O β s a w) {od rd : Option Nat} (hd : (match od, rd with | none, none => true | some d, some d' => d == d' && decide (d < nt) | _, _ => false) = true) (av : AV) (v : Value) (g : Prop) (hg : g) (hv : Rep w F av v) :
    ∃ O', RR nt w0 S0 F0 F O' β (stepD rd s av g) (a.put od v) w := by
  cases od <;> cases rd <;> simp at hd
  · exact ⟨O, h⟩
  · obtain ⟨rfl, hlt⟩ := hd
    exact ⟨_, h.put0 hlt av v g (fun _ => top_of_rep hv) (fun _ b hb => by rw [isTo_good (good_of_rep hv).2 (good_of_rep hv).1] at hb; cases hb) (fun hn => (hn hg).elim)⟩

theorem step_eq (T : Tab) (r : RO) (s : St) (h : (match r.op with | .stB .. | .stR .. => false | _ => true) = true) : step T r s = stepD r.d (pre T s r.op) (r.op.yields (val T s r.op)) (gd s r.g) := by
  unfold step stepD
  cases hr : r.op <;> simp [hr] at h ⊢ <;> cases r.d <;> rfl

theorem some_of {od rd : Option Nat} (hd : (match od, rd with | none, none => true | some d, some d' => d == d' && decide (d < nt) | _, _ => false) = true) (h : rd.isSome = true) : ∃ d, od = some d ∧ rd = some d ∧ d < nt := by
  cases od <;> cases rd <;> simp at hd h
  obtain ⟨rfl, hlt⟩ := hd
  exact ⟨_, rfl, rfl, hlt⟩
theorem none_of {od rd : Option Nat} (hd : (match od, rd with | none, none => true | some d, some d' => d == d' && decide (d < nt) | _, _ => false) = true) (h : rd.isNone = true) : od = none ∧ rd = none := by
  cases od <;> cases rd <;> simp at hd h
  exact ⟨rfl, rfl⟩

theorem wp_value {P : Program} {o : Oper} {v : Value} {w' : World} {K : Act → World → Prop} {Q : Exit → Act → World → Prop} (h : (execOp a.eval o).run P w = .ok (.value v) w') (hK : K (a.put o.dst v) w') : o.wp P a w K Q := by
  unfold Oper.wp; rw [h]; exact hK
theorem wp_skip' {P : Program} {o : Oper} {w' : World} {K : Act → World → Prop} {Q : Exit → Act → World → Prop} (h : (execOp a.eval o).run P w = .ok .skip w') (hK : K (a.put o.dst undef) w') : o.wp P a w K Q := by
  unfold Oper.wp; rw [h]; exact hK

theorem argAV_length (s : St) : ∀ (as : List (Bool × RV)), (argAV s as).length = as.length
  | [] => rfl
  | (true, _) :: as => by simp [argAV, argAV_length s as]
  | (false, _) :: as => by simp [argAV, argAV_length s as]
def betaOf (β : Nat → Nat) (p : Bool × RV) : Nat := match p with
  | (true, .t n) => β n
  | _ => 0
theorem args_rep (h : RR nt w0 S0 F0 F O β s a w) : ∀ (os : List Operand) (as : List (Bool × RV)), chkArgsC os as = true → okArgs s as → (argAV s as).length = os.length ∧
    ∀ (i : Nat) (x : AV) (v : Value), (argAV s as)[i]? = some x → (os.map a.eval)[i]? = some v → ∃ b y, as[i]? = some (b, y) ∧ okOwn true x ∧ ∀ (β' : Nat → Nat) (j : Nat), β' j = betaOf β (b, y) → RepTop w F (ownArg O (b, y)) β' j x v
  | [], [], _, _ => ⟨rfl, fun i x v hx => by simp [argAV] at hx⟩
  | [], _ :: _, hc, _ => by simp [chkArgsC] at hc
  | _ :: _, [], hc, _ => by simp [chkArgsC] at hc
  | o :: os, (b, y) :: as, hc, hok => by
    simp only [chkArgsC, Bool.and_eq_true] at hc
    obtain ⟨⟨h1, h2⟩, h3⟩ := hc
    simp only [okArgs] at hok
    obtain ⟨k1, k2, k3⟩ := hok
    obtain ⟨e1, e2⟩ := args_rep h os as h3 k3
    have hargs : argAV s ((b, y) :: as) = (if b then s.raw y else s.rd y) :: argAV s as := by cases b <;> rfl
    rw [hargs]
    refine ⟨by simp [e1], fun i x v hx hv => ?_⟩
    cases i with
    | zero =>
      simp at hx hv
      subst hx; subst hv
      refine ⟨b, y, rfl, ?_, fun β' j hj => ?_⟩
      · cases b
        · simp only [Bool.false_eq_true, if_false]
          refine okOwn_good ?_
          have k2' : (s.rd y).good := k2
          unfold St.rd at k2' ⊢
          rw [share_share]; exact k2'
        · exact k2
      · cases b
        · simp only [Bool.false_eq_true, if_false]
          exact top_of_rep (h.rd h1 k1 k2)
        · simp only [if_true]
          cases y with
          | t n => rw [chkV_t h1]; exact RepTop.reloc hj (h.rep n k1)
          | c v =>
            obtain ⟨sz, rfl⟩ : ∃ sz, v = .row sz [] 0 := by
              revert h2
              cases v <;> simp
              rename_i sz xs n
              cases xs <;> simp
              cases n <;> simp
            obtain ⟨u, rfl, hu⟩ : ∃ u, o = .const u ∧ cAV (.row sz [] 0) u = true := by
              cases o <;> simp [chkV] at h1
              exact ⟨_, rfl, h1⟩
            obtain ⟨_, _, e⟩ := cAV_row hu
            simp only [St.raw, RepTop]
            exact .inl ⟨e, by simp⟩
    | succ i =>
      obtain ⟨b', y', q1, q2, q3⟩ := e2 i x v (by simpa using hx) (by simpa using hv)
      exact ⟨b', y', by simpa using q1, q2, q3⟩

theorem mem_stolen {as : List (Bool × RV)} {i n : Nat} (h : as[i]? = some (true, RV.t n)) : n ∈ stolen as := by
  induction as generalizing i with
  | nil => simp at h
  | cons p as ih =>
    cases i with
    | zero => simp at h; subst h; simp [stolenN]
    | succ i =>
      have := ih (by simpa using h)
      obtain ⟨b, y⟩ := p
      cases b
      · simpa [stolenN] using this
      · cases y
        · simp [stolenN, this]
        · simpa [stolenN] using this
theorem stolen_inj {as : List (Bool × RV)} (hn : (stolen as).Nodup) : ∀ {i j n : Nat}, as[i]? = some (true, RV.t n) → as[j]? = some (true, RV.t n) → i = j := by
  induction as with
  | nil => intro i j n h; simp at h
  | cons p as ih =>
    intro i j n hi hj
    obtain ⟨b, y⟩ := p
    have hn' : (stolen as).Nodup := by
      cases b
      · simpa [stolenN] using hn
      · cases y
        · simp only [stolenN, List.nodup_cons] at hn; exact hn.2
        · simpa [stolenN] using hn
    have hno : ∀ k, (b, y) = (true, RV.t n) → as[k]? = some (true, RV.t n) → False := fun k e hk => by
      cases e
      simp only [stolenN, List.nodup_cons] at hn
      exact hn.1 (mem_stolen hk)
    cases i with
    | zero =>
      cases j with
      | zero => rfl
      | succ j => exact (hno j (by simpa using hi) (by simpa using hj)).elim
    | succ i =>
      cases j with
      | zero => exact (hno i (by simpa using hj) (by simpa using hi)).elim
      | succ j =>
        have := ih hn' (i := i) (j := j) (n := n) (by simpa using hi) (by simpa using hj)
        omega

/-- What the i-th argument owns. -/
def argOwn (O : Nat → Fp) (as : List (Bool × RV)) (i : Nat) : Fp := match as[i]? with
  | some p => ownArg O p
  | none => NoFp
theorem argOwn_iff {as : List (Bool × RV)} {i b o : Nat} (h : argOwn O as i b o) : ∃ n, as[i]? = some (true, RV.t n) ∧ O n b o := by
  unfold argOwn at h
  cases hp : as[i]? with
  | none => rw [hp] at h; exact h.elim
  | some p =>
    rw [hp] at h
    obtain ⟨b', y⟩ := p
    cases b'
    · exact h.elim
    · cases y with
      | t n => exact ⟨n, rfl, h⟩
      | c v => exact h.elim

theorem own_isTo {b : Bool} {x : AV} (h : okOwn b x) (c : Nat) : x.isTo c = false := by
  rcases okOwn_cases h with h | ⟨_, h⟩ <;> revert h <;> cases x <;> simp [AV.share, AV.good, AV.isTo, AV.isBig, AV.isOTup]
theorem own_nr {b : Bool} {x : AV} (h : okOwn b x) : x.nr = x := by
  rcases okOwn_cases h with h | ⟨_, h⟩ <;> revert h <;> cases x <;> simp [AV.share, AV.good, AV.nr, AV.isBig, AV.isOTup]
theorem run_call {P : Program} {args : Array Operand} {ts : Array TypeId} {f : Nat} {fn : Func} {o : Oper} {a : Act} {w : World} (ho : o.op = .call { callee := .value (.func f), args := args, argTypes := ts }) (h2 : P.funcs[f]? = some fn) (h3 : fn.body.isSome = true) (h4 : (fn.name == "runtime.NumGoroutine") = false) :
    (execOp a.eval o).run P w = .ok (.enter f (args.map a.eval)) w := by
  have hc : (callFunc f (args.map a.eval)).run P w = .ok (.enter f (args.map a.eval)) w := by
    simp [callFunc, h2]
    rw [if_neg (by simpa using h4), if_neg (by intro e; rw [e] at h3; simp at h3)]
  have he : execOp a.eval o = callFunc f (args.map a.eval ++ #[]) := by
    simp only [execOp, ho, resolve, Act.eval]
    simp [Deferred.ofValue, invoke]
  rw [he, Array.append_empty]
  exact hc

theorem call_ok {T : Tab} (hT : SoundG P T w0 F0) (h : RR nt w0 S0 F0 F O β s a w) {o : Oper} {r : RO} {f : Nat} {as : List (Bool × RV)} (hr : r.op = .call f as) (hc : chkOp P o.op r.op = true) (hnd : (stolen as).Nodup)
    (hd : (match o.dst, r.d with | none, none => true | some d, some d' => d == d' && decide (d < nt) | _, _ => false) = true) (hg : gd s r.g) (hn : dfn T s r.op) {K : Act → World → Prop} {Q : Exit → Act → World → Prop}
    (hK : ∀ F' O' β' a' w', RR nt w0 S0 F0 F' O' β' (step T r s) a' w' → K a' w') : o.wp P a w K Q := by
  rw [hr] at hc hn
  obtain ⟨args, ts, fn, ho, h1, hlp, h2, h3, h4⟩ := inv_call hc
  simp only [dfn] at hn
  obtain ⟨k1, k2⟩ := hn
  obtain ⟨rv, hrv⟩ := Option.isSome_iff_exists.1 k2
  have hstep : step T r s = stepD r.d (giveArgs s as) rv.nr (gd s r.g) := by
    rw [step_eq T r s (by rw [hr]), hr]
    simp only [pre, val, hrv, Option.getD_some, R1.yields]
  obtain ⟨e1, e2⟩ := args_rep h args.toList as h1 k1
  have hsz : (args.map a.eval).size = (argAV s as).length := by simp [e1]
  have hown : ∀ i b o, argOwn O as i b o → ∃ n, n ∈ stolen as ∧ O n b o := fun i b o hio => by
    obtain ⟨n, q1, q2⟩ := argOwn_iff hio
    exact ⟨n, mem_stolen q1, q2⟩
  have hpf : PFx P f (argAV s as) rv := by
    have := hT.calls f _ rv hrv
    unfold PF at this
    rwa [if_pos hlp] at this
  have hcall := hpf w F (argOwn O as) (fun i => betaOf β (as[i]?.getD (false, .t 0))) (args.map a.eval) ⟨hT.glob.agree h.gl, hsz, fun i x v hx hv => by
      obtain ⟨b, y, q1, q2, q3⟩ := e2 i x v hx (by simpa using hv)
      refine ⟨?_, q2⟩
      have : argOwn O as i = ownArg O (b, y) := by unfold argOwn; rw [q1]
      rw [this]; exact q3 _ i (by rw [q1]; rfl),
    fun i b o hio hF => by obtain ⟨n, _, q⟩ := hown i b o hio; exact h.sep n b o q hF,
    fun i j b o hij hi hj => by
      obtain ⟨n, q1, q2⟩ := argOwn_iff hi
      obtain ⟨m, p1, p2⟩ := argOwn_iff hj
      by_cases hnm : n = m
      · subst hnm; exact hij (stolen_inj hnd q1 p1)
      · exact h.dis n m b o hnm q2 p2,
    h.inF,
    fun i b o hio => by
      obtain ⟨n, q1, q2⟩ := argOwn_iff hio
      refine ⟨h.inO n b o q2, ?_⟩
      have h5 := (List.getElem?_eq_some_iff.1 q1).1
      have h6 := argAV_length s as
      omega⟩
  unfold Oper.wp
  rw [run_call ho h2 h3 h4, Oper.upon_enter]
  refine Calls.mono hcall ?_
  rintro e w' ⟨v, F', O', nb, rfl, hp⟩
  have hgv := RR.gives as O s h
  have hS : ∀ b o, (∃ i, argOwn O as i b o) → ∃ n, n ∈ stolen as ∧ O n b o := fun b o ⟨i, hi⟩ => hown i b o hi
  have hoff : ∀ t b o, offs O (stolen as) t b o → t ∉ stolen as ∧ O t b o := fun t b o hto => by
    unfold offs at hto; split at hto
    · exact hto.elim
    · exact ⟨by assumption, hto⟩
  have hm := hgv.move (S := fun b o => ∃ i, argOwn O as i b o) (F' := fun b o => F b o ∨ F' b o) hp.chg
    (fun b o hlt hs => by obtain ⟨n, _, q⟩ := hS b o hs; exact (h.own n b o q).elim (fun hh => by omega) id)
    (fun b o hs hF => by obtain ⟨n, _, q⟩ := hS b o hs; exact h.sep n b o q hF) (fun _ => False)
    (fun t b o _ hto hs => by
      obtain ⟨n, q1, q2⟩ := hS b o hs
      obtain ⟨p1, p2⟩ := hoff t b o hto
      exact h.dis t n b o (fun e => p1 (e ▸ q1)) p2 q2)
    (fun b o hF => .inl hF)
    (fun b o hF => hF.elim .inl fun hF => (hp.fF b o hF).elim .inl fun q => q.elim (fun q => .inr (.inl q)) fun q => by
      obtain ⟨n, _, q2⟩ := hS b o q; exact .inr (.inr (h.own n b o q2)))
    (fun b o hF => hF.elim (fun hF => Nat.lt_of_lt_of_le (h.inF b o hF) hp.chg.size) (hp.inF b o))
    (fun t b o hto hF => by
      obtain ⟨p1, p2⟩ := hoff t b o hto
      rcases hF with hF | hF
      · exact h.sep t b o p2 hF
      · rcases hp.fF b o hF with q | q | q
        · exact h.sep t b o p2 q
        · have := h.inO t b o p2; omega
        · obtain ⟨n, q1, q2⟩ := hS b o q
          exact h.dis t n b o (fun e => p1 (e ▸ q1)) p2 q2)
    (fun _ hu => hu.elim)
  show K (a.put o.dst v) w'
  have hrep : ∀ (β' : Nat → Nat) d, β' d = nb → RepTop w' (fun b o => F b o ∨ F' b o) O' β' d rv v := fun β' d hb =>
    RepTop.reloc hb (hp.rep.chg (S := NoFp) (Chg.refl _ _) (fun b o hF => ⟨.inr hF, hp.inF b o hF, id⟩) (fun _ _ _ hn => hn))
  have fin : ∃ O'' β'', RR nt w0 S0 F0 (fun b o => F b o ∨ F' b o) O'' β'' (step T r s) (a.put o.dst v) w' := by
    rw [hstep]
    revert hd
    cases hod : o.dst <;> cases hrd : r.d <;> intro hd <;> simp at hd
    · exact ⟨_, _, hm⟩
    · obtain ⟨rfl, hlt⟩ := hd
      rw [own_nr hp.good]
      refine ⟨_, _, hm.put hlt rv v (gd s r.g) O' nb (fun _ => hrep _ _ (by unfold upd; rw [if_pos rfl])) (fun _ b hb => by rw [own_isTo hp.good] at hb; cases hb) (fun hn => (hn hg).elim) (fun b o ho hF => ?_) (fun t b o _ ho hto => ?_) hp.inO (fun b o ho => ?_)⟩
      · rcases hF with hF | hF
        · rcases hp.fO b o ho with q | q
          · have := h.inF b o hF; omega
          · obtain ⟨n, _, q2⟩ := hS b o q; exact h.sep n b o q2 hF
        · exact hp.sep b o ho hF
      · obtain ⟨p1, p2⟩ := hoff t b o hto
        rcases hp.fO b o ho with q | q
        · have := h.inO t b o p2; omega
        · obtain ⟨n, q1, q2⟩ := hS b o q
          exact h.dis t n b o (fun e => p1 (e ▸ q1)) p2 q2
      · rcases hp.fO b o ho with q | q
        · exact .inl (Nat.le_trans h.chg.size q)
        · obtain ⟨n, _, q2⟩ := hS b o q; exact h.own n b o q2
  obtain ⟨O'', β'', hfin⟩ := fin
  exact hK _ _ _ _ _ hfin

/-! A call of a function that is a value. -/
theorem repL_app {w : World} {F : Fp} {one : Bool} : ∀ {xs ys : List AV} {us vs : List Value}, RepL w F one xs us → RepL w F one ys vs → RepL w F one (xs ++ ys) (us ++ vs)
  | [], _, us, _, h1, h2 => by simp only [RepL] at h1; subst h1; exact h2
  | x :: xs, _, us, _, h1, h2 => by
    simp only [RepL] at h1
    obtain ⟨v, vs', rfl, k1, k2, k3⟩ := h1
    simp only [List.cons_append, RepL]
    exact ⟨_, _, rfl, k1, k2, repL_app k3 h2⟩
theorem repL_at {w : World} {F : Fp} {one : Bool} : ∀ {xs : List AV} {vs : List Value}, RepL w F one xs vs → xs.length = vs.length ∧ ∀ (i : Nat) (x : AV) (v : Value), xs[i]? = some x → vs[i]? = some v → Rep w F x v
  | [], vs, h => by simp only [RepL] at h; subst h; exact ⟨rfl, fun i x v hx => by simp at hx⟩
  | y :: xs, vs, h => by
    simp only [RepL] at h
    obtain ⟨u, vs', rfl, _, k2, k3⟩ := h
    obtain ⟨q1, q2⟩ := repL_at k3
    refine ⟨by simp [q1], fun i x v hx hv => ?_⟩
    cases i with
    | zero => simp at hx hv; subst hx; subst hv; exact k2
    | succ i => exact q2 i x v (by simpa using hx) (by simpa using hv)
theorem run_callF {P : Program} {x : Operand} {args : Array Operand} {ts : Array TypeId} {f : Nat} {fn : Func} {o : Oper} {a : Act} {w : World} {cs ds : Array Value} (ho : o.op = .call { callee := .value x, args := args, argTypes := ts }) (hx : a.eval x = .func (.func f) cs ds) (h2 : P.funcs[f]? = some fn) (h3 : fn.body.isSome = true) (h4 : (fn.name == "runtime.NumGoroutine") = false) :
    (execOp a.eval o).run P w = .ok (.enter f (cs ++ args.map a.eval ++ ds)) w := by
  have hc : (callFunc f (cs ++ args.map a.eval ++ ds)).run P w = .ok (.enter f (cs ++ args.map a.eval ++ ds)) w := by
    simp [callFunc, h2]
    rw [if_neg (by simpa using h4), if_neg (by intro e; rw [e] at h3; simp at h3)]
  have he : execOp a.eval o = callFunc f (cs ++ args.map a.eval ++ ds) := by
    simp only [execOp, ho, resolve, hx]
    simp [Deferred.ofValue, invoke]
  rw [he]
  exact hc
theorem callF_ok {T : Tab} (hT : SoundG P T w0 F0) (h : RR nt w0 S0 F0 F O β s a w) {o : Oper} {r : RO} {x : RV} {as : List RV} {fs : List Nat} (hr : r.op = .callF x as fs) (hc : chkOp P o.op r.op = true)
    (hd : (match o.dst, r.d with | none, none => true | some d, some d' => d == d' && decide (d < nt) | _, _ => false) = true) (hg : gd s r.g) (hn : dfn T s r.op) {K : Act → World → Prop} {Q : Exit → Act → World → Prop}
    (hK : ∀ F' O' β' a' w', RR nt w0 S0 F0 F' O' β' (step T r s) a' w' → K a' w') : o.wp P a w K Q := by
  rw [hr] at hc hn
  obtain ⟨ox, args, ts, ho, h1, h2, h3⟩ := inv_callF hc
  simp only [dfn] at hn
  obtain ⟨k1, k2, k3⟩ := hn
  obtain ⟨f, xs, ys, hx⟩ : ∃ f xs ys, s.rd x = .fn f xs ys := by revert k3; cases s.rd x <;> simp [dCallF]
  rw [hx] at k3
  simp only [dCallF] at k3
  obtain ⟨k4, k5⟩ := k3
  obtain ⟨rv, hrv⟩ := Option.isSome_iff_exists.1 k5
  have hf := h3 f (by simpa using k4)
  unfold mayCall at hf
  simp only [Bool.and_eq_true, decide_eq_true_eq] at hf
  obtain ⟨hlp, hf⟩ := hf
  split at hf
  · rename_i fn hfn
    simp only [Bool.and_eq_true, Bool.not_eq_true'] at hf
    have hv := h.rd h1 k1 (by rw [hx]; trivial)
    rw [hx] at hv
    simp only [Rep] at hv
    obtain ⟨cs, ds, hve, hcs, hds⟩ := hv
    have hall : RepL w F false (xs ++ valsAV s as ++ ys) (cs ++ args.map a.eval ++ ds).toList := by
      rw [Array.toList_append, Array.toList_append, Array.toList_map]
      exact repL_app (repL_app hcs (vals_rep h args.toList as h2 k2)) hds
    obtain ⟨e1, e2⟩ := repL_at hall
    have hstep : step T r s = stepD r.d s rv.nr (gd s r.g) := by
      rw [step_eq T r s (by rw [hr]), hr]
      simp only [pre, val, hx, aCallF, hrv, Option.getD_some, R1.yields]
    have hpf : PFx P f (xs ++ valsAV s as ++ ys) rv := by
      have := hT.calls f _ rv hrv
      unfold PF at this
      rwa [if_pos hlp] at this
    have hcall := hpf w F (fun _ => NoFp) (fun _ => 0) (cs ++ args.map a.eval ++ ds) ⟨hT.glob.agree h.gl, by rw [← Array.length_toList, e1], fun i x v hx hv => by
        have := e2 i x v hx (by rw [Array.getElem?_toList]; exact hv)
        exact ⟨top_of_rep this, okOwn_good (by obtain ⟨q1, q2⟩ := good_of_rep this; rw [q1]; exact q2)⟩,
      fun i b o hio => hio.elim, fun i j b o _ hi => hi.elim, h.inF, fun i b o hio => hio.elim⟩
    unfold Oper.wp
    rw [run_callF ho hve hfn hf.1 hf.2, Oper.upon_enter]
    refine Calls.mono hcall ?_
    rintro e w' ⟨v, F', O', nb, rfl, hp⟩
    have hno : ∀ b o, ¬ (∃ i : Nat, NoFp b o) := fun b o ⟨_, hh⟩ => hh
    have hm := h.move (S := fun b o => ∃ i : Nat, NoFp b o) (F' := fun b o => F b o ∨ F' b o) hp.chg
      (fun b o _ hs => (hno b o hs).elim) (fun b o hs => (hno b o hs).elim) (fun _ => False) (fun t b o _ _ hs => (hno b o hs).elim)
      (fun b o hF => .inl hF)
      (fun b o hF => hF.elim .inl fun hF => (hp.fF b o hF).elim .inl fun q => q.elim (fun q => .inr (.inl q)) fun q => (hno b o q).elim)
      (fun b o hF => hF.elim (fun hF => Nat.lt_of_lt_of_le (h.inF b o hF) hp.chg.size) (hp.inF b o))
      (fun t b o hto hF => by
        rcases hF with hF | hF
        · exact h.sep t b o hto hF
        · rcases hp.fF b o hF with q | q | q
          · exact h.sep t b o hto q
          · have := h.inO t b o hto; omega
          · exact (hno b o q).elim)
      (fun _ hu => hu.elim)
    show K (a.put o.dst v) w'
    have hrep : ∀ (β' : Nat → Nat) d, β' d = nb → RepTop w' (fun b o => F b o ∨ F' b o) O' β' d rv v := fun β' d hb =>
      RepTop.reloc hb (hp.rep.chg (S := NoFp) (Chg.refl _ _) (fun b o hF => ⟨.inr hF, hp.inF b o hF, id⟩) (fun _ _ _ hn => hn))
    have fin : ∃ O'' β'', RR nt w0 S0 F0 (fun b o => F b o ∨ F' b o) O'' β'' (step T r s) (a.put o.dst v) w' := by
      rw [hstep]
      revert hd
      cases hod : o.dst <;> cases hrd : r.d <;> intro hd <;> simp at hd
      · exact ⟨_, _, hm⟩
      · obtain ⟨rfl, hlt⟩ := hd
        rw [own_nr hp.good]
        refine ⟨_, _, hm.put hlt rv v (gd s r.g) O' nb (fun _ => hrep _ _ (by unfold upd; rw [if_pos rfl])) (fun _ b hb => by rw [own_isTo hp.good] at hb; cases hb) (fun hn => (hn hg).elim) (fun b o ho hF => ?_) (fun t b o _ ho hto => ?_) hp.inO (fun b o ho => ?_)⟩
        · rcases hF with hF | hF
          · rcases hp.fO b o ho with q | q
            · have := h.inF b o hF; omega
            · exact (hno b o q).elim
          · exact hp.sep b o ho hF
        · rcases hp.fO b o ho with q | q
          · have := h.inO t b o hto; omega
          · exact (hno b o q).elim
        · rcases hp.fO b o ho with q | q
          · exact .inl (Nat.le_trans h.chg.size q)
          · exact (hno b o q).elim
    obtain ⟨O'', β'', hfin⟩ := fin
    exact hK _ _ _ _ _ hfin
  · cases hf

/-! A call that things are lent to. -/
theorem agree_more {w : World} {F F' : Fp} (h : ∀ b o, F b o → F' b o) : Agree F F' w w := fun b o hb => ⟨h b o hb, rfl⟩
mutual
theorem own_lend {w : World} {F : Fp} : ∀ (x : AV) {O O' : Fp} {v : Value}, (∀ b o, O b o → O' b o) → Own w F x O v → x.whole → x.lendC.one = true ∧ Rep w (fun b o => F b o ∨ O' b o) x.lendC v
  | .row sz xs n, O, O', v, hs, h, _ => by
    simp only [Own] at h
    refine ⟨rfl, ?_⟩
    simp only [AV.lendC, Rep]
    rcases h with ⟨rfl, rfl, rfl⟩ | ⟨g, c, cur, e, lo, hi, rfl, h1, h2, h3, h4, h5, h6, h7, h8⟩
    · exact ⟨none, 0, rfl, Nat.le_refl _, Nat.zero_le _, .inl ⟨rfl, rfl⟩⟩
    · exact ⟨_, c, rfl, h2, h3, .inr ⟨g, 0, rfl, RepAt.agree (agree_more fun _ _ hb => .inl hb) _ _ _ h6⟩⟩
  | .mrow sz xs n, O, O', v, hs, h, _ => by
    simp only [Own] at h
    refine ⟨rfl, ?_⟩
    simp only [AV.lendC, Rep]
    rcases h with ⟨rfl, rfl, rfl⟩ | ⟨g, c, cur, e, lo, hi, rfl, h1, h2, h3, h4, h5, h6, h7, h8⟩
    · exact ⟨none, 0, rfl, Nat.le_refl _, Nat.zero_le _, .inl ⟨rfl, rfl⟩⟩
    · refine ⟨_, c, rfl, h2, h3, .inr ⟨g, 0, rfl, repAt_of_list _ _ _ _ (RepL.agree (agree_more fun _ _ hb => .inl hb) _ _ _ h6) (fun j u hj => ?_) (fun j _ => .inr (hs _ _ (h7 _)))⟩⟩
      rw [cell_of_heap h1, Nat.zero_add]
      rw [List.getElem?_take] at hj
      split at hj
      · simpa using hj
      · cases hj
  | .obox xs, O, O', v, hs, h, hw => by
    simp only [Own] at h
    obtain ⟨b, c, e, rfl, h1, h2, h3⟩ := h
    refine ⟨rfl, ?_⟩
    simp only [AV.lendC, Rep]
    refine ⟨b, 0, rfl, ownL_lend xs hs h3 (by simpa only [AV.whole] using hw) (fun j u hj => ?_) (fun o => hs _ _ (h2 o))⟩
    rw [cell_of_heap h1, Nat.zero_add]
    simpa using hj
  | .bad, _, _, _, _, _, hw => hw.elim
  | .int .., _, _, _, _, h, _ => by simp only [Own] at h; exact ⟨rfl, Rep.agree (agree_more fun _ _ hb => .inl hb) _ _ h⟩
  | .bool .., _, _, _, _, h, _ => by simp only [Own] at h; exact ⟨rfl, Rep.agree (agree_more fun _ _ hb => .inl hb) _ _ h⟩
  | .str .., _, _, _, _, h, _ => by simp only [Own] at h; exact ⟨rfl, Rep.agree (agree_more fun _ _ hb => .inl hb) _ _ h⟩
  | .sl .., _, _, _, _, h, _ => by simp only [Own] at h; exact ⟨rfl, Rep.agree (agree_more fun _ _ hb => .inl hb) _ _ h⟩
  | .ptr .., _, _, _, _, h, _ => by simp only [Own] at h; exact ⟨rfl, Rep.agree (agree_more fun _ _ hb => .inl hb) _ _ h⟩
  | .fn .., _, _, _, _, h, _ => by simp only [Own] at h; exact ⟨rfl, Rep.agree (agree_more fun _ _ hb => .inl hb) _ _ h⟩
  | .ifc .., _, _, _, _, h, _ => by simp only [Own] at h; exact ⟨rfl, Rep.agree (agree_more fun _ _ hb => .inl hb) _ _ h⟩
  | .nilI, _, _, _, _, h, _ => by simp only [Own] at h; exact ⟨rfl, Rep.agree (agree_more fun _ _ hb => .inl hb) _ _ h⟩
  | .nilP, _, _, _, _, h, _ => by simp only [Own] at h; exact ⟨rfl, Rep.agree (agree_more fun _ _ hb => .inl hb) _ _ h⟩
  | .nilF, _, _, _, _, h, _ => by simp only [Own] at h; exact ⟨rfl, Rep.agree (agree_more fun _ _ hb => .inl hb) _ _ h⟩
  | .nilS _, _, _, _, _, h, _ => by simp only [Own] at h; exact ⟨rfl, Rep.agree (agree_more fun _ _ hb => .inl hb) _ _ h⟩
  | .anyB, _, _, _, _, h, _ => by simp only [Own] at h
  | .agg _, _, _, _, _, h, _ => by simp only [Own] at h
  | .tup _, _, _, _, _, h, _ => by simp only [Own] at h
  | .box _, _, _, _, _, h, _ => by simp only [Own] at h
  | .otup _, _, _, _, _, h, _ => by simp only [Own] at h
  | .ref .., _, _, _, _, h, _ => by simp only [Own] at h
  | .al _, _, _, _, _, h, _ => by simp only [Own] at h
  | .win .., _, _, _, _, h, _ => by simp only [Own] at h
  | .iter .., _, _, _, _, h, _ => by simp only [Own] at h
  | .clo .., _, _, _, _, h, _ => by simp only [Own] at h
theorem ownL_lend {w : World} {F : Fp} : ∀ (xs : List AV) {bk o : Nat} {O O' : Fp} {us : List Value}, (∀ b o, O b o → O' b o) → OwnL w F xs bk O us → wholes xs →
    (∀ j u, us[j]? = some u → w.cell? ⟨bk, o + j, none⟩ = some u) → (∀ o, O' bk o) → RepAt w (fun b o => F b o ∨ O' b o) (lendCs xs) bk o
  | [], _, _, _, _, _, _, _, _, _, _ => by simp only [lendCs, RepAt]
  | x :: xs, bk, o, O, O', us, hs, h, hw, hc, hb => by
    simp only [OwnL] at h
    obtain ⟨u, us', Q, R, rfl, h1, h2, h3, h4, h5⟩ := h
    simp only [wholes] at hw
    obtain ⟨e1, e2⟩ := own_lend x (fun b o hq => hs b o (h1 b o hq).1) h4 hw.1
    simp only [lendCs, RepAt]
    refine ⟨⟨u, by simpa using hc 0 u rfl, e1, e2⟩, .inr (hb o), ownL_lend xs (fun b o hr => hs b o (h2 b o hr)) h5 hw.2 (fun j v hj => ?_) hb⟩
    have := hc (j + 1) v (by simpa using hj)
    rwa [show o + 1 + j = o + (j + 1) by omega]
end
theorem lend_top {w : World} {F O : Fp} {β : Nat → Nat} {t : Nat} : ∀ {x : AV} {v : Value}, RepTop w F O β t x v → x.isLend → Rep w (fun b o => F b o ∨ O b o) x.lend v ∧ RepAt w (fun b o => F b o ∨ O b o) x.lendCells (β t) 0 := by
  intro x v h hx
  cases x <;> simp only [AV.isLend] at hx
  case box xs =>
    simp only [RepTop] at h
    obtain ⟨rfl, c, e, h1, h2, h3⟩ := h
    have : RepAt w (fun b o => F b o ∨ O b o) xs (β t) 0 := repAt_of_list _ _ _ _ (RepL.agree (agree_more fun _ _ hb => .inl hb) _ _ _ h2) (fun j u hj => by rw [cell_of_heap h1, Nat.zero_add]; simpa using hj) (fun j _ => .inr (h3 _))
    exact ⟨by simp only [AV.lend, Rep]; exact ⟨_, 0, rfl, this⟩, this⟩
  case obox xs =>
    simp only [RepTop] at h
    obtain ⟨rfl, c, e, h1, h2, h3⟩ := h
    have : RepAt w (fun b o => F b o ∨ O b o) (lendCs xs) (β t) 0 := ownL_lend xs (fun _ _ h => h) (cellsO_iff.1 h2) hx (fun j u hj => by rw [cell_of_heap h1, Nat.zero_add]; simpa using hj) h3
    exact ⟨by simp only [AV.lend, Rep]; exact ⟨_, 0, rfl, this⟩, this⟩
  case mrow sz xs n =>
    simp only [RepTop] at h
    rcases h with ⟨rfl, rfl, rfl⟩ | ⟨c, cur, e, lo, hi, rfl, h1, h2, h3, h4, h5, h6, h7, h8⟩
    · exact ⟨by simp only [AV.lend, Rep]; exact ⟨none, 0, rfl, Nat.le_refl _, Nat.zero_le _, .inl (by simp)⟩, by simp only [AV.lendCells, RepAt]⟩
    · have : RepAt w (fun b o => F b o ∨ O b o) xs (β t) 0 := repAt_of_list _ _ _ _ (RepL.agree (agree_more fun _ _ hb => .inl hb) _ _ _ h6) (fun j u hj => by
        rw [cell_of_heap h1, Nat.zero_add]
        rw [List.getElem?_take] at hj
        split at hj
        · simpa using hj
        · cases hj) (fun j _ => .inr (h7 _))
      exact ⟨by simp only [AV.lend, Rep]; exact ⟨_, c, rfl, h2, h3, .inr ⟨_, 0, rfl, this⟩⟩, this⟩
theorem refOk_to (s : St) (x b : Nat) (h : s.refOk x b = true) : (s.env x).isTo b = true := by
  induction s with
  | nil => simp [St.refOk] at h
  | cons e s ih =>
    simp only [St.refOk, St.env] at h ⊢
    by_cases e1 : e.t = x
    · rw [if_pos e1] at h ⊢; exact h
    · rw [if_neg e1] at h ⊢
      by_cases e2 : e.t = b ∧ e.k = true
      · rw [if_pos e2] at h; cases h
      · rw [if_neg e2] at h; exact ih h
theorem RR.lends (h : RR nt w0 S0 F0 F O β s a w) {b sz n : Nat} (hl : okLend s b sz (.t n)) : Rep w (fun k o => F k o ∨ O b k o) (lendA s b sz (.t n)) (tm a n) := by
  simp only [okLend] at hl
  obtain ⟨hD, hx, hn⟩ := hl
  obtain ⟨e1, e2⟩ := lend_top (h.rep b hD) hx
  simp only [lendA]
  split
  · rename_i hnb; subst hnb; exact e1
  · rename_i hnb
    rcases hn with hn | ⟨hDn, hr, hf⟩
    · exact (hnb hn).elim
    · have hto := refOk_to s n b hr
      obtain ⟨q1, q2, q3⟩ := h.refs n b hDn hr
      revert hto hf q1 q2 q3
      cases s.env n <;> simp only [winFits, AV.isTo, false_implies, forall_const, beq_iff_eq, lendX]
      case ref b' off =>
        rintro rfl q1 _ _
        rw [q1 off rfl]
        simp only [Rep]
        exact ⟨_, _, rfl, by have := repAt_drop _ _ _ off e2; rwa [Nat.zero_add] at this⟩
      case al b' =>
        rintro rfl _ q2 _
        rw [q2 rfl]; exact e1
      case win b' off k =>
        rintro hf rfl _ _ q3
        obtain ⟨ao, c, q4, q5, q6, q7⟩ := q3 off k rfl
        rw [q4]
        simp only [Rep]
        refine ⟨ao, c, rfl, q5, q6, ?_⟩
        rcases q7 with rfl | rfl
        · exact .inl ⟨by simp, rfl⟩
        · refine .inr ⟨_, off, rfl, repAt_take _ _ _ _ ?_⟩
          have := repAt_drop _ _ _ off e2; rwa [Nat.zero_add] at this
def lentOf : List (Option (Nat × Nat) × RV) → List Nat
  | [] => []
  | (some (b, _), _) :: as => b :: lentOf as
  | (none, _) :: as => lentOf as
theorem args_lent (h : RR nt w0 S0 F0 F O β s a w) (L : List Nat) : ∀ (os : List Operand) (as : List (Option (Nat × Nat) × RV)), chkLs os as = true → okLs s as → (∀ b ∈ lentOf as, b ∈ L) → RepL w (fun k o => F k o ∨ ∃ b ∈ L, O b k o) false (argLs s as) (os.map a.eval)
  | [], [], _, _, _ => by simp only [argLs, List.map_nil, RepL]
  | [], _ :: _, hc, _, _ => by simp [chkLs] at hc
  | _ :: _, [], hc, _, _ => by simp [chkLs] at hc
  | o :: os, (none, x) :: as, hc, hk, hL => by
    simp only [chkLs, Bool.and_eq_true] at hc
    simp only [okLs] at hk
    simp only [argLs, List.map_cons, RepL]
    exact ⟨_, _, rfl, fun hh => (by cases hh), Rep.agree (agree_more fun _ _ hb => .inl hb) _ _ (h.rd hc.1 hk.1 hk.2.1), args_lent h L os as hc.2 hk.2.2 hL⟩
  | o :: os, (some (b, sz), x) :: as, hc, hk, hL => by
    simp only [chkLs, Bool.and_eq_true] at hc
    simp only [okLs] at hk
    simp only [argLs, List.map_cons, RepL]
    refine ⟨_, _, rfl, fun hh => (by cases hh), ?_, args_lent h L os as hc.2 hk.2 fun b' hb' => hL b' (by simp only [lentOf]; exact List.mem_cons_of_mem _ hb')⟩
    obtain ⟨n, rfl⟩ : ∃ n, x = .t n := by
      cases x with
      | t n => exact ⟨n, rfl⟩
      | c v => exact hk.1.elim
    obtain rfl : o = .tmp n := by
      have := hc.1
      cases o <;> simp [chkV] at this
      rw [this]
    exact Rep.agree (agree_more fun k o hb => hb.imp id fun hb => ⟨b, hL b (by simp only [lentOf]; exact List.mem_cons_self ..), hb⟩) _ _ (h.lends hk.1)
mutual
theorem rep_flat {w w' : World} {F F' : Fp} : ∀ (x : AV) (v : Value), x.flat → Rep w F x v → Rep w' F' x v
  | .int k n, v, _, h => by simpa only [Rep] using h
  | .bool b, v, _, h => by simpa only [Rep] using h
  | .str l, v, _, h => by simpa only [Rep] using h
  | .nilI, v, _, h => by simpa only [Rep] using h
  | .nilP, v, _, h => by simpa only [Rep] using h
  | .nilF, v, _, h => by simpa only [Rep] using h
  | .nilS _, v, _, h => by simpa only [Rep] using h
  | .anyB, v, _, h => by simpa only [Rep] using h
  | .ifc t x, v, hf, h => by
    simp only [Rep] at h ⊢
    obtain ⟨u, h1, h2⟩ := h
    exact ⟨u, h1, rep_flat x u (by simpa only [AV.flat] using hf) h2⟩
  | .agg xs, v, hf, h => by
    simp only [Rep] at h ⊢
    obtain ⟨cs, h1, h2⟩ := h
    exact ⟨cs, h1, repL_flat xs _ (by simpa only [AV.flat] using hf) h2⟩
  | .tup xs, v, hf, h => by
    simp only [Rep] at h ⊢
    obtain ⟨cs, h1, h2⟩ := h
    exact ⟨cs, h1, repL_flat xs _ (by simpa only [AV.flat] using hf) h2⟩
  | .fn f xs ys, v, hf, h => by
    simp only [Rep] at h ⊢
    simp only [AV.flat] at hf
    obtain ⟨cs, ds, h1, h2, h3⟩ := h
    exact ⟨cs, ds, h1, repL_flat xs _ hf.1 h2, repL_flat ys _ hf.2 h3⟩
  | .sl .., _, hf, _ => by simp only [AV.flat] at hf
  | .ptr _, _, hf, _ => by simp only [AV.flat] at hf
  | .row .., _, hf, _ => by simp only [AV.flat] at hf
  | .mrow .., _, hf, _ => by simp only [AV.flat] at hf
  | .box _, _, hf, _ => by simp only [AV.flat] at hf
  | .obox _, _, hf, _ => by simp only [AV.flat] at hf
  | .otup _, _, hf, _ => by simp only [AV.flat] at hf
  | .clo .., _, hf, _ => by simp only [AV.flat] at hf
  | .ref .., _, hf, _ => by simp only [AV.flat] at hf
  | .al _, _, hf, _ => by simp only [AV.flat] at hf
  | .win .., _, hf, _ => by simp only [AV.flat] at hf
  | .iter .., _, hf, _ => by simp only [AV.flat] at hf
  | .bad, _, hf, _ => by simp only [AV.flat] at hf
theorem repL_flat {w w' : World} {F F' : Fp} {one : Bool} : ∀ (xs : List AV) (vs : List Value), flats xs → RepL w F one xs vs → RepL w' F' one xs vs
  | [], vs, _, h => by simpa only [RepL] using h
  | x :: xs, vs, hf, h => by
    simp only [RepL] at h ⊢
    simp only [flats] at hf
    obtain ⟨v, vs', h1, h2, h3, h4⟩ := h
    exact ⟨v, vs', h1, h2, rep_flat x v hf.1 h3, repL_flat xs vs' hf.2 h4⟩
end
theorem repAt_flat {w : World} {F F' : Fp} {b : Nat} (hF : ∀ o, F b o → F' b o) : ∀ (xs : List AV) (o : Nat), flats xs → RepAt w F xs b o → RepAt w F' xs b o
  | [], _, _, _ => by simp only [RepAt]
  | x :: xs, o, hf, h => by
    simp only [RepAt] at h ⊢
    simp only [flats] at hf
    obtain ⟨⟨v, h1, h2, h3⟩, h4, h5⟩ := h
    exact ⟨⟨v, h1, h2, rep_flat x v hf.1 h3⟩, hF o h4, repAt_flat hF xs (o + 1) hf.2 h5⟩
theorem apart_top {w : World} {F F' O : Fp} {β : Nat → Nat} {t : Nat} {x : AV} {v : Value} (hx : x.apartR) (h : RepTop w F O β t x v) (hF : ∀ b o o', O b o → F b o' → F' b o') : RepTop w F' O β t x v := by
  cases x
  case row sz xs n =>
    simp only [RepTop] at h ⊢
    simp only [AV.apartR] at hx
    rcases h with h | ⟨g, c, cur, e, lo, hi, h0, h1, h2, h3, h4, h5, h6, h7, h8⟩
    · exact .inl h
    · exact .inr ⟨g, c, cur, e, lo, hi, h0, h1, h2, h3, h4, h5, repAt_flat (fun o ho => hF g (n * sz) o (h7 _ (Nat.le_refl _)) ho) _ _ hx h6, h7, h8⟩
  case mrow sz xs n =>
    simp only [RepTop] at h ⊢
    simp only [AV.apartR] at hx
    rcases h with h | ⟨c, cur, e, lo, hi, h0, h1, h2, h3, h4, h5, h6, h7, h8⟩
    · exact .inl h
    · exact .inr ⟨c, cur, e, lo, hi, h0, h1, h2, h3, h4, h5, repL_flat _ _ hx h6, h7, h8⟩
  case box xs =>
    simp only [RepTop] at h ⊢
    simp only [AV.apartR] at hx
    obtain ⟨h0, c, e, h1, h2, h3⟩ := h
    exact ⟨h0, c, e, h1, repL_flat _ _ hx h2, h3⟩
  all_goals first | (simp only [AV.apartR, AV.flat] at hx; done) | (simp only [RepTop] at h ⊢; exact rep_flat _ _ hx h)
theorem callL_ok {T : Tab} (hT : SoundG P T w0 F0) (h : RR nt w0 S0 F0 F O β s a w) {o : Oper} {r : RO} {f : Nat} {as : List (Option (Nat × Nat) × RV)} (hr : r.op = .callL f as) (hc : chkOp P o.op r.op = true)
    (hd : (match o.dst, r.d with | none, none => true | some d, some d' => d == d' && decide (d < nt) | _, _ => false) = true) (hg : gd s r.g) (hn : dfn T s r.op) {K : Act → World → Prop} {Q : Exit → Act → World → Prop}
    (hK : ∀ F' O' β' a' w', RR nt w0 S0 F0 F' O' β' (step T r s) a' w' → K a' w') : o.wp P a w K Q := by
  rw [hr] at hc hn
  obtain ⟨args, ts, fn, ho, h1, hlp, h2, h3, h4⟩ := inv_callL hc
  simp only [dfn] at hn
  obtain ⟨k1, rv, hrv, hap⟩ := hn
  have hstep : step T r s = stepD r.d s rv.nr (gd s r.g) := by
    rw [step_eq T r s (by rw [hr]), hr]
    simp only [pre, val, hrv, Option.getD_some, R1.yields]
  have hall := args_lent h (lentOf as) args.toList as h1 k1 (fun _ hb => hb)
  rw [← Array.toList_map] at hall
  obtain ⟨e1, e2⟩ := repL_at hall
  have hpf : PFx P f (argLs s as) rv := by
    have := hT.calls f _ rv hrv
    unfold PF at this
    rwa [if_pos hlp] at this
  have hcall := hpf w (fun k o => F k o ∨ ∃ b ∈ lentOf as, O b k o) (fun _ => NoFp) (fun _ => 0) (args.map a.eval) ⟨(hT.glob.agree h.gl).agree (agree_more fun _ _ hb => .inl hb), by rw [← Array.length_toList, e1], fun i x v hx hv => by
      have := e2 i x v hx (by rw [Array.getElem?_toList]; exact hv)
      exact ⟨top_of_rep this, okOwn_good (by obtain ⟨q1, q2⟩ := good_of_rep this; rw [q1]; exact q2)⟩,
    fun i b o hio => hio.elim, fun i j b o _ hi => hi.elim, fun b o hb => hb.elim (h.inF b o) fun ⟨t, _, hb⟩ => h.inO t b o hb, fun i b o hio => hio.elim⟩
  unfold Oper.wp
  rw [run_call ho h2 h3 h4, Oper.upon_enter]
  refine Calls.mono hcall ?_
  rintro e w' ⟨v, F', O', nb, rfl, hp⟩
  have hno : ∀ b o, ¬ (∃ i : Nat, NoFp b o) := fun b o ⟨_, hh⟩ => hh
  have hfresh : ∀ b o, O' b o → w.heap.size ≤ b := fun b o ho => (hp.fO b o ho).elim id fun q => (hno b o q).elim
  have hm := h.move (S := fun b o => ∃ i : Nat, NoFp b o) (F' := fun b o => F b o ∨ (F' b o ∧ w.heap.size ≤ b)) hp.chg
    (fun b o _ hs => (hno b o hs).elim) (fun b o hs => (hno b o hs).elim) (fun _ => False) (fun t b o _ _ hs => (hno b o hs).elim)
    (fun b o hF => .inl hF)
    (fun b o hF => hF.elim .inl fun hF => .inr (.inl hF.2))
    (fun b o hF => hF.elim (fun hF => Nat.lt_of_lt_of_le (h.inF b o hF) hp.chg.size) (fun hF => hp.inF b o hF.1))
    (fun t b o hto hF => by
      rcases hF with hF | hF
      · exact h.sep t b o hto hF
      · have := h.inO t b o hto; omega)
    (fun _ hu => hu.elim)
  show K (a.put o.dst v) w'
  have hrep : ∀ (β' : Nat → Nat) d, β' d = nb → RepTop w' (fun b o => F b o ∨ (F' b o ∧ w.heap.size ≤ b)) O' β' d rv v := fun β' d hb =>
    RepTop.reloc hb (apart_top hap hp.rep fun b o o' ho hF => .inr ⟨hF, hfresh b o ho⟩)
  have fin : ∃ O'' β'', RR nt w0 S0 F0 (fun b o => F b o ∨ (F' b o ∧ w.heap.size ≤ b)) O'' β'' (step T r s) (a.put o.dst v) w' := by
    rw [hstep]
    revert hd
    cases hod : o.dst <;> cases hrd : r.d <;> intro hd <;> simp at hd
    · exact ⟨_, _, hm⟩
    · obtain ⟨rfl, hlt⟩ := hd
      rw [own_nr hp.good]
      refine ⟨_, _, hm.put hlt rv v (gd s r.g) O' nb (fun _ => hrep _ _ (by unfold upd; rw [if_pos rfl])) (fun _ b hb => by rw [own_isTo hp.good] at hb; cases hb) (fun hn => (hn hg).elim) (fun b o ho hF => ?_) (fun t b o _ ho hto => ?_) hp.inO (fun b o ho => ?_)⟩
      · rcases hF with hF | hF
        · have := hfresh b o ho; have := h.inF b o hF; omega
        · exact hp.sep b o ho hF.1
      · have := hfresh b o ho; have := h.inO t b o hto; omega
      · exact .inl (Nat.le_trans h.chg.size (hfresh b o ho))
  obtain ⟨O'', β'', hfin⟩ := fin
  exact hK _ _ _ _ _ hfin

/-! A call that turns what b has. -/
def ownB (O : Nat → Fp) (b : Nat) (as : List (Bool × RV)) (i : Nat) : Fp := match as[i]? with
  | some (true, _) => O b
  | _ => NoFp
theorem argB_length (s : St) (b : Nat) : ∀ (as : List (Bool × RV)), (argB s b as).length = as.length
  | [] => rfl
  | (true, _) :: as => by simp [argB, argB_length s b as]
  | (false, _) :: as => by simp [argB, argB_length s b as]
theorem ownB_iff {b : Nat} {as : List (Bool × RV)} {i k o : Nat} (h : ownB O b as i k o) : (∃ y, as[i]? = some (true, y)) ∧ O b k o := by
  unfold ownB at h
  cases hp : as[i]? with
  | none => rw [hp] at h; exact h.elim
  | some p =>
    rw [hp] at h
    obtain ⟨c, y⟩ := p
    cases c
    · exact h.elim
    · exact ⟨⟨y, rfl⟩, h⟩
theorem one_stolen {as : List (Bool × RV)} (hn : (stolenN as).length = 1) (ht : ∀ p ∈ as, p.1 = true → ∃ n, p.2 = .t n) : ∀ {i j : Nat} {x y : RV}, as[i]? = some (true, x) → as[j]? = some (true, y) → i = j := by
  have none : ∀ (as : List (Bool × RV)), (∀ p ∈ as, p.1 = true → ∃ n, p.2 = .t n) → stolenN as = [] → ∀ (i : Nat) (x : RV), as[i]? ≠ some (true, x) := by
    intro as
    induction as with
    | nil => intro _ _ i x h; simp at h
    | cons p as ih =>
      intro ht h0 i x hi
      obtain ⟨b, y⟩ := p
      cases b
      · simp only [stolenN] at h0
        cases i with
        | zero => simp at hi
        | succ i => exact ih (fun p hp => ht p (List.mem_cons_of_mem _ hp)) h0 i x (by simpa using hi)
      · obtain ⟨n, hn⟩ := ht (true, y) (List.mem_cons_self ..) rfl
        simp only at hn
        subst hn
        simp [stolenN] at h0
  induction as with
  | nil => intro i j x y hi; simp at hi
  | cons p as ih =>
    intro i j x y hi hj
    obtain ⟨b, z⟩ := p
    have ht' : ∀ p ∈ as, p.1 = true → ∃ n, p.2 = .t n := fun p hp => ht p (List.mem_cons_of_mem _ hp)
    cases b
    · simp only [stolenN] at hn
      cases i with
      | zero => simp at hi
      | succ i => cases j with
        | zero => simp at hj
        | succ j => exact congrArg Nat.succ (ih hn ht' (i := i) (j := j) (x := x) (y := y) (by simpa using hi) (by simpa using hj))
    · obtain ⟨n, hz⟩ := ht (true, z) (List.mem_cons_self ..) rfl
      simp only at hz
      subst hz
      simp only [stolenN, List.length_cons] at hn
      have h0 : stolenN as = [] := List.eq_nil_of_length_eq_zero (by omega)
      cases i with
      | zero => cases j with
        | zero => rfl
        | succ j => exact (none as ht' h0 j y (by simpa using hj)).elim
      | succ i => exact (none as ht' h0 i x (by simpa using hi)).elim
theorem chkArgs_t : ∀ {os : List Operand} {as : List (Bool × RV)}, chkArgs os as = true → ∀ p ∈ as, p.1 = true → ∃ n, p.2 = .t n
  | [], [], _, p, hp, _ => by cases hp
  | [], _ :: _, h, _, _, _ => by simp [chkArgs] at h
  | _ :: _, [], h, _, _, _ => by simp [chkArgs] at h
  | o :: os, (b, y) :: as, h, p, hp, hb => by
    simp only [chkArgs, Bool.and_eq_true] at h
    rcases List.mem_cons.1 hp with rfl | hp
    · simp only at hb
      subst hb
      cases y with
      | t n => exact ⟨n, rfl⟩
      | c v => simp at h
    · exact chkArgs_t h.2 p hp hb
theorem own_of_B {x : AV} (h : x.isBig) : okOwn true x := by
  revert h; cases x <;> simp [AV.isBig, okOwn]
theorem argsB_rep (h : RR nt w0 S0 F0 F O β s a w) {b : Nat} (hD : s.D b) (hb : (s.env b).isBig) : ∀ (os : List Operand) (as : List (Bool × RV)), chkArgs os as = true → okArgsB s b as → (argB s b as).length = os.length ∧
    ∀ (i : Nat) (x : AV) (v : Value), (argB s b as)[i]? = some x → (os.map a.eval)[i]? = some v → ∃ c y, as[i]? = some (c, y) ∧ okOwn true x ∧ (c = true → v = tm a b ∧ x = s.env b) ∧ (c = false → x.isBigB = false) ∧ ∀ (β' : Nat → Nat) (j : Nat), β' j = β b → RepTop w F (if c then O b else NoFp) β' j x v
  | [], [], _, _ => ⟨rfl, fun i x v hx => by simp [argB] at hx⟩
  | [], _ :: _, hc, _ => by simp [chkArgs] at hc
  | _ :: _, [], hc, _ => by simp [chkArgs] at hc
  | o :: os, (c, y) :: as, hc, hok => by
    simp only [chkArgs, Bool.and_eq_true] at hc
    obtain ⟨⟨h1, h2⟩, h3⟩ := hc
    have hok' : (match c with | true => isOf s b y | false => s.ok y ∧ (s.rd y).good) ∧ okArgsB s b as := by
      cases c
      · simp only [okArgsB] at hok; exact ⟨⟨hok.1, hok.2.1⟩, hok.2.2⟩
      · simp only [okArgsB] at hok; exact hok
    obtain ⟨k1, k3⟩ := hok'
    obtain ⟨e1, e2⟩ := argsB_rep h hD hb os as h3 k3
    have hargs : argB s b ((c, y) :: as) = (if c then s.env b else s.rd y) :: argB s b as := by cases c <;> rfl
    rw [hargs]
    refine ⟨by simp [e1], fun i x v hx hv => ?_⟩
    cases i with
    | zero =>
      simp at hx hv
      subst hx; subst hv
      refine ⟨c, y, rfl, ?_⟩
      cases c
      · simp only [Bool.false_eq_true, if_false]
        have hr := h.rd h1 k1.1 k1.2
        have hs := (good_of_rep hr)
        refine ⟨okOwn_good (by rw [hs.1]; exact hs.2), fun hh => (by cases hh), fun _ => ?_, fun β' j _ => top_of_rep hr⟩
        have := hs.1
        have g := hs.2
        revert this g
        cases s.rd y <;> simp [AV.share, AV.good, AV.isBigB]
      · simp only [if_true]
        have htm : a.eval o = tm a b := by
          cases y with
          | t n =>
            rw [chkV_t h1]
            rcases k1 with rfl | ⟨q1, q2, q3⟩
            · rfl
            · refine (h.refs n b q1 q3).2.1 ?_
              revert q2
              cases s.env n <;> simp
          | c v => exact k1.elim
        refine ⟨own_of_B hb, fun _ => ⟨htm, by trivial⟩, fun hh => (by cases hh), fun β' j hj => ?_⟩
        rw [htm]
        exact RepTop.reloc hj (h.rep b hD)
    | succ i =>
      obtain ⟨c', y', q1, q2⟩ := e2 i x v (by simpa using hx) (by simpa using hv)
      exact ⟨c', y', by simpa using q1, q2⟩

theorem callB_ok {T : Tab} (hT : SoundG P T w0 F0) (h : RR nt w0 S0 F0 F O β s a w) {o : Oper} {r : RO} {f b : Nat} {as : List (Bool × RV)} (hr : r.op = .callB f as b) (hc : chkOp P o.op r.op = true) (hst : (stolenN as).length = 1) (hdb : r.d ≠ some b)
    (hd : (match o.dst, r.d with | none, none => true | some d, some d' => d == d' && decide (d < nt) | _, _ => false) = true) (hg : gd s r.g) (hn : dfn T s r.op) {K : Act → World → Prop} {Q : Exit → Act → World → Prop}
    (hK : ∀ F' O' β' a' w', RR nt w0 S0 F0 F' O' β' (step T r s) a' w' → K a' w') : o.wp P a w K Q := by
  rw [hr] at hc hn
  obtain ⟨args, ts, fn, ho, h1, h2, h3, h4⟩ := inv_callB hc
  simp only [dfn] at hn
  obtain ⟨k1, kD, kO, rv, x', hrv⟩ := hn
  have hstep : step T r s = stepD r.d (s.set b x'.nr True false) rv.nr (gd s r.g) := by
    rw [step_eq T r s (by rw [hr]), hr]
    simp only [pre, val, hrv, Option.getD_some, R1.yields, AV.inner]
    rfl
  obtain ⟨e1, e2⟩ := argsB_rep h kD kO args.toList as h1 k1
  have hsz : (args.map a.eval).size = (argB s b as).length := by simp [e1]
  have hone := fun {i j : Nat} {x y : RV} => one_stolen (i := i) (j := j) (x := x) (y := y) hst (chkArgs_t h1)
  have hpf : PFb P f (argB s b as) rv x' := by
    have := hT.calls _ _ _ hrv
    unfold PF at this
    rw [if_neg (Nat.not_lt.2 (Nat.le_add_left _ _)), Nat.add_sub_cancel] at this
    exact this rv x' rfl
  have hcall := hpf w F (ownB O b as) (fun _ => β b) (args.map a.eval) ⟨hT.glob.agree h.gl, hsz, fun i x v hx hv => by
      obtain ⟨c, y, q1, q2, _, _, q3⟩ := e2 i x v hx (by simpa using hv)
      refine ⟨?_, q2⟩
      have : ownB O b as i = if c then O b else NoFp := by
        unfold ownB; rw [q1]; cases c <;> rfl
      rw [this]; exact q3 _ i rfl,
    fun i k o hio hF => h.sep b k o (ownB_iff hio).2 hF,
    fun i j k o hij hi hj => by
      obtain ⟨⟨x, hx⟩, _⟩ := ownB_iff hi
      obtain ⟨⟨y, hy⟩, _⟩ := ownB_iff hj
      exact hij (hone hx hy),
    h.inF,
    fun i k o hio => by
      obtain ⟨⟨y, q1⟩, q2⟩ := ownB_iff hio
      refine ⟨h.inO b k o q2, ?_⟩
      have h5 := (List.getElem?_eq_some_iff.1 q1).1
      have h6 := argB_length s b as
      omega⟩
  unfold Oper.wp
  rw [run_call ho h2 h3 h4, Oper.upon_enter]
  refine Calls.mono hcall ?_
  rintro e w' ⟨v, F', O', nb, rfl, hp, hq⟩
  -- where it stands
  obtain ⟨p, y, hpy⟩ : ∃ p y, as[p]? = some (true, y) := by
    have : ∀ (as : List (Bool × RV)), (stolenN as).length = 1 → ∃ (p : Nat) (y : RV), as[p]? = some (true, y) := by
      intro as
      induction as with
      | nil => intro h; simp [stolenN] at h
      | cons q as ih =>
        intro h
        obtain ⟨c, z⟩ := q
        cases c
        · obtain ⟨p, y, hp⟩ := ih (by simpa [stolenN] using h)
          exact ⟨p + 1, y, by simpa using hp⟩
        · exact ⟨0, z, rfl⟩
    exact this as hst
  have hplt : p < as.length := (List.getElem?_eq_some_iff.1 hpy).1
  have hpl : p < (argB s b as).length := by rw [argB_length]; exact hplt
  have hx : (argB s b as)[p]? = some (argB s b as)[p] := List.getElem?_eq_getElem hpl
  have hvs : (args.map a.eval)[p]? = some ((args.map a.eval)[p]'(by rw [hsz]; exact hpl)) := Array.getElem?_eq_getElem _
  obtain ⟨c, y', q1, q2, q3, _, q5⟩ := e2 p _ _ hx (by simpa using hvs)
  rw [hpy] at q1
  obtain ⟨rfl, rfl⟩ : c = true ∧ y' = y := by simpa [eq_comm] using q1
  obtain ⟨hv, hxe⟩ := q3 rfl
  have hownp : ownB O b as p = O b := by unfold ownB; rw [hpy]
  obtain ⟨Op, t1, t2, t3⟩ := hq p _ _ hx (by rw [hxe]; revert kO; cases s.env b <;> simp [AV.isBig, AV.isBigB]) hvs
  have hvm : (args.map a.eval)[p]'(by rw [hsz]; exact hpl) = tm a b := by rw [Array.getElem_map]; exact hv
  rw [hvm] at t1
  have hS : ∀ k o, (∃ i, ownB O b as i k o) → O b k o := fun k o ⟨i, hi⟩ => (ownB_iff hi).2
  have hFF : ∀ k o, F' k o → F k o ∨ w.heap.size ≤ k ∨ O b k o := fun k o hf => by
    rcases hp.fF k o hf with q | q | q
    · exact .inl q
    · exact .inr (.inl q)
    · exact .inr (.inr (hS k o q))
  have hopn : ∀ k o, Op k o → w.heap.size ≤ k ∨ O b k o := fun k o ho => (t2 k o ho).2.2.2.imp id (hS k o)
  have hm := h.turnO (b := b) (S := fun k o => ∃ i, ownB O b as i k o) (F' := fun k o => F k o ∨ F' k o) (Op := Op) hp.chg hS (fun k o hf => .inl hf) (fun k o hf => hf.elim .inl (hFF k o))
    (fun k o hf => hf.elim (fun hf => Nat.lt_of_lt_of_le (h.inF k o hf) hp.chg.size) (hp.inF k o)) x'
    (RepTop.reloc rfl (t1.chg (S := NoFp) (Chg.refl _ _) (fun k o hF => ⟨.inr hF, hp.inF k o hF, id⟩) (fun _ _ _ hn => hn)))
    (fun k o ho => ⟨fun hf => hf.elim (fun hf => (hopn k o ho).elim (fun q => by have := h.inF k o hf; omega) (fun q => h.sep b k o q hf)) (t2 k o ho).1, (t2 k o ho).2.2.1, hopn k o ho⟩) (own_isTo (own_of_B t3))
  show K (a.put o.dst v) w'
  have hrep : ∀ (β' : Nat → Nat) d, β' d = nb → RepTop w' (fun b o => F b o ∨ F' b o) O' β' d rv v := fun β' d hb =>
    RepTop.reloc hb (hp.rep.chg (S := NoFp) (Chg.refl _ _) (fun b o hF => ⟨.inr hF, hp.inF b o hF, id⟩) (fun _ _ _ hn => hn))
  have fin : ∃ O'' β'', RR nt w0 S0 F0 (fun b o => F b o ∨ F' b o) O'' β'' (step T r s) (a.put o.dst v) w' := by
    rw [hstep, own_nr (own_of_B t3)]
    revert hd
    cases hod : o.dst <;> cases hrd : r.d <;> intro hd <;> simp at hd
    · exact ⟨_, _, hm⟩
    · obtain ⟨rfl, hlt⟩ := hd
      rw [own_nr hp.good]
      refine ⟨_, _, hm.put hlt rv v (gd s r.g) O' nb (fun _ => hrep _ _ (by unfold upd; rw [if_pos rfl])) (fun _ b hb => by rw [own_isTo hp.good] at hb; cases hb) (fun hn => (hn hg).elim) (fun k o ho hF => ?_) (fun t k o _ ho hto => ?_) hp.inO (fun k o ho => ?_)⟩
      · rcases hF with hF | hF
        · rcases hp.fO k o ho with q | q
          · have := h.inF k o hF; omega
          · exact h.sep b k o (hS k o q) hF
        · exact hp.sep k o ho hF
      · unfold off1 at hto
        split at hto
        · exact (t2 k o hto).2.1 ho
        · rename_i hne
          rcases hp.fO k o ho with q | q
          · have := h.inO t k o hto; omega
          · exact h.dis t b k o hne hto (hS k o q)
      · rcases hp.fO k o ho with q | q
        · exact .inl (Nat.le_trans h.chg.size q)
        · exact h.own b k o (hS k o q)
  obtain ⟨O'', β'', hfin⟩ := fin
  exact hK _ _ _ _ _ hfin

/-! A call of a closure over a box of its own. -/
theorem callC_ok {T : Tab} (hT : SoundG P T w0 F0) (h : RR nt w0 S0 F0 F O β s a w) {o : Oper} {r : RO} {x b : Nat} {as : List RV} {fs : List Nat} (hr : r.op = .callC x b as fs) (hc : chkOp P o.op r.op = true)
    (hd : (match o.dst, r.d with | none, none => true | some d, some d' => d == d' && decide (d < nt) | _, _ => false) = true) (hg : gd s r.g) (hn : dfn T s r.op) {K : Act → World → Prop} {Q : Exit → Act → World → Prop}
    (hK : ∀ F' O' β' a' w', RR nt w0 S0 F0 F' O' β' (step T r s) a' w' → K a' w') : o.wp P a w K Q := by
  rw [hr] at hc hn
  obtain ⟨ox, args, ts, ho, h1, h2, h3⟩ := inv_callC hc
  simp only [dfn] at hn
  obtain ⟨kx, kal, kref, kD, kv, kc⟩ := hn
  obtain ⟨f, xs, hx⟩ : ∃ f xs, s.env b = .clo f xs := by revert kc; cases s.env b <;> simp [dCallC]
  rw [hx] at kc
  simp only [dCallC] at kc
  obtain ⟨k4, rv, ys, hrv⟩ := kc
  have hf := h3 f (by simpa using k4)
  unfold mayCallB at hf
  split at hf
  · rename_i fn hfn
    simp only [Bool.and_eq_true, Bool.not_eq_true'] at hf
    have hp0 := h.rep b kD
    rw [hx] at hp0
    have hp1 := hp0
    simp only [RepTop] at hp1
    obtain ⟨hve0, c, e, g1, g2, g3⟩ := hp1
    have hal : s.env x = .al b := by revert kal; cases s.env x <;> simp [AV.isAl]
    have htm : a.eval ox = .func (.func f) #[] #[.pointer (some ⟨β b, 0, none⟩)] := by
      rw [chkV_t h1]; exact ((h.refs x b kx kref).2.1 hal).trans hve0
    have hvals := vals_rep h args.toList as h2 kv
    obtain ⟨e1, e2⟩ := repL_at hvals
    simp only [List.length_map, Array.length_toList] at e1
    obtain ⟨zs, hzs⟩ : ∃ zs, zs = valsAV s as := ⟨_, rfl⟩
    rw [← hzs] at e1 e2 hrv
    have hstep : step T r s = stepD r.d (s.set b (.clo f ys) True false) rv.nr (gd s r.g) := by
      rw [step_eq T r s (by rw [hr]), hr]
      simp only [pre, val, hx, aCallC, nCallC, ← hzs, hrv, Option.getD_some, R1.yields, AV.inner]
      rfl
    have hpf : PFb P f (zs ++ [.box xs]) rv (.box ys) := by
      have := hT.calls _ _ _ hrv
      unfold PF at this
      rw [if_neg (Nat.not_lt.2 (Nat.le_add_left _ _)), Nat.add_sub_cancel] at this
      exact this rv _ rfl
    let Os : Nat → Fp := fun i => if i = zs.length then O b else NoFp
    have hOs : ∀ {i k o}, Os i k o → i = zs.length ∧ O b k o := fun {i k o} hio => by
      by_cases hi : i = zs.length
      · simp only [Os, if_pos hi] at hio; exact ⟨hi, hio⟩
      · simp only [Os, if_neg hi] at hio; exact hio.elim
    have hbox : ∀ (β' : Nat → Nat) (j : Nat), β' j = β b → RepTop w F (O b) β' j (.box xs) (.pointer (some ⟨β b, 0, none⟩)) := fun β' j hj => by
      simp only [RepTop]
      rw [hj]
      exact ⟨rfl, c, e, g1, g2, g3⟩
    have hvs : (#[] ++ args.map a.eval ++ #[.pointer (some ⟨β b, 0, none⟩)] : Array Value).size = (zs ++ [AV.box xs]).length := by simp [e1]
    have hlast : (zs ++ [AV.box xs])[zs.length]? = some (.box xs) := by simp
    have hlastv : (#[] ++ args.map a.eval ++ #[.pointer (some ⟨β b, 0, none⟩)] : Array Value)[zs.length]? = some (.pointer (some ⟨β b, 0, none⟩)) := by
      rw [Array.getElem?_append_right (by simp [e1])]
      simp [e1]
    have hcall := hpf w F Os (fun _ => β b) (#[] ++ args.map a.eval ++ #[.pointer (some ⟨β b, 0, none⟩)]) ⟨hT.glob.agree h.gl, hvs, fun i y v hy hv => by
        by_cases hi : i = zs.length
        · subst hi
          rw [hlast] at hy
          rw [hlastv] at hv
          cases hy; cases hv
          simp only [Os, if_true]
          exact ⟨hbox _ _ rfl, trivial⟩
        · have hlt := (List.getElem?_eq_some_iff.1 hy).1
          simp only [List.length_append, List.length_cons, List.length_nil] at hlt
          rw [List.getElem?_append_left (by omega)] at hy
          rw [Array.getElem?_append_left (by simp; omega)] at hv
          simp only [Array.empty_append] at hv
          have := e2 i y v hy (by rw [← hv]; simp)
          simp only [Os, if_neg hi]
          exact ⟨top_of_rep this, okOwn_good (by obtain ⟨q1, q2⟩ := good_of_rep this; rw [q1]; exact q2)⟩,
      fun i k o hio hF => h.sep b k o (hOs hio).2 hF,
      fun i j k o hij hi hj => hij ((hOs hi).1.trans (hOs hj).1.symm),
      h.inF,
      fun i k o hio => ⟨h.inO b k o (hOs hio).2, by rw [(hOs hio).1]; simp⟩⟩
    unfold Oper.wp
    rw [run_callF ho htm hfn hf.1 hf.2, Oper.upon_enter]
    refine Calls.mono hcall ?_
    rintro e' w' ⟨v, F', O', nb, rfl, hp, hq⟩
    obtain ⟨Op, t1, t2, t3⟩ := hq zs.length _ _ hlast rfl hlastv
    have hS : ∀ k o, (∃ i, Os i k o) → O b k o := fun k o ⟨i, hi⟩ => (hOs hi).2
    have hFF : ∀ k o, F' k o → F k o ∨ w.heap.size ≤ k ∨ O b k o := fun k o hf => by
      rcases hp.fF k o hf with q | q | q
      · exact .inl q
      · exact .inr (.inl q)
      · exact .inr (.inr (hS k o q))
    have hopn : ∀ k o, Op k o → w.heap.size ≤ k ∨ O b k o := fun k o ho => (t2 k o ho).2.2.2.imp id (hS k o)
    have hnew : RepTop w' (fun k o => F k o ∨ F' k o) Op β b (.clo f ys) (tm a b) := by
      have := RepTop.reloc (β := fun _ => β b) (t := zs.length) (β' := β) (t' := b) rfl (t1.chg (S := NoFp) (F' := fun k o => F k o ∨ F' k o) (Chg.refl _ _) (fun k o hF => ⟨.inr hF, hp.inF k o hF, id⟩) (fun _ _ _ hn => hn))
      simp only [RepTop] at this ⊢
      exact ⟨hve0, this.2⟩
    have hm := h.turnO (b := b) (S := fun k o => ∃ i, Os i k o) (F' := fun k o => F k o ∨ F' k o) (Op := Op) hp.chg hS (fun k o hf => .inl hf) (fun k o hf => hf.elim .inl (hFF k o))
      (fun k o hf => hf.elim (fun hf => Nat.lt_of_lt_of_le (h.inF k o hf) hp.chg.size) (hp.inF k o)) (.clo f ys) hnew
      (fun k o ho => ⟨fun hf => hf.elim (fun hf => (hopn k o ho).elim (fun q => by have := h.inF k o hf; omega) (fun q => h.sep b k o q hf)) (t2 k o ho).1, (t2 k o ho).2.2.1, hopn k o ho⟩) (fun _ => rfl)
    show K (a.put o.dst v) w'
    have hrep : ∀ (β' : Nat → Nat) d, β' d = nb → RepTop w' (fun b o => F b o ∨ F' b o) O' β' d rv v := fun β' d hb =>
      RepTop.reloc hb (hp.rep.chg (S := NoFp) (Chg.refl _ _) (fun b o hF => ⟨.inr hF, hp.inF b o hF, id⟩) (fun _ _ _ hn => hn))
    have fin : ∃ O'' β'', RR nt w0 S0 F0 (fun b o => F b o ∨ F' b o) O'' β'' (step T r s) (a.put o.dst v) w' := by
      rw [hstep]
      revert hd
      cases hod : o.dst <;> cases hrd : r.d <;> intro hd <;> simp at hd
      · exact ⟨_, _, hm⟩
      · obtain ⟨rfl, hlt⟩ := hd
        rw [own_nr hp.good]
        refine ⟨_, _, hm.put hlt rv v (gd s r.g) O' nb (fun _ => hrep _ _ (by unfold upd; rw [if_pos rfl])) (fun _ b hb => by rw [own_isTo hp.good] at hb; cases hb) (fun hn => (hn hg).elim) (fun k o ho hF => ?_) (fun t k o _ ho hto => ?_) hp.inO (fun k o ho => ?_)⟩
        · rcases hF with hF | hF
          · rcases hp.fO k o ho with q | q
            · have := h.inF k o hF; omega
            · exact h.sep b k o (hS k o q) hF
          · exact hp.sep k o ho hF
        · unfold off1 at hto
          split at hto
          · exact (t2 k o hto).2.1 ho
          · rename_i hne
            rcases hp.fO k o ho with q | q
            · have := h.inO t k o hto; omega
            · exact h.dis t b k o hne hto (hS k o q)
        · rcases hp.fO k o ho with q | q
          · exact .inl (Nat.le_trans h.chg.size q)
          · exact h.own b k o (hS k o q)
    obtain ⟨O'', β'', hfin⟩ := fin
    exact hK _ _ _ _ _ hfin
  · cases hf

theorem viewTo_self {x : AV} {b : Nat} (h : x.isTo b = true) : x.viewTo b = x := by
  cases x <;> simp [AV.isTo] at h <;> subst h <;> rfl

theorem addr0 (b off : Nat) : (⟨b, 0, none⟩ : Addr).add off = ⟨b, off, none⟩ := by rw [Addr.add_lit, Nat.zero_add]

def s2bCells (l : List UInt8) (cap : Nat) : Array Value := (l.map fun b => Value.int .u8 b.toNat).toArray ++ Array.replicate (cap - l.length) (.int .u8 0)
theorem s2bCells_size (l : List UInt8) (cap : Nat) (h : l.length ≤ cap) : (s2bCells l cap).size = cap := by
  simp [s2bCells]; omega
theorem run_s2bytes {P : Program} (e : TypeId) (l : List UInt8) : (Conv.stringToBytes e ⟨l.toArray⟩).run P w =
    .ok (.slice (some ⟨w.heap.size, 0, none⟩) l.length (grownCap w l.length 0 e)) ((w.drew.alloc (.cells (s2bCells l (grownCap w l.length 0 e)) e)).freeze ⟨w.heap.size, (s2bCells l (grownCap w l.length 0 e)).size, none⟩ 1) := by
  have hsh : ∀ c : Array Value, (w.drew.alloc (.cells c e)).shape? w.heap.size = some (e, c.size) := fun c => by
    have := heap_alloc_new w.drew (.cells c e)
    simp only [World.size_drew] at this
    unfold World.shape?
    rw [this]
  unfold Conv.stringToBytes markStringish
  simp only [Sem.run_bind, run_choose, Question.forced, Bool.false_eq_true, if_false, Result.andThen_ok, size_mk]
  have e1 : (Array.map (fun b : UInt8 => Value.int IntKind.u8 (b.toNat : Int)) (ByteArray.mk l.toArray).data) = (l.map fun b => Value.int .u8 b.toNat).toArray := by simp
  rw [e1]
  have hnr : ∀ c : Array Value, (newRow e c).run P w.drew = .ok ⟨w.heap.size, 0, none⟩ (w.drew.alloc (.cells c e)) := fun c => by simp [newRow, World.alloc]
  rw [show ({ w with drawn := w.drawn + 1 } : World) = w.drew from rfl, hnr]
  simp only [Result.andThen_ok, run_shape, Sem.run_bind]
  rw [hsh]
  simp only [Result.andThen_ok, Sem.run_bind, run_freeze, Sem.run_pure]
  rfl
theorem freeze_chg (g n : Nat) (hg : w.heap.size ≤ g) (w' : World) (hc : Chg NoFp w w') : Chg NoFp w (w'.freeze ⟨g, n, none⟩ 1) := by
  have hfz : ∀ k, k ≠ g → (w'.freeze ⟨g, n, none⟩ 1).heap[k]? = w'.heap[k]? := fun k hk => by
    simp only [World.freeze]
    rw [if_neg (by decide)]
    simp only [Array.getElem?_modify]
    rw [if_neg (Ne.symm hk)]
  refine ⟨?_, ?_, ?_, ?_, fun k hk hn => ?_, fun k c e f hx => ?_, fun k hk hn => ?_⟩
  · simp only [World.freeze]; rw [if_neg (by decide)]; exact hc.os
  · simp only [World.freeze]; rw [if_neg (by decide)]; exact hc.tape
  · simp only [World.freeze]; rw [if_neg (by decide)]; exact hc.output
  · simp only [World.freeze]; rw [if_neg (by decide)]; simpa using hc.size
  · rw [hfz k (by omega)]; exact hc.same k hk hn
  · rw [hfz k (by have := lt_of_heap hx; omega)]; exact hc.cells k c e f hx
  · rw [hfz k (by omega)]; exact hc.other k hk hn

theorem withInner_self {x : AV} (h : x.isOwn) : x.withInner x.inner = x := by
  revert h; cases x <;> simp [AV.isOwn, AV.withInner, AV.inner]
theorem own_to {x : AV} (h : x.isOwn) (c : Nat) : x.isTo c = false := by
  revert h; cases x <;> simp [AV.isOwn, AV.isTo]
/-- Cells that are copied into what b has. -/
theorem copy_ok {P : Program} {T : Tab} (h : RR nt w0 S0 F0 F O β s a w) {o : Oper} {r : RO} {b off dn m sz : Nat} {x y : Operand} {t u : TypeId} {ys : List AV} (kb : s.D b) (ho2 : (s.env b).isOwn)
    (ho : o.op = .call { callee := .builtin .copy, args := #[x, y], argTypes := #[t, u] }) (h1 : slIs P t sz = true) (q0 : Vw (β b) off dn (a.eval x)) (hlen : off + dn * sz ≤ (s.env b).inner.length)
    (hsrc : (Builtin.lenOf (a.eval y)).run P w = .ok m w ∧ ∃ news, (Builtin.firstCells sz (min dn m) (a.eval y)).run P w = .ok news.toArray w ∧ RepL w F true ys news ∧ news.length = min dn m * sz)
    (hst : step T r s = stepD r.d (s.set b ((s.env b).withInner (splice (s.env b).inner off ys)) True false) (.int .i64 (min dn m : Nat)) (gd s r.g))
    (hd : (match o.dst, r.d with | none, none => true | some d, some d' => d == d' && decide (d < nt) | _, _ => false) = true) (hdb : r.d ≠ some b) (hg : gd s r.g) {K : Act → World → Prop} {Q : Exit → Act → World → Prop}
    (hK' : ∀ {a' w'}, (∃ F' O' β', RR nt w0 S0 F0 F' O' β' (step T r s) a' w') → K a' w') : o.wp P a w K Q := by
  obtain ⟨ao, c, hx, hnc, _, hao⟩ := q0
  obtain ⟨hlen2, news, hnews, hrep, hnl⟩ := hsrc
  obtain ⟨e, j, he, hj, hjs⟩ := slIs_iff h1
  have hyl := repL_length _ _ hrep
  have hmn : Nat.min m dn = min dn m := Nat.min_comm m dn
  have hms : min dn m * sz ≤ dn * sz := Nat.mul_le_mul_right _ (Nat.min_le_left _ _)
  have key : ∃ w', (execOp a.eval o).run P w = .ok (.value (.int .i64 (min dn m : Nat))) w' ∧ RR nt w0 S0 F0 F O β (s.set b ((s.env b).withInner (splice (s.env b).inner off ys)) True false) a w' := by
    by_cases hz : ys = []
    · subst hz
      have hn0 : news = [] := List.eq_nil_of_length_eq_zero (by rw [hyl]; rfl)
      subst hn0
      refine ⟨w, ?_, ?_⟩
      · have : ∀ g : Addr, (storeCells g ([] : List Value)).run P w = .ok () w := fun g => rfl
        cases ao <;> simp [execOp, ho, resolve, invoke, builtin, Builtin.copy_, run_underlying he, hx, hlen2, sizeOf, typeInfo, hj, hjs, hmn, hnews, this] <;> rfl
      · have e1 : splice (s.env b).inner off [] = (s.env b).inner := by unfold splice; simp
        rw [e1, withInner_self ho2]
        exact h.again kb (own_to ho2)
    · have hpos : 0 < ys.length := List.length_pos_iff.2 hz
      have hdn : dn ≠ 0 := by
        intro e0
        rw [e0] at hnl
        simp at hnl
        rw [hnl] at hyl
        simp at hyl; omega
      obtain rfl := hao.resolve_left hdn
      obtain ⟨e1, e2⟩ := h.store (P := P) kb ho2 off ys news hrep (by omega)
      refine ⟨_, ?_, e2⟩
      simp [execOp, ho, resolve, invoke, builtin, Builtin.copy_, run_underlying he, hx, hlen2, sizeOf, typeInfo, hj, hjs, hmn, hnews, e1]
      rfl
  obtain ⟨w', k1, k2⟩ := key
  refine wp_value k1 (hK' ?_)
  rw [hst]
  revert hd
  cases hod : o.dst <;> cases hrd : r.d <;> intro hd <;> simp at hd
  · exact ⟨_, _, _, k2⟩
  · obtain ⟨rfl, hlt⟩ := hd
    exact ⟨_, _, _, k2.put0 hlt _ _ _ (fun _ => by simp only [RepTop, Rep]) (fun _ b hb => by simp [AV.isTo] at hb) (fun hn => (hn hg).elim)⟩

/-- The same block, said otherwise. -/
theorem RR.say {d : Nat} {x x' : AV} (h : RR nt w0 S0 F0 F O β (s.set d x True true) a w) (hx : RepTop w F (O d) β d x (tm a d) → RepTop w F (O d) β d x' (tm a d)) (hto : ∀ c, x'.isTo c = false) : RR nt w0 S0 F0 F O β (s.set d x' True true) a w := by
  refine ⟨h.chg, h.sep, h.dis, h.inF, h.inO, h.own, h.fF, fun u hu => ?_, fun u hk hu => ?_, fun y c hy hb => ?_, h.size, h.defs, h.gl⟩
  · have hr := h.rep u hu
    rw [St.env_set] at hr ⊢
    by_cases e : d = u
    · subst e; rw [if_pos rfl] at hr ⊢; exact hx hr
    · rw [if_neg e] at hr ⊢; exact hr
  · exact h.und u hk hu
  · rw [St.refOk_set] at hb
    have hr := h.refs y c hy
    rw [St.env_set, St.refOk_set] at hr
    rw [St.env_set]
    by_cases e : d = y
    · rw [if_pos e, hto] at hb; cases hb
    · rw [if_neg e] at hb hr
      have hr' := hr hb
      rw [if_neg e] at hr' ⊢
      exact hr'
theorem box_obox {O : Fp} {t : Nat} {xs : List AV} {v : Value} (h : RepTop w F O β t (.box xs) v) : RepTop w F O β t (.obox (xs.map AV.toO)) v := by
  simp only [RepTop] at h ⊢
  obtain ⟨h0, c, e, h1, h2, h3⟩ := h
  have hl := repL_length _ _ h2
  simp only [Array.length_toList] at hl
  refine ⟨h0, c, e, h1, ⟨by simp [hl], fun _ => NoFp, fun _ _ _ hn => hn.elim, fun _ _ _ _ _ hn => hn.elim, fun i x u hx hu => ?_⟩, h3⟩
  rw [List.getElem?_map] at hx
  obtain ⟨y, hy1, rfl⟩ := Option.map_eq_some_iff.1 hx
  obtain ⟨hlt, hye⟩ := List.getElem?_eq_some_iff.1 hy1
  obtain ⟨v, k1, k2, k3⟩ := repL_get xs c.toList i hlt h2
  rw [Array.getElem?_toList, hu] at k1
  cases k1
  rw [← hye]
  exact CellO.one (k2 rfl) k3
theorem step_ok {T : Tab} (hT : SoundG P T w0 F0) {ops : Array Oper} (h : RR nt w0 S0 F0 F O β s a w) {o : Oper} {r : RO} (hchk : chkRO P nt ops o r = true) (hg : gd s r.g) (hn : dfn T s r.op) {K : Act → World → Prop} {Q : Exit → Act → World → Prop}
    (hK : ∀ F' O' β' a' w', RR nt w0 S0 F0 F' O' β' (step T r s) a' w' → K a' w') : o.wp P a w K Q := by
  unfold chkRO at hchk
  simp only [Bool.and_eq_true] at hchk
  obtain ⟨⟨⟨hd, hc⟩, hgd⟩, hx⟩ := hchk
  have hK' : ∀ {a' w'}, (∃ F' O' β', RR nt w0 S0 F0 F' O' β' (step T r s) a' w') → K a' w' := fun ⟨_, _, _, hh⟩ => hK _ _ _ _ _ hh
  by_cases hval : r.op.isVal = true
  · obtain ⟨v, e1, e2⟩ := value_ok hT.glob h T hc hn hval
    obtain ⟨O', hR⟩ := h.endVal hd (val T s r.op) v (gd s r.g) hg e2
    refine wp_value e1 (hK F O' β _ _ ?_)
    rw [step_eq T r s (by cases hr : r.op <;> simp [hr, R1.isVal] at hval ⊢)]
    have hy : r.op.yields (val T s r.op) = val T s r.op := by
      have := nr_good (good_of_rep e2).2 (good_of_rep e2).1
      revert hval this
      generalize val T s r.op = av
      cases r.op <;> simp [R1.isVal, R1.yields]
    rw [hy]
    have : pre T s r.op = s := by cases hr : r.op <;> simp [hr, R1.isVal] at hval ⊢ <;> rfl
    rw [this]; exact hR
  · cases hr : r.op <;> simp [hr, R1.isVal] at hval <;> rw [hr] at hc hn hx <;> simp only at hx
    case callF x as fs =>
      exact callF_ok hT h hr (by rw [hr]; exact hc) hd hg (by rw [hr]; exact hn) hK
    case callL f as =>
      exact callL_ok hT h hr (by rw [hr]; exact hc) hd hg (by rw [hr]; exact hn) hK
    case call f as =>
      exact call_ok hT h hr (by rw [hr]; exact hc) (by simpa using hx) hd hg (by rw [hr]; exact hn) hK
    case steal t =>
      obtain ⟨d, hod, hrd, hlt⟩ := some_of hd hx
      obtain ⟨x, ho, hv⟩ := inv_steal hc
      simp only [dfn] at hn
      have hgv := h.give t
      refine wp_value (v := a.eval x) (w' := w) (by rcases ho with ho | ho <;> simp [execOp, ho]) (hK' ?_)
      rw [step_eq T r s (by rw [hr]), hr, hrd, hod]
      have hnr : (s.env t).nr = s.env t := by
        have hh := hn.2
        revert hh; cases s.env t <;> simp [AV.share, AV.good, AV.nr]
      simp only [pre, val, stepD, R1.yields, hnr]
      refine ⟨_, _, _, hgv.putS hlt _ _ _ (O t) (fun _ => ?_) (fun _ b => by
        have hh := hn.2
        revert hh; cases s.env t <;> simp [AV.share, AV.good, AV.isTo]) (fun hn => (hn hg).elim) (h.sep t) (fun u b o _ ho' hu => ?_) (h.inO t) (h.own t)⟩
      · rw [chkV_t hv]; exact RepTop.idx hn.2 (h.rep t hn.1)
      · unfold off1 at hu; split at hu
        · exact hu.elim
        · exact h.dis t u b o (by rename_i hne; exact fun e => hne e.symm) ho' hu
    case s2b x' =>
      obtain ⟨d, hod, hrd, hlt⟩ := some_of hd hx
      obtain ⟨src, dst, x, ho, h1, h2, h3, hv⟩ := inv_s2b hc
      simp only [dfn] at hn
      obtain ⟨l, hl⟩ : ∃ l, s.rd x' = .str l := by have := hn.2; revert this; cases s.rd x' <;> simp [dS2b]
      have hr' := h.rd hv hn.1 (by rw [hl]; trivial)
      have hb := hn.2
      rw [hl] at hr' hb
      simp only [Rep] at hr'
      simp only [dS2b] at hb
      obtain ⟨e, he, he8⟩ := u8sIs_iff h2
      have hcap := grownCap_ge w l.length 0 e
      have hcm := grownCap_le_maxLen w l.length 0 e (by unfold maxLen; omega)
      refine wp_value (v := .slice (some ⟨w.heap.size, 0, none⟩) l.length (grownCap w l.length 0 e)) (by
        simp only [execOp, ho, hr', convert, Sem.run_bind, run_underlying (strIs_iff h1), run_underlying he, run_underlying he8, Result.andThen_ok, run_s2bytes]
        rfl) (hK' ?_)
      rw [step_eq T r s (by rw [hr]), hr, hrd, hod]
      simp only [pre, val, stepD, hl, aS2b, R1.yields, AV.nr]
      have hcs := s2bCells_size l _ hcap
      have hgdT : gd s r.g = True := eq_true hg
      rw [hgdT]
      refine ⟨_, _, _, h.freshRow hlt (freeze_chg _ _ (Nat.le_refl _) _ ((chg_drew NoFp w).trans (chg_alloc NoFp w.drew _) (fun _ _ _ hn => hn))) ?_ 1 l.length _ (s2bCells l (grownCap w l.length 0 e)) e (grownCap w l.length 0 e) (grownCap w l.length 0 e + 1) ?_ hcap hcm (by rw [hcs, Nat.mul_one]) ?_ (bytesAV l) (l.map fun b => Value.int .u8 b.toNat) (repL_bytes l) (by simp [bytesAV]) ?_⟩
      · simp only [World.freeze]; rw [if_neg (by decide)]; simp
      · have := heap_alloc_new w.drew (.cells (s2bCells l (grownCap w l.length 0 e)) e)
        simp only [World.size_drew] at this
        simp only [World.freeze]
        rw [if_neg (by decide)]
        simp only [Array.getElem?_modify, if_true, this, Option.map_some, hcs]
        simp
      · right; omega
      · intro j v hj
        have hjl := (List.getElem?_eq_some_iff.1 hj).1
        unfold s2bCells
        rw [Array.getElem?_append_left (by simpa using hjl)]
        simpa using hj
    case fldB t off =>
      simp only [Bool.and_eq_true, bne_iff_ne, ne_eq] at hx
      obtain ⟨d, hod, hrd, hlt⟩ := some_of hd hx.1
      obtain ⟨st, x, f, ho, h1, hv⟩ := inv_fldB hc
      simp only [dfn] at hn
      obtain ⟨xs, hb⟩ : ∃ xs, s.env t = .box xs := by have := hn.2; revert this; cases s.env t <;> simp [AV.isBox]
      have hp := h.rep t hn.1
      rw [hb] at hp
      simp only [RepTop] at hp
      have hv' : a.eval x = .pointer (some ⟨β t, 0, none⟩) := by rw [chkV_t hv]; exact hp.1
      refine wp_value (v := .pointer (some ⟨β t, 0 + off, none⟩)) (w' := w) (by simp only [execOp, ho, hv', Sem.run_bind, fieldIs_run h1, Result.andThen_ok]; rfl) (hK' ?_)
      rw [step_eq T r s (by rw [hr]), hr, hrd, hod]
      simp only [pre, val, stepD, R1.yields]
      exact ⟨_, _, _, h.put0 hlt _ _ _ (fun _ => by simp only [RepTop]) (fun _ b hb => by
        simp only [AV.isTo, beq_iff_eq] at hb
        subst hb
        exact ⟨fun e => hx.2 (by rw [hrd, e]), fun off' e => (by cases e; rw [Nat.zero_add]), fun e => (by cases e), fun _ _ e => by cases e⟩) (fun hn => (hn hg).elim)⟩
    case fldO t off =>
      simp only [Bool.and_eq_true, bne_iff_ne, ne_eq] at hx
      obtain ⟨d, hod, hrd, hlt⟩ := some_of hd hx.1
      obtain ⟨st, x, f, ho, h1, hv⟩ := inv_fldO hc
      simp only [dfn] at hn
      have hp := (h.cellsO hn.1 hn.2).1
      have hv' : a.eval x = .pointer (some ⟨β t, 0, none⟩) := by rw [chkV_t hv]; exact hp
      refine wp_value (v := .pointer (some ⟨β t, 0 + off, none⟩)) (w' := w) (by simp only [execOp, ho, hv', Sem.run_bind, fieldIs_run h1, Result.andThen_ok]; rfl) (hK' ?_)
      rw [step_eq T r s (by rw [hr]), hr, hrd, hod]
      simp only [pre, val, stepD, R1.yields]
      exact ⟨_, _, _, h.put0 hlt _ _ _ (fun _ => by simp only [RepTop]) (fun _ b hb => by
        simp only [AV.isTo, beq_iff_eq] at hb
        subst hb
        exact ⟨fun e => hx.2 (by rw [hrd, e]), fun off' e => (by cases e; rw [Nat.zero_add]), fun e => (by cases e), fun _ _ e => by cases e⟩) (fun hn => (hn hg).elim)⟩
    case allocO zs =>
      obtain ⟨d, hod, hrd, hlt⟩ := some_of hd hx
      obtain ⟨t, ho, hz⟩ := inv_allocO hc
      obtain ⟨i, z, hi, hzz, hzs⟩ := zeroIs_iff hz
      refine wp_value (v := .pointer (some ⟨w.heap.size, 0, none⟩)) (w' := w.alloc (.cells z.cells t)) (by simp [execOp, ho, Instr.alloc, zeroValue, typeInfo, hi, hzz, newVar, newRow]) (hK' ?_)
      rw [step_eq T r s (by rw [hr]), hr, hrd, hod]
      simp only [pre, val, stepD, R1.yields, AV.nr]
      rw [eq_true hg]
      exact ⟨_, _, _, (h.newBox hlt _ _ t (cAVs_rep hzs)).say box_obox (fun _ => rfl)⟩
    case stO t n x' =>
      obtain ⟨hod, hrd⟩ := none_of hd hx
      obtain ⟨tt, x, y, ho, hsz, hv, hy⟩ := inv_stO hc
      simp only [dfn] at hn
      obtain ⟨k1, k2, k3, k4, k5, k6⟩ := hn
      have hp := (h.cellsO k1 k2).1
      have hv' : a.eval x = .pointer (some ⟨β t, 0, none⟩) := by rw [chkV_t hv]; exact hp
      have hcells := cells_rep (h.rd hy k3 (lies_good k4)) k4
      have hlen := repL_length _ _ hcells
      obtain ⟨j, hj, hjs⟩ := szIs_iff hsz
      obtain ⟨e1, e2⟩ := h.storeO (P := P) k1 k2 0 _ _ hcells (by omega)
      refine wp_skip' (w' := w.setCells (β t) 0 (a.eval y).cells.toList) ?_ (hK' ?_)
      · have hne : ¬ (a.eval y).cells.size ≠ j.size := by
          rw [hjs]; simp only [Array.length_toList] at hlen; omega
        simp only [execOp, ho, hv', Instr.storeAt, Instr.sureAddr, Sem.run_bind, Sem.run_pure, Result.andThen_ok, storeVar, sizeOf, typeInfo, run_program, hj, Sem.run_ite, if_neg hne, e1]
      · refine ⟨F, O, β, ?_⟩
        rw [step_eq T r s (by rw [hr]), hr, hrd, hod]
        simp only [pre, stepD]
        have : splice (s.env t).inner 0 ((s.rd x').cells.map AV.toO) = (s.rd x').cells.map AV.toO := by
          unfold splice
          rw [Nat.zero_add, List.length_map, List.drop_eq_nil_of_le (by omega)]
          simp
        rw [this] at e2
        exact e2
    case stRO x' b n y' =>
      obtain ⟨hod, hrd⟩ := none_of hd hx
      obtain ⟨tt, x, y, ho, hsz, hv, hy⟩ := inv_stRO hc
      simp only [dfn] at hn
      obtain ⟨k0, k00, kr, k1, k2, k3, k4, k5, k6⟩ := hn
      obtain ⟨off, hrf⟩ : ∃ off, s.env x' = .ref b off := by revert k00; cases s.env x' <;> simp [AV.refTo]
      have hp := (h.refs x' b k0 kr).1 off hrf
      rw [hrf] at k6
      simp only [AV.refOff] at k6
      have hv' : a.eval x = .pointer (some ⟨β b, off, none⟩) := by rw [chkV_t hv]; exact hp
      have hcells := cells_rep (h.rd hy k3 (lies_good k4)) k4
      have hlen := repL_length _ _ hcells
      obtain ⟨j, hj, hjs⟩ := szIs_iff hsz
      obtain ⟨e1, e2⟩ := h.storeO (P := P) k1 k2 off _ _ hcells (by omega)
      refine wp_skip' (w' := w.setCells (β b) off (a.eval y).cells.toList) ?_ (hK' ?_)
      · have hne : ¬ (a.eval y).cells.size ≠ j.size := by
          rw [hjs]; simp only [Array.length_toList] at hlen; omega
        simp only [execOp, ho, hv', Instr.storeAt, Instr.sureAddr, Sem.run_bind, Sem.run_pure, Result.andThen_ok, storeVar, sizeOf, typeInfo, run_program, hj, Sem.run_ite, if_neg hne, e1]
      · refine ⟨F, O, β, ?_⟩
        rw [step_eq T r s (by rw [hr]), hr, hrd, hod]
        simp only [pre, stepD, hrf, AV.refOff]
        exact e2
    case takeO x' b =>
      simp only [Bool.and_eq_true, bne_iff_ne, ne_eq] at hx
      obtain ⟨d, hod, hrd, hlt⟩ := some_of hd hx.1
      obtain ⟨t, x, ho, ht, ha, hv⟩ := inv_takeO hc
      simp only [dfn] at hn
      obtain ⟨k0, k00, kr, k1, k2, k3⟩ := hn
      obtain ⟨off, hrf⟩ : ∃ off, s.env x' = .ref b off := by revert k00; cases s.env x' <;> simp [AV.refTo]
      have hp := (h.refs x' b k0 kr).1 off hrf
      rw [hrf] at k3
      simp only [AV.refOff] at k3
      have hv' : a.eval x = .pointer (some ⟨β b, off, none⟩) := by rw [chkV_t hv]; exact hp
      have hget : (s.env b).inner[off]? = some ((s.env b).inner.getD off .bad) := by
        rw [List.getD_eq_getElem?_getD] at k3 ⊢
        revert k3
        cases (s.env b).inner[off]? <;> simp [AV.isTree]
      obtain ⟨v, O', β', q1, q2⟩ := h.takeO k1 k2 hget k3 hlt (fun e => hx.2 (by rw [hrd, e]))
      refine wp_value (v := v) (w' := w) (by simp [execOp, ho, hv', Instr.loadAt, Instr.sureAddr, loadVar, agg_run ha, q1]) (hK' ?_)
      rw [step_eq T r s (by rw [hr]), hr, hrd, hod]
      have hnr : ((s.env b).inner.getD off .bad).nr = (s.env b).inner.getD off .bad := by
        revert k3; cases (s.env b).inner.getD off .bad <;> simp [AV.isTree, AV.nr]
      simp only [pre, val, stepD, R1.yields, hrf, AV.refOff, hnr]
      rw [eq_true hg]
      exact ⟨_, _, _, q2⟩
    case extO b i =>
      simp only [Bool.and_eq_true, bne_iff_ne, ne_eq] at hx
      obtain ⟨d, hod, hrd, hlt⟩ := some_of hd hx.1
      obtain ⟨x, ho, hv⟩ := inv_extO hc
      simp only [dfn] at hn
      obtain ⟨k1, k2, k3⟩ := hn
      obtain ⟨cs, v, O', β', e1, e2, e3⟩ := h.extO k1 k2 k3 hlt
      have hv' : a.eval x = .tuple cs := by rw [chkV_t hv]; exact e1
      refine wp_value (v := v) (w' := w) (by simp [execOp, ho, hv', Instr.extract, e2]) (hK' ?_)
      rw [step_eq T r s (by rw [hr]), hr, hrd, hod]
      have hnr : ((s.env b).inner.getD i .bad).nr = (s.env b).inner.getD i .bad := by
        revert k3; cases (s.env b).inner.getD i .bad <;> simp [AV.isComp, AV.nr]
      simp only [pre, val, stepD, R1.yields, hnr]
      rw [eq_true hg]
      exact ⟨_, _, _, e3⟩
    case putO x' b t' =>
      simp only [Bool.and_eq_true, bne_iff_ne, ne_eq] at hx
      obtain ⟨hod, hrd⟩ := none_of hd hx.1
      obtain ⟨tt, x, y, ho, hsz, hv, hy⟩ := inv_putO hc
      simp only [dfn] at hn
      obtain ⟨k0, k00, kr, k1, k2, k3, k4, k5⟩ := hn
      obtain ⟨off, hrf⟩ : ∃ off, s.env x' = .ref b off := by revert k00; cases s.env x' <;> simp [AV.refTo]
      have hp := (h.refs x' b k0 kr).1 off hrf
      rw [hrf] at k5
      simp only [AV.refOff] at k5
      have hv' : a.eval x = .pointer (some ⟨β b, off, none⟩) := by rw [chkV_t hv]; exact hp
      have hy' : a.eval y = tm a t' := by rw [chkV_t hy]; rfl
      obtain ⟨j, hj, hjs⟩ := szIs_iff hsz
      obtain ⟨e1, O', e2⟩ := h.putO (P := P) hx.2 k1 k2 k3 k4 k5
      have hcell : (tm a t').cells = #[tm a t'] := (top_own k4 (h.rep t' k3)).2.2
      refine wp_skip' (w' := w.setCells (β b) off [tm a t']) ?_ (hK' ?_)
      · simp [execOp, ho, hv', hy', hcell, Instr.storeAt, Instr.sureAddr, storeVar, sizeOf, typeInfo, hj, hjs, e1]
      · refine ⟨F, O', β, ?_⟩
        rw [step_eq T r s (by rw [hr]), hr, hrd, hod]
        simp only [pre, stepD, hrf, AV.refOff]
        exact e2
    case nck x' b =>
      simp only [Bool.and_eq_true, bne_iff_ne, ne_eq] at hx
      obtain ⟨d, hod, hrd, hlt⟩ := some_of hd hx.1
      obtain ⟨x, ho, hv⟩ := inv_nck hc
      simp only [dfn] at hn
      obtain ⟨k1, k2, k3, k4, k5⟩ := hn
      have hal : s.env x' = .al b := by revert k2; cases s.env x' <;> simp [AV.isAl]
      obtain ⟨xs, hb⟩ : ∃ xs, s.env b = .box xs := by revert k5; cases s.env b <;> simp [AV.isBox]
      have hp := h.rep b k4
      rw [hb] at hp
      simp only [RepTop] at hp
      have hv' : a.eval x = .pointer (some ⟨β b, 0, none⟩) := by rw [chkV_t hv]; exact ((h.refs x' b k1 k3).2.1 hal).trans hp.1
      refine wp_value (v := .pointer (some ⟨β b, 0, none⟩)) (w' := w) (by simp [execOp, ho, hv']) (hK' ?_)
      rw [step_eq T r s (by rw [hr]), hr, hrd, hod]
      simp only [pre, val, stepD, R1.yields]
      exact ⟨_, _, _, h.put0 hlt _ _ _ (fun _ => by simp only [RepTop]) (fun _ b' hb' => by
        simp only [AV.isTo, beq_iff_eq] at hb'
        subst hb'
        exact ⟨fun e => hx.2 (by rw [hrd, e]), fun off' e => (by cases e; rfl), fun e => (by cases e), fun _ _ e => by cases e⟩) (fun hn => (hn hg).elim)⟩
    case nilR sz =>
      obtain ⟨d, hod, hrd, hlt⟩ := some_of hd hx
      obtain ⟨x, ho, hv⟩ := inv_nilR hc
      have hv' : a.eval x = .slice none 0 0 := by
        cases x <;> simp [chkV] at hv
        exact (cAV_row hv).2.2
      refine wp_value (v := .slice none 0 0) (w' := w) (by rcases ho with ho | ho <;> simp [execOp, ho, hv']) (hK' ?_)
      rw [step_eq T r s (by rw [hr]), hr, hrd, hod]
      simp only [pre, val, stepD, R1.yields, AV.nr]
      exact ⟨_, _, _, h.put0 hlt _ _ _ (fun _ => by simp [RepTop]) (fun _ b hb => by simp [AV.isTo] at hb) (fun hn => (hn hg).elim)⟩
    case fldR x' b off =>
      simp only [Bool.and_eq_true, bne_iff_ne, ne_eq] at hx
      obtain ⟨d, hod, hrd, hlt⟩ := some_of hd hx.1
      obtain ⟨st, x, f, ho, h1, hv⟩ := inv_fldR hc
      simp only [dfn] at hn
      obtain ⟨off0, hb⟩ : ∃ off0, s.env x' = .ref b off0 := by have := hn.2.1; revert this; cases s.env x' <;> simp [AV.refTo]
      have hp := (h.refs x' b hn.1 hn.2.2).1 off0 hb
      have hv' : a.eval x = .pointer (some ⟨β b, off0, none⟩) := by rw [chkV_t hv]; exact hp
      refine wp_value (v := .pointer (some ⟨β b, off0 + off, none⟩)) (w' := w) (by simp only [execOp, ho, hv', Sem.run_bind, fieldIs_run h1, Result.andThen_ok]; rfl) (hK' ?_)
      rw [step_eq T r s (by rw [hr]), hr, hrd, hod]
      simp only [pre, val, stepD, hb, AV.refOff, R1.yields]
      exact ⟨_, _, _, h.put0 hlt _ _ _ (fun _ => by simp only [RepTop]) (fun _ b' hb' => by
        simp only [AV.isTo, beq_iff_eq] at hb'
        subst hb'
        exact ⟨fun e => hx.2 (by rw [hrd, e]), fun off' e => (by cases e; rfl), fun e => (by cases e), fun _ _ e => by cases e⟩) (fun hn => (hn hg).elim)⟩
    case idxR x' b sz n i' =>
      simp only [Bool.and_eq_true, bne_iff_ne, ne_eq] at hx
      obtain ⟨d, hod, hrd, hlt⟩ := some_of hd hx.1
      obtain ⟨tt, x, i, ho, h1, hv, hi⟩ := inv_idxR hc
      simp only [dfn] at hn
      obtain ⟨kr, k3, k4, k5, k6⟩ := hn
      obtain ⟨off0, hb⟩ : ∃ off0, s.env x' = .ref b off0 := by have := kr.2.1; revert this; cases s.env x' <;> simp [AV.refTo]
      have hp := (h.refs x' b kr.1 kr.2.2).1 off0 hb
      have hv' : a.eval x = .pointer (some ⟨β b, off0, none⟩) := by rw [chkV_t hv]; exact hp
      obtain ⟨k, hi'⟩ := int_run (h.rd hi k3 (isI_good k4)) k4
      unfold arrIs at h1
      split at h1
      · rename_i m e he
        simp only [Bool.and_eq_true, beq_iff_eq] at h1
        obtain ⟨rfl, hsz⟩ := h1
        obtain ⟨j, hj, hjs⟩ := szIs_iff hsz
        refine wp_value (v := .pointer (some ⟨β b, off0 + (s.rd i').toI.toNat * sz, none⟩)) (w' := w) (by simp [execOp, ho, hv', hi', Instr.indexAt, asIntOf, run_underlying he, Instr.sureAddr, k5, k6, sizeOf, typeInfo, hj, hjs, Addr.add_lit]) (hK' ?_)
        rw [step_eq T r s (by rw [hr]), hr, hrd, hod]
        simp only [pre, val, stepD, hb, AV.refOff, R1.yields]
        exact ⟨_, _, _, h.put0 hlt _ _ _ (fun _ => by simp only [RepTop]) (fun _ b' hb' => by
          simp only [AV.isTo, beq_iff_eq] at hb'
          subst hb'
          exact ⟨fun e => hx.2 (by rw [hrd, e]), fun off' e => (by cases e; rfl), fun e => (by cases e), fun _ _ e => by cases e⟩) (fun hn => (hn hg).elim)⟩
      · cases h1
    case idxB t sz n i' =>
      simp only [Bool.and_eq_true, bne_iff_ne, ne_eq] at hx
      obtain ⟨d, hod, hrd, hlt⟩ := some_of hd hx.1
      obtain ⟨tt, x, i, ho, h1, hv, hi⟩ := inv_idxB hc
      simp only [dfn] at hn
      obtain ⟨k1, k2, k3, k4, k5, k6⟩ := hn
      obtain ⟨xs, hb⟩ : ∃ xs, s.env t = .box xs := by revert k2; cases s.env t <;> simp [AV.isBox]
      have hp := h.rep t k1
      rw [hb] at hp
      simp only [RepTop] at hp
      have hv' : a.eval x = .pointer (some ⟨β t, 0, none⟩) := by rw [chkV_t hv]; exact hp.1
      obtain ⟨k, hi'⟩ := int_run (h.rd hi k3 (isI_good k4)) k4
      unfold arrIs at h1
      split at h1
      · rename_i m e he
        simp only [Bool.and_eq_true, beq_iff_eq] at h1
        obtain ⟨rfl, hsz⟩ := h1
        obtain ⟨j, hj, hjs⟩ := szIs_iff hsz
        refine wp_value (v := .pointer (some ⟨β t, (s.rd i').toI.toNat * sz, none⟩)) (w' := w) (by simp [execOp, ho, hv', hi', Instr.indexAt, asIntOf, run_underlying he, Instr.sureAddr, k5, k6, sizeOf, typeInfo, hj, hjs, Addr.add_lit]) (hK' ?_)
        rw [step_eq T r s (by rw [hr]), hr, hrd, hod]
        simp only [pre, val, stepD, R1.yields]
        exact ⟨_, _, _, h.put0 hlt _ _ _ (fun _ => by simp only [RepTop]) (fun _ b' hb' => by
          simp only [AV.isTo, beq_iff_eq] at hb'
          subst hb'
          exact ⟨fun e => hx.2 (by rw [hrd, e]), fun off' e => (by cases e; rfl), fun e => (by cases e), fun _ _ e => by cases e⟩) (fun hn => (hn hg).elim)⟩
      · cases h1
    case box x' =>
      obtain ⟨d, hod, hrd, hlt⟩ := some_of hd hx
      obtain ⟨t, x, ho, hv⟩ := inv_box hc
      simp only [dfn] at hn
      have hcells := cells_rep (h.rd hv hn.1 (lies_good hn.2)) hn.2
      refine wp_value (v := .pointer (some ⟨w.heap.size, 0, none⟩)) (w' := w.alloc (.cells (a.eval x).cells t)) (by simp [execOp, ho, Instr.box, newVar, newRow]) (hK' ?_)
      rw [step_eq T r s (by rw [hr]), hr, hrd, hod]
      simp only [pre, val, stepD, R1.yields, AV.nr]
      rw [eq_true hg]
      exact ⟨_, _, _, h.newBox hlt _ _ t hcells⟩
    case alloc zs =>
      obtain ⟨d, hod, hrd, hlt⟩ := some_of hd hx
      obtain ⟨t, ho, hz⟩ := inv_alloc hc
      obtain ⟨i, z, hi, hzz, hzs⟩ := zeroIs_iff hz
      refine wp_value (v := .pointer (some ⟨w.heap.size, 0, none⟩)) (w' := w.alloc (.cells z.cells t)) (by simp [execOp, ho, Instr.alloc, zeroValue, typeInfo, hi, hzz, newVar, newRow]) (hK' ?_)
      rw [step_eq T r s (by rw [hr]), hr, hrd, hod]
      simp only [pre, val, stepD, R1.yields, AV.nr]
      rw [eq_true hg]
      exact ⟨_, _, _, h.newBox hlt _ _ t (cAVs_rep hzs)⟩
    case stB t n x' =>
      simp only [Bool.and_eq_true, decide_eq_true_eq] at hx
      obtain ⟨hod, hrd⟩ := none_of hd hx.2
      obtain ⟨tt, x, y, ho, hsz, hv, hy⟩ := inv_stB hc
      simp only [dfn] at hn
      obtain ⟨k1, k2, k3, k4, k5, k6⟩ := hn
      obtain ⟨xs, hb⟩ : ∃ xs, s.env t = .box xs := by revert k2; cases s.env t <;> simp [AV.isBox]
      have hp := h.rep t k1
      rw [hb] at hp k6
      simp only [RepTop] at hp
      simp only [AV.inner] at k6
      have hv' : a.eval x = .pointer (some ⟨β t, 0, none⟩) := by rw [chkV_t hv]; exact hp.1
      have hcells := cells_rep (h.rd hy k3 (lies_good k4)) k4
      have hlen := repL_length _ _ hcells
      obtain ⟨j, hj, hjs⟩ := szIs_iff hsz
      obtain ⟨e1, e2⟩ := h.store (P := P) k1 (by rw [hb]; trivial) 0 _ _ hcells (by rw [hb]; simp only [AV.inner]; omega)
      rw [hb] at e2
      simp only [AV.inner, AV.withInner] at e2
      refine wp_skip' (w' := w.setCells (β t) 0 (a.eval y).cells.toList) ?_ (hK' ?_)
      · have hne : ¬ (a.eval y).cells.size ≠ j.size := by
          rw [hjs]; simp only [Array.length_toList] at hlen; omega
        simp only [execOp, ho, hv', Instr.storeAt, Instr.sureAddr, Sem.run_bind, Sem.run_pure, Result.andThen_ok, storeVar, sizeOf, typeInfo, run_program, hj, Sem.run_ite, if_neg hne, e1]
      · refine ⟨F, O, β, ?_⟩
        unfold step
        simp only [hr, hod]
        have : splice xs 0 (s.rd x').cells = (s.rd x').cells := by
          unfold splice
          rw [Nat.zero_add, List.drop_eq_nil_of_le (by omega)]
          simp
        rw [this] at e2
        exact e2
    case stR x' b n y' =>
      simp only [Bool.and_eq_true, decide_eq_true_eq] at hx
      obtain ⟨hod, hrd⟩ := none_of hd hx.2
      obtain ⟨tt, x, y, ho, hsz, hv, hy⟩ := inv_stR hc
      simp only [dfn] at hn
      obtain ⟨k0, k00, kr, k1, k2, k3, k4, k5, k6⟩ := hn
      obtain ⟨off, hrf⟩ : ∃ off, s.env x' = .ref b off := by revert k00; cases s.env x' <;> simp [AV.refTo]
      have hp := (h.refs x' b k0 kr).1 off hrf
      rw [hrf] at k6
      simp only [AV.refOff] at k6
      have hv' : a.eval x = .pointer (some ⟨β b, off, none⟩) := by rw [chkV_t hv]; exact hp
      have hcells := cells_rep (h.rd hy k3 (lies_good k4)) k4
      have hlen := repL_length _ _ hcells
      obtain ⟨j, hj, hjs⟩ := szIs_iff hsz
      obtain ⟨e1, e2⟩ := h.store (P := P) k1 k2 off _ _ hcells (by omega)
      refine wp_skip' (w' := w.setCells (β b) off (a.eval y).cells.toList) ?_ (hK' ?_)
      · have hne : ¬ (a.eval y).cells.size ≠ j.size := by
          rw [hjs]; simp only [Array.length_toList] at hlen; omega
        simp only [execOp, ho, hv', Instr.storeAt, Instr.sureAddr, Sem.run_bind, Sem.run_pure, Result.andThen_ok, storeVar, sizeOf, typeInfo, run_program, hj, Sem.run_ite, if_neg hne, e1]
      · refine ⟨F, O, β, ?_⟩
        unfold step
        simp only [hr, hod, hrf, AV.refOff]
        exact e2
    case mkSl sz n zs ps =>
      obtain ⟨d, hod, hrd, hlt⟩ := some_of hd hx
      obtain ⟨t, parts, e, j, z, ho, hsm, he, hj, hjs, hz, hp, hzs, hpos⟩ := inv_mkSl hc
      simp only [dfn] at hn
      have hlen := cAVs_len hzs
      simp only [Array.length_toList] at hlen
      obtain ⟨k1, k2⟩ := hn
      rw [hlen] at k1
      obtain ⟨cs, e1, e2, e3⟩ := fill_ok (w := w) (F := F) _ s a (fun o x hc hk hg => h.rd hc hk hg) parts.toList ps zs _ hp k1 (cAVs_rep hzs)
      have hcl := repL_length _ _ e2
      simp only [Array.length_toList] at hcl
      have hsize : cs.size = n * sz := by rw [e3, ← hlen, k2]
      refine wp_value (v := .slice (some ⟨w.heap.size, 0, none⟩) n n) (w' := w.alloc (.cells cs e)) ?_ (hK' ?_)
      · have hm : (parts.map fun x => (x.1, a.eval x.2)).toList = parts.toList.map fun p => (p.1, a.eval p.2) := by simp
        simp only [execOp, ho, Instr.buildSlice, Sem.run_bind, run_underlying he, Result.andThen_ok, sizeOf, typeInfo, run_program, hj, hjs, Sem.run_pure]
        rw [if_neg (by omega)]
        by_cases h0 : n * sz = 0
        · have hr0 : ((Array.range (n * sz)).map ((#[] : Array Value)[· % (#[] : Array Value).size]!)) = ((Array.range (n * sz)).map (z.cells[· % z.cells.size]!)) := by rw [h0]; simp
          rw [if_pos h0]
          simp only [Sem.run_bind, Sem.run_pure, Result.andThen_ok, hr0, hm, e1, newRow, run_newObj]
          rfl
        · rw [if_neg h0]
          simp only [zeroValue, typeInfo, run_program, hj, hz, Sem.run_bind, Sem.run_pure, Result.andThen_ok, hm, e1, newRow, run_newObj]
          rfl
      · rw [step_eq T r s (by rw [hr]), hr, hrd, hod]
        simp only [pre, val, stepD, R1.yields, AV.nr]
        rw [eq_true hg]
        have hnm : n ≤ maxLen := by
          have : n * 1 ≤ n * sz := Nat.mul_le_mul_left _ hpos
          unfold maxLen; omega
        exact ⟨_, _, _, h.freshRow hlt (chg_alloc NoFp w _) (by simp) sz n n cs e 0 0 (heap_alloc_new w _) (Nat.le_refl _) hnm hsize (.inl (Nat.le_refl _)) _ cs.toList e2 (by omega) (fun j v hj => by simpa using hj)⟩
    case mkSlM sz n zs ps =>
      obtain ⟨d, hod, hrd, hlt⟩ := some_of hd hx
      obtain ⟨t, parts, e, j, z, ho, hsm, he, hj, hjs, hz, hp, hzs, hpos⟩ := inv_mkSlM hc
      simp only [dfn] at hn
      have hlen := cAVs_len hzs
      simp only [Array.length_toList] at hlen
      obtain ⟨k1, k2⟩ := hn
      rw [hlen] at k1
      obtain ⟨cs, e1, e2, e3⟩ := fill_ok (w := w) (F := F) _ s a (fun o x hc hk hg => h.rd hc hk hg) parts.toList ps zs _ hp k1 (cAVs_rep hzs)
      have hcl := repL_length _ _ e2
      simp only [Array.length_toList] at hcl
      have hsize : cs.size = n * sz := by rw [e3, ← hlen, k2]
      refine wp_value (v := .slice (some ⟨w.heap.size, 0, none⟩) n n) (w' := w.alloc (.cells cs e)) ?_ (hK' ?_)
      · have hm : (parts.map fun x => (x.1, a.eval x.2)).toList = parts.toList.map fun p => (p.1, a.eval p.2) := by simp
        simp only [execOp, ho, Instr.buildSlice, Sem.run_bind, run_underlying he, Result.andThen_ok, sizeOf, typeInfo, run_program, hj, hjs, Sem.run_pure]
        rw [if_neg (by omega)]
        by_cases h0 : n * sz = 0
        · have hr0 : ((Array.range (n * sz)).map ((#[] : Array Value)[· % (#[] : Array Value).size]!)) = ((Array.range (n * sz)).map (z.cells[· % z.cells.size]!)) := by rw [h0]; simp
          rw [if_pos h0]
          simp only [Sem.run_bind, Sem.run_pure, Result.andThen_ok, hr0, hm, e1, newRow, run_newObj]
          rfl
        · rw [if_neg h0]
          simp only [zeroValue, typeInfo, run_program, hj, hz, Sem.run_bind, Sem.run_pure, Result.andThen_ok, hm, e1, newRow, run_newObj]
          rfl
      · rw [step_eq T r s (by rw [hr]), hr, hrd, hod]
        simp only [pre, val, stepD, R1.yields, AV.nr]
        rw [eq_true hg]
        have hnm : n ≤ maxLen := by
          have : n * 1 ≤ n * sz := Nat.mul_le_mul_left _ hpos
          unfold maxLen; omega
        exact ⟨_, _, _, h.freshM hlt (chg_alloc NoFp w _) (by simp) sz n n cs e 0 0 (heap_alloc_new w _) (Nat.le_refl _) hnm hsize (.inl (Nat.le_refl _)) _ cs.toList e2 (by omega) (fun j v hj => by simpa using hj)⟩
    case app sz bytes base y' =>
      obtain ⟨d, hod, hrd, hlt⟩ := some_of hd hx
      obtain ⟨x, y, t, u, e, i, z, td, ho, hpos, hb, hy, ht, hu, htd, hi, his, hib, hz, hzs⟩ := inv_app hc
      simp only [dfn] at hn
      obtain ⟨k1, k2, k3⟩ := hn
      obtain ⟨sz', xs, n, hraw⟩ : ∃ sz' xs n, s.raw base = .row sz' xs n := by
        revert k3; cases s.raw base <;> simp [dApp]
      rw [hraw] at k3
      have hgy : (s.rd y').good := by revert k3; cases s.rd y' <;> simp [dApp, AV.good]
      have hyr := h.rd hy k2 hgy
      -- the base
      have hbase : ∃ Ob β' tb, RepTop w F Ob β' tb (.row sz' xs n) (a.eval x) ∧ (∀ b o, Ob b o → ¬ F b o) ∧ (∀ b o, Ob b o → b < w.heap.size) ∧ (∀ b o, Ob b o → w0.heap.size ≤ b ∨ S0 b o) ∧
          ∃ O', RR nt w0 S0 F0 F O' β (s.give base) a w ∧ ∀ t b o, Ob b o → ¬ O' t b o := by
        cases base with
        | t m =>
          have hraw' : s.env m = .row sz' xs n := hraw
          have hgd' : s.D m → (s.env m).share.good := fun _ => by rw [hraw']; trivial
          refine ⟨O m, β, m, ?_, h.sep m, h.inO m, h.own m, _, h.give m, fun t b o hob hto => ?_⟩
          · rw [chkV_t hb, ← hraw']; exact h.rep m k1
          · unfold off1 at hto; split at hto
            · exact hto.elim
            · exact h.dis m t b o (by rename_i hne; exact fun e => hne e.symm) hob hto
        | c av =>
          have hraw' : av = .row sz' xs n := hraw
          subst hraw'
          cases x with
          | const cv =>
            simp only [chkV] at hb
            obtain ⟨rfl, rfl, rfl⟩ := cAV_row hb
            exact ⟨NoFp, β, 0, by simp [RepTop, Act.eval], fun _ _ hn => hn.elim, fun _ _ hn => hn.elim, fun _ _ hn => hn.elim, O, h, fun _ _ _ hn => hn.elim⟩
          | _ => simp [chkV] at hb
      obtain ⟨Ob, β', tb, hb1, hb2, hb3, hb4, O', hR', hb5⟩ := hbase
      have hgdT : gd s r.g = True := eq_true hg
      have hsrc : ∃ m ys news, aApp sz (.row sz' xs n) (s.rd y') = .row sz (xs ++ ys) (n + m) ∧ sz' = sz ∧ Src P w i.size m (a.eval y) news ∧ RepL w F true ys news ∧ (n + m) * i.bytes ≤ 140737488355328 ∧ n + m ≤ 4611686018427387904 := by
        cases hy' : s.rd y' <;> rw [hy'] at k3 hyr <;> simp only [dApp] at k3
        case sl ys m =>
          obtain ⟨q1, q2, q3, q4, q5⟩ := k3
          obtain ⟨news, p1, p2⟩ := src_sl (P := P) (sz := i.size) hyr (by rw [his]; exact q3)
          exact ⟨m, ys, news, rfl, q1, p1, p2, by rw [hib]; omega, q5⟩
        case str l =>
          obtain ⟨q1, q2, q3, q4, q5⟩ := k3
          simp only [Rep] at hyr
          refine ⟨l.length, bytesAV l, _, rfl, q1, ?_, repL_bytes l, by rw [hib, q3]; omega, by omega⟩
          rw [hyr, his, q2]; exact src_str l
      obtain ⟨m, ys, news, p1, p2, p3, p4, p5, p6⟩ := hsrc
      subst p2
      subst his
      obtain ⟨v, w', F', Od, e1, e2⟩ := hR'.append (P := P) hlt t u o.type e i z td ht hu htd hi hz hzs hpos Ob β' tb xs n (a.eval x) hb1 hb2 (fun t b o => hb5 t b o) hb3 hb4 (a.eval y) m ys news p3 p4 p5 p6
      refine wp_value (v := v) (w' := w') (by simp [execOp, ho, resolve, invoke, builtin, e1]) (hK' ?_)
      rw [step_eq T r s (by rw [hr]), hr, hrd, hod]
      simp only [pre, val, stepD, hraw, p1, R1.yields, AV.nr]
      rw [hgdT]
      exact ⟨_, _, _, e2⟩
    case make sz bytes zs l' c' =>
      obtain ⟨d, hod, hrd, hlt⟩ := some_of hd hx
      obtain ⟨t, l, c, e, i, z, ho, hpos, hl, hc', hzl, ht, hi, his, hib, hz, hzs⟩ := inv_make hc
      simp only [dfn] at hn
      obtain ⟨k1, k2, k3⟩ := hn
      have hsh : ∃ kl nl kc nc, s.rd l' = .int kl nl ∧ s.rd c' = .int kc nc := by
        revert k3; cases s.rd l' <;> cases s.rd c' <;> simp [dMake]
      obtain ⟨kl, nl, kc, nc, el, ec⟩ := hsh
      rw [el, ec] at k3
      simp only [dMake] at k3
      have hrl := h.rd hl k1 (by rw [el]; trivial)
      have hrc := h.rd hc' k2 (by rw [ec]; trivial)
      rw [el] at hrl
      rw [ec] at hrc
      simp only [Rep] at hrl hrc
      have hm := run_make (P := P) w t e i z ht hi hz kl kc nl nc k3.1 k3.2.1 (by rw [hib]; omega) (by omega)
      refine wp_value (v := .slice (some ⟨w.heap.size, 0, none⟩) nl.toNat nc.toNat) (w' := w.alloc (.cells (madeCells z.cells (nc.toNat * i.size)) e)) (by simp only [execOp, ho, hrl, hrc, Sem.run_bind, hm, Result.andThen_ok]; rfl) (hK' ?_)
      rw [step_eq T r s (by rw [hr]), hr, hrd, hod]
      simp only [pre, val, stepD, el, aMake, R1.yields, AV.nr]
      rw [eq_true hg]
      have hzlen := cAVs_len hzs
      simp only [Array.length_toList] at hzlen
      have hrl' : (repeatAV zs nl.toNat).length = nl.toNat * sz := by rw [repeat_length, hzl]
      have hle : nl.toNat * sz ≤ nc.toNat * i.size := by rw [his]; exact Nat.mul_le_mul_right _ (by omega)
      have hmsz : (madeCells z.cells (nc.toNat * i.size)).size = nc.toNat * i.size := size_madeCells _ _
      refine ⟨_, _, _, h.freshRow hlt (chg_alloc NoFp w _) (by simp) sz nl.toNat nc.toNat _ e 0 0 (heap_alloc_new w _) (by omega) (by unfold maxLen; omega) (by rw [hmsz, his]) (.inl (Nat.le_refl _)) _ ((madeCells z.cells (nc.toNat * i.size)).toList.take (nl.toNat * sz)) ?_ hrl' (fun j v hj => ?_)⟩
      · refine repL_of_get _ _ (by rw [List.length_take, Array.length_toList, hmsz, hrl']; omega) fun j hj => ?_
        have hzpos : 0 < zs.length := by omega
        have hmod : j % zs.length < zs.length := Nat.mod_lt _ hzpos
        rw [repeat_get zs hzpos]
        obtain ⟨v, q1, q2, q3⟩ := repL_get (w := w) (F := F) zs z.cells.toList (j % zs.length) hmod (cAVs_rep hzs)
        refine ⟨v, ?_, q2, q3⟩
        rw [hrl'] at hj
        rw [List.getElem?_take, if_pos hj, Array.getElem?_toList]
        simp only [madeCells, Array.getElem?_map, Array.getElem?_range, if_pos (show j < nc.toNat * i.size by omega), Option.map_some]
        rw [← hzlen]
        have q1' : z.cells[j % zs.length]? = some v := by simpa using q1
        simp [getElem!_def, q1']
      · rw [List.getElem?_take] at hj
        split at hj
        · simpa using hj
        · cases hj
    case s2bM x' =>
      obtain ⟨d, hod, hrd, hlt⟩ := some_of hd hx
      obtain ⟨src, dst, x, ho, h1, h2, h3, hv⟩ := inv_s2bM hc
      simp only [dfn] at hn
      obtain ⟨l, hl⟩ : ∃ l, s.rd x' = .str l := by have := hn.2; revert this; cases s.rd x' <;> simp [dS2b]
      have hr' := h.rd hv hn.1 (by rw [hl]; trivial)
      have hb := hn.2
      rw [hl] at hr' hb
      simp only [Rep] at hr'
      simp only [dS2b] at hb
      obtain ⟨e, he, he8⟩ := u8sIs_iff h2
      have hcap := grownCap_ge w l.length 0 e
      have hcm := grownCap_le_maxLen w l.length 0 e (by unfold maxLen; omega)
      refine wp_value (v := .slice (some ⟨w.heap.size, 0, none⟩) l.length (grownCap w l.length 0 e)) (by
        simp only [execOp, ho, hr', convert, Sem.run_bind, run_underlying (strIs_iff h1), run_underlying he, run_underlying he8, Result.andThen_ok, run_s2bytes]
        rfl) (hK' ?_)
      rw [step_eq T r s (by rw [hr]), hr, hrd, hod]
      simp only [pre, val, stepD, hl, aS2b, AV.thaw, R1.yields, AV.nr]
      have hcs := s2bCells_size l _ hcap
      have hgdT : gd s r.g = True := eq_true hg
      rw [hgdT]
      refine ⟨_, _, _, h.freshM hlt (freeze_chg _ _ (Nat.le_refl _) _ ((chg_drew NoFp w).trans (chg_alloc NoFp w.drew _) (fun _ _ _ hn => hn))) ?_ 1 l.length _ (s2bCells l (grownCap w l.length 0 e)) e (grownCap w l.length 0 e) (grownCap w l.length 0 e + 1) ?_ hcap hcm (by rw [hcs, Nat.mul_one]) ?_ (bytesAV l) (l.map fun b => Value.int .u8 b.toNat) (repL_bytes l) (by simp [bytesAV]) ?_⟩
      · simp only [World.freeze]; rw [if_neg (by decide)]; simp
      · have := heap_alloc_new w.drew (.cells (s2bCells l (grownCap w l.length 0 e)) e)
        simp only [World.size_drew] at this
        simp only [World.freeze]
        rw [if_neg (by decide)]
        simp only [Array.getElem?_modify, if_true, this, Option.map_some, hcs]
        simp
      · right; omega
      · intro j v hj
        have hjl := (List.getElem?_eq_some_iff.1 hj).1
        unfold s2bCells
        rw [Array.getElem?_append_left (by simpa using hjl)]
        simpa using hj
    case makeM sz bytes zs l' c' =>
      obtain ⟨d, hod, hrd, hlt⟩ := some_of hd hx
      obtain ⟨t, l, c, e, i, z, ho, hpos, hl, hc', hzl, ht, hi, his, hib, hz, hzs⟩ := inv_makeM hc
      simp only [dfn] at hn
      obtain ⟨k1, k2, k3⟩ := hn
      have hsh : ∃ kl nl kc nc, s.rd l' = .int kl nl ∧ s.rd c' = .int kc nc := by
        revert k3; cases s.rd l' <;> cases s.rd c' <;> simp [dMake]
      obtain ⟨kl, nl, kc, nc, el, ec⟩ := hsh
      rw [el, ec] at k3
      simp only [dMake] at k3
      have hrl := h.rd hl k1 (by rw [el]; trivial)
      have hrc := h.rd hc' k2 (by rw [ec]; trivial)
      rw [el] at hrl
      rw [ec] at hrc
      simp only [Rep] at hrl hrc
      have hm := run_make (P := P) w t e i z ht hi hz kl kc nl nc k3.1 k3.2.1 (by rw [hib]; omega) (by omega)
      refine wp_value (v := .slice (some ⟨w.heap.size, 0, none⟩) nl.toNat nc.toNat) (w' := w.alloc (.cells (madeCells z.cells (nc.toNat * i.size)) e)) (by simp only [execOp, ho, hrl, hrc, Sem.run_bind, hm, Result.andThen_ok]; rfl) (hK' ?_)
      rw [step_eq T r s (by rw [hr]), hr, hrd, hod]
      simp only [pre, val, stepD, el, aMake, AV.thaw, R1.yields, AV.nr]
      rw [eq_true hg]
      have hzlen := cAVs_len hzs
      simp only [Array.length_toList] at hzlen
      have hrl' : (repeatAV zs nl.toNat).length = nl.toNat * sz := by rw [repeat_length, hzl]
      have hle : nl.toNat * sz ≤ nc.toNat * i.size := by rw [his]; exact Nat.mul_le_mul_right _ (by omega)
      have hmsz : (madeCells z.cells (nc.toNat * i.size)).size = nc.toNat * i.size := size_madeCells _ _
      refine ⟨_, _, _, h.freshM hlt (chg_alloc NoFp w _) (by simp) sz nl.toNat nc.toNat _ e 0 0 (heap_alloc_new w _) (by omega) (by unfold maxLen; omega) (by rw [hmsz, his]) (.inl (Nat.le_refl _)) _ ((madeCells z.cells (nc.toNat * i.size)).toList.take (nl.toNat * sz)) ?_ hrl' (fun j v hj => ?_)⟩
      · refine repL_of_get _ _ (by rw [List.length_take, Array.length_toList, hmsz, hrl']; omega) fun j hj => ?_
        have hzpos : 0 < zs.length := by omega
        have hmod : j % zs.length < zs.length := Nat.mod_lt _ hzpos
        rw [repeat_get zs hzpos]
        obtain ⟨v, q1, q2, q3⟩ := repL_get (w := w) (F := F) zs z.cells.toList (j % zs.length) hmod (cAVs_rep hzs)
        refine ⟨v, ?_, q2, q3⟩
        rw [hrl'] at hj
        rw [List.getElem?_take, if_pos hj, Array.getElem?_toList]
        simp only [madeCells, Array.getElem?_map, Array.getElem?_range, if_pos (show j < nc.toNat * i.size by omega), Option.map_some]
        rw [← hzlen]
        have q1' : z.cells[j % zs.length]? = some v := by simpa using q1
        simp [getElem!_def, q1']
      · rw [List.getElem?_take] at hj
        split at hj
        · simpa using hj
        · cases hj
    case al t =>
      simp only [Bool.and_eq_true, bne_iff_ne, ne_eq] at hx
      obtain ⟨d, hod, hrd, hlt⟩ := some_of hd hx.1
      obtain ⟨x, ho, hv⟩ := inv_al hc
      refine wp_value (v := a.eval x) (w' := w) (by rcases ho with ho | ho <;> simp [execOp, ho]) (hK' ?_)
      rw [step_eq T r s (by rw [hr]), hr, hrd, hod]
      simp only [pre, val, stepD, R1.yields]
      exact ⟨_, _, _, h.put0 hlt _ _ _ (fun _ => by simp only [RepTop]) (fun _ b' hb' => by
        simp only [AV.isTo, beq_iff_eq] at hb'
        subst hb'
        exact ⟨fun e => hx.2 (by rw [hrd, e]), fun off' e => (by cases e), fun _ => (by rw [chkV_t hv]; rfl), fun _ _ e => by cases e⟩) (fun hn => (hn hg).elim)⟩
    case s2aR x' b sz n =>
      simp only [Bool.and_eq_true, bne_iff_ne, ne_eq] at hx
      obtain ⟨d, hod, hrd, hlt⟩ := some_of hd hx.1
      obtain ⟨tt, x, ho, h1, hv⟩ := inv_s2aR hc
      simp only [dfn] at hn
      obtain ⟨k1, kr, kb, kv, k3, k4⟩ := hn
      obtain ⟨⟨ao, c, q1, q2, q3, q4⟩, _, _⟩ := h.view k1 kr kb kv
      have hne : (s.env b).vLen (s.env x') ≠ 0 := by omega
      obtain rfl := q4.resolve_left hne
      have hv' : a.eval x = .slice (some ⟨β b, (s.env x').vOff, none⟩) ((s.env b).vLen (s.env x')) c := by rw [chkV_t hv]; exact q1
      unfold arrIs at h1
      split at h1
      · rename_i m e he
        simp only [Bool.and_eq_true, beq_iff_eq] at h1
        obtain ⟨rfl, hsz⟩ := h1
        have hrun : (execOp a.eval o).run P w = .ok (.value (.pointer (some ⟨β b, (s.env x').vOff, none⟩))) w := by
          simp [execOp, ho, hv', Instr.arrayAt, run_underlying he]
          omega
        refine wp_value hrun (hK' ?_)
        rw [step_eq T r s (by rw [hr]), hr, hrd, hod]
        simp only [pre, val, stepD, R1.yields]
        exact ⟨_, _, _, h.put0 hlt _ _ _ (fun _ => by simp only [RepTop]) (fun _ b' hb' => by
          simp only [AV.isTo, beq_iff_eq] at hb'
          subst hb'
          exact ⟨fun e => hx.2 (by rw [hrd, e]), fun off' e => (by cases e; rfl), fun e => (by cases e), fun _ _ e => by cases e⟩) (fun hn => (hn hg).elim)⟩
      · cases h1
    case idxM x' b sz i' =>
      simp only [Bool.and_eq_true, bne_iff_ne, ne_eq] at hx
      obtain ⟨d, hod, hrd, hlt⟩ := some_of hd hx.1
      obtain ⟨tt, x, i, ho, h1, hv, hi⟩ := inv_idxM hc
      simp only [dfn] at hn
      obtain ⟨k1, kr, kb, kv, k3, k4, k5, k6⟩ := hn
      obtain ⟨⟨ao, c, q1, q2, q3, q4⟩, _, _⟩ := h.view k1 kr kb kv
      have hne : (s.env b).vLen (s.env x') ≠ 0 := by omega
      obtain rfl := q4.resolve_left hne
      have hv' : a.eval x = .slice (some ⟨β b, (s.env x').vOff, none⟩) ((s.env b).vLen (s.env x')) c := by rw [chkV_t hv]; exact q1
      obtain ⟨k, hiv⟩ := int_run (h.rd hi k3 (isI_good k4)) k4
      obtain ⟨e, j, he, hj, hjs⟩ := slIs_iff h1
      refine wp_value (v := .pointer (some ⟨β b, (s.env x').vOff + (s.rd i').toI.toNat * sz, none⟩)) (w' := w) (by simp [execOp, ho, hv', hiv, Instr.indexAt, asIntOf, run_underlying he, Instr.sureAddr, k5, k6, sizeOf, typeInfo, hj, hjs, Addr.add_lit]) (hK' ?_)
      rw [step_eq T r s (by rw [hr]), hr, hrd, hod]
      simp only [pre, val, stepD, R1.yields]
      exact ⟨_, _, _, h.put0 hlt _ _ _ (fun _ => by simp only [RepTop]) (fun _ b' hb' => by
        simp only [AV.isTo, beq_iff_eq] at hb'
        subst hb'
        exact ⟨fun e => hx.2 (by rw [hrd, e]), fun off' e => (by cases e; rfl), fun e => (by cases e), fun _ _ e => by cases e⟩) (fun hn => (hn hg).elim)⟩
    case winB t sz n lo' hi' =>
      simp only [Bool.and_eq_true, bne_iff_ne, ne_eq] at hx
      obtain ⟨d, hod, hrd, hlt⟩ := some_of hd hx.1
      obtain ⟨tt, x, lo, hi, ho, h1, hn1, hv, hl, hh⟩ := inv_winB hc
      simp only [dfn] at hn
      obtain ⟨k1, k2, k3, k4, k5, k6, k7⟩ := hn
      obtain ⟨xs, hb⟩ : ∃ xs, s.env t = .box xs := by revert k2; cases s.env t <;> simp [AV.isBox]
      have hp := h.rep t k1
      rw [hb] at hp
      simp only [RepTop] at hp
      have hv' : a.eval x = .pointer (some ⟨β t, 0, none⟩) := by rw [chkV_t hv]; exact hp.1
      have hbd := run_bounds (P := P) (w := w) false n n (lo.map a.eval) (hi.map a.eval) _ _ (lo_run h hl k3) (hi_run h n hh k4) k5 k6 k7 (Nat.le_refl _)
      unfold arrIs at h1
      split at h1
      · rename_i m e he
        simp only [Bool.and_eq_true, beq_iff_eq] at h1
        obtain ⟨rfl, hsz⟩ := h1
        obtain ⟨j, hj, hjs⟩ := szIs_iff hsz
        have hrun : (execOp a.eval o).run P w = .ok (.value (.slice (some (if m = (lowOf s lo').toNat then ⟨β t, 0, none⟩ else (⟨β t, 0, none⟩ : Addr).add ((lowOf s lo').toNat * sz))) ((highOf s m hi').toNat - (lowOf s lo').toNat) (m - (lowOf s lo').toNat))) w := by
          simp only [execOp, ho, Instr.sliceAt, run_underlying he, Sem.run_bind, Result.andThen_ok, hv', Instr.sureAddr, Sem.run_pure, Option.map_none, hbd, sizeOf, typeInfo, run_program, hj, hjs]
        refine wp_value hrun (hK' ?_)
        rw [step_eq T r s (by rw [hr]), hr, hrd, hod]
        simp only [pre, val, stepD, R1.yields]
        refine ⟨_, _, _, h.put0 hlt _ _ _ (fun _ => by simp only [RepTop]) (fun _ b' hb' => ?_) (fun hn => (hn hg).elim)⟩
        simp only [AV.isTo, beq_iff_eq] at hb'
        subst hb'
        refine ⟨fun e => hx.2 (by rw [hrd, e]), fun off' e => (by cases e), fun e => (by cases e), fun off n e => ?_⟩
        simp only [AV.win.injEq, true_and] at e
        obtain ⟨rfl, rfl⟩ := e
        refine ⟨_, _, rfl, by omega, by unfold maxLen; omega, ?_⟩
        by_cases hm : m = (lowOf s lo').toNat
        · left; omega
        · right; rw [if_neg hm, Addr.add_lit, Nat.zero_add]
      · cases h1
    case winR x' b sz n lo' hi' =>
      simp only [Bool.and_eq_true, bne_iff_ne, ne_eq] at hx
      obtain ⟨d, hod, hrd, hlt⟩ := some_of hd hx.1
      obtain ⟨tt, x, lo, hi, ho, h1, hn1, hv, hl, hh⟩ := inv_winR hc
      simp only [dfn] at hn
      obtain ⟨k1, k2, kr, k3, k4, k5, k6, k7⟩ := hn
      obtain ⟨off0, hb⟩ : ∃ off0, s.env x' = .ref b off0 := by revert k2; cases s.env x' <;> simp [AV.refTo]
      have hp := (h.refs x' b k1 kr).1 off0 hb
      have hv' : a.eval x = .pointer (some ⟨β b, off0, none⟩) := by rw [chkV_t hv]; exact hp
      have hbd := run_bounds (P := P) (w := w) false n n (lo.map a.eval) (hi.map a.eval) _ _ (lo_run h hl k3) (hi_run h n hh k4) k5 k6 k7 (Nat.le_refl _)
      unfold arrIs at h1
      split at h1
      · rename_i m e he
        simp only [Bool.and_eq_true, beq_iff_eq] at h1
        obtain ⟨rfl, hsz⟩ := h1
        obtain ⟨j, hj, hjs⟩ := szIs_iff hsz
        have hrun : (execOp a.eval o).run P w = .ok (.value (.slice (some (if m = (lowOf s lo').toNat then ⟨β b, off0, none⟩ else (⟨β b, off0, none⟩ : Addr).add ((lowOf s lo').toNat * sz))) ((highOf s m hi').toNat - (lowOf s lo').toNat) (m - (lowOf s lo').toNat))) w := by
          simp only [execOp, ho, Instr.sliceAt, run_underlying he, Sem.run_bind, Result.andThen_ok, hv', Instr.sureAddr, Sem.run_pure, Option.map_none, hbd, sizeOf, typeInfo, run_program, hj, hjs]
        refine wp_value hrun (hK' ?_)
        rw [step_eq T r s (by rw [hr]), hr, hrd, hod]
        simp only [pre, val, stepD, hb, AV.refOff, R1.yields]
        refine ⟨_, _, _, h.put0 hlt _ _ _ (fun _ => by simp only [RepTop]) (fun _ b' hb' => ?_) (fun hn => (hn hg).elim)⟩
        simp only [AV.isTo, beq_iff_eq] at hb'
        subst hb'
        refine ⟨fun e => hx.2 (by rw [hrd, e]), fun off' e => (by cases e), fun e => (by cases e), fun off n e => ?_⟩
        simp only [AV.win.injEq, true_and] at e
        obtain ⟨rfl, rfl⟩ := e
        refine ⟨_, _, rfl, by omega, by unfold maxLen; omega, ?_⟩
        by_cases hm : m = (lowOf s lo').toNat
        · left; omega
        · right; rw [if_neg hm, Addr.add_lit]
      · cases h1
    case mvW x' b =>
      simp only [Bool.and_eq_true, bne_iff_ne, ne_eq] at hx
      obtain ⟨d, hod, hrd, hlt⟩ := some_of hd hx.1
      obtain ⟨x, ho, hv⟩ := inv_mvW hc
      simp only [dfn] at hn
      refine wp_value (v := a.eval x) (w' := w) (by rcases ho with ho | ho <;> simp [execOp, ho]) (hK' ?_)
      rw [step_eq T r s (by rw [hr]), hr, hrd, hod]
      simp only [pre, val, stepD, R1.yields]
      have hto := refOk_to s x' b hn.2
      rw [viewTo_self hto]
      have hrf := h.refs x' b hn.1 hn.2
      refine ⟨_, _, _, h.put0 hlt _ _ _ (fun _ => ?_) (fun _ b' hb' => ?_) (fun hn => (hn hg).elim)⟩
      · revert hto; cases s.env x' <;> simp [AV.isTo, RepTop]
      · have hbb : b' = b := by
          revert hto hb'; cases s.env x' <;> simp [AV.isTo] <;> intro h1 h2 <;> rw [← h1, ← h2]
        subst hbb
        rw [chkV_t hv]
        exact ⟨fun e => hx.2 (by rw [hrd, e]), hrf⟩
    case wnV x' b sz =>
      simp only [Bool.and_eq_true, bne_iff_ne, ne_eq] at hx
      obtain ⟨d, hod, hrd, hlt⟩ := some_of hd hx.1
      obtain ⟨x, ho, hv⟩ := inv_wnV hc
      simp only [dfn] at hn
      refine wp_value (v := a.eval x) (w' := w) (by rcases ho with ho | ho <;> simp [execOp, ho]) (hK' ?_)
      rw [step_eq T r s (by rw [hr]), hr, hrd, hod]
      simp only [pre, val, stepD, R1.yields]
      have hvw := (h.view hn.1 hn.2.1 hn.2.2.1 hn.2.2.2).1
      refine ⟨_, _, _, h.put0 hlt _ _ _ (fun _ => by simp only [RepTop]) (fun _ b' hb' => ?_) (fun hn => (hn hg).elim)⟩
      simp only [AV.isTo, beq_iff_eq] at hb'
      subst hb'
      rw [chkV_t hv]
      refine ⟨fun e => hx.2 (by rw [hrd, e]), fun off' e => (by cases e), fun e => (by cases e), fun off n e => ?_⟩
      simp only [AV.win.injEq, true_and] at e
      obtain ⟨rfl, rfl⟩ := e
      exact hvw
    case mkC f b =>
      obtain ⟨d, hod, hrd, hlt⟩ := some_of hd hx
      obtain ⟨x, ho, hv⟩ := inv_mkC hc
      simp only [dfn] at hn
      obtain ⟨xs, hb⟩ : ∃ xs, s.env b = .box xs := by have := hn.2; revert this; cases s.env b <;> simp [AV.isBox]
      have hp := h.rep b hn.1
      rw [hb] at hp
      simp only [RepTop] at hp
      have hv' : a.eval x = .pointer (some ⟨β b, 0, none⟩) := by rw [chkV_t hv]; exact hp.1
      refine wp_value (v := .func (.func f) #[] #[.pointer (some ⟨β b, 0, none⟩)]) (w' := w) (by simp [execOp, ho, Instr.makeFunc, hv']) (hK' ?_)
      rw [step_eq T r s (by rw [hr]), hr, hrd, hod]
      simp only [pre, val, stepD, R1.yields, hb, AV.inner, AV.nr]
      refine ⟨_, _, _, (h.drop b).put hlt _ _ _ (O b) (β b) (fun _ => ?_) (fun _ b hb => by simp [AV.isTo] at hb) (fun hn => (hn hg).elim) (h.sep b) (fun u k o _ ho' hu => ?_) (h.inO b) (h.own b)⟩
      · simp only [RepTop, upd, if_true]
        exact ⟨trivial, hp.2⟩
      · unfold off1 at hu; split at hu
        · exact hu.elim
        · exact h.dis b u k o (by rename_i hne; exact fun e => hne e.symm) ho' hu
    case callC x b as fs =>
      exact callC_ok hT h hr (by rw [hr]; exact hc) hd hg (by rw [hr]; exact hn) hK
    case winX x' b sz lo' hi' =>
      simp only [Bool.and_eq_true, bne_iff_ne, ne_eq] at hx
      obtain ⟨d, hod, hrd, hlt⟩ := some_of hd hx.1
      obtain ⟨tt, x, lo, hi, ho, h1, hv, hl, hh⟩ := inv_winX hc
      simp only [dfn] at hn
      obtain ⟨k1, kr, kb, kv, k3, k4, k5, k6, k7⟩ := hn
      obtain ⟨⟨ao, c, q1, q2, q3, q4⟩, _, _⟩ := h.view k1 kr kb kv
      have hv' : a.eval x = .slice ao ((s.env b).vLen (s.env x')) c := by rw [chkV_t hv]; exact q1
      obtain ⟨e, j, he, hj, hjs⟩ := slIs_iff h1
      have hbd := run_bounds (P := P) (w := w) true ((s.env b).vLen (s.env x')) c (lo.map a.eval) (hi.map a.eval) _ _ (lo_run h hl k3) (hi_run h _ hh k4) k5 k6 k7 q2
      have hrun : (execOp a.eval o).run P w = .ok (.value (.slice (if c = (lowOf s lo').toNat then ao else ao.map (·.add ((lowOf s lo').toNat * sz))) ((highOf s ((s.env b).vLen (s.env x')) hi').toNat - (lowOf s lo').toNat) (c - (lowOf s lo').toNat))) w := by
        simp only [execOp, ho, Instr.sliceAt, Instr.slice, run_underlying he, Sem.run_bind, Result.andThen_ok, hv', Sem.run_pure, Option.map_none, hbd, sizeOf, typeInfo, run_program, hj, hjs]
      refine wp_value hrun (hK' ?_)
      rw [step_eq T r s (by rw [hr]), hr, hrd, hod]
      simp only [pre, val, stepD, R1.yields]
      refine ⟨_, _, _, h.put0 hlt _ _ _ (fun _ => by simp only [RepTop]) (fun _ b' hb' => ?_) (fun hn => (hn hg).elim)⟩
      simp only [AV.isTo, beq_iff_eq] at hb'
      subst hb'
      refine ⟨fun e => hx.2 (by rw [hrd, e]), fun off' e => (by cases e), fun e => (by cases e), fun off n e => ?_⟩
      simp only [AV.win.injEq, true_and] at e
      obtain ⟨rfl, rfl⟩ := e
      refine ⟨_, _, rfl, by omega, by omega, ?_⟩
      by_cases hm : c = (lowOf s lo').toNat
      · left; omega
      · rw [if_neg hm]
        rcases q4 with q4 | rfl
        · left; omega
        · right; simp [Addr.add_lit]
    case cpy x' b sz y' =>
      simp only [Bool.and_eq_true, bne_iff_ne, ne_eq, decide_eq_true_eq] at hx
      obtain ⟨x, y, t, u, ho, h1, hv, hy⟩ := inv_cpy hc
      simp only [dfn] at hn
      obtain ⟨k1, kr, kb, kv, k3, k4⟩ := hn
      obtain ⟨q0, ho2, hlen⟩ := h.view k1 kr kb kv
      have hgy : (s.rd y').good := by revert k4; cases s.rd y' <;> simp [AV.isSrc, AV.good]
      have hyr := h.rd hy k3 hgy
      have hsrc : (Builtin.lenOf (a.eval y)).run P w = .ok (s.rd y').srcN w ∧ ∃ news, (Builtin.firstCells sz (min ((s.env b).vLen (s.env x')) (s.rd y').srcN) (a.eval y)).run P w = .ok news.toArray w ∧ RepL w F true ((s.rd y').srcC.take (min ((s.env b).vLen (s.env x')) (s.rd y').srcN * sz)) news ∧ news.length = min ((s.env b).vLen (s.env x')) (s.rd y').srcN * sz := by
        revert k4 hyr
        cases s.rd y' <;> simp only [AV.isSrc, false_implies, AV.srcN, AV.srcC]
        case sl xs m => exact fun hl hyr => first_sl hyr hl (Nat.min_le_right _ _)
        case str l =>
          rintro rfl hyr
          simp only [Rep] at hyr
          rw [hyr]
          simp only [Nat.mul_one]
          exact first_str l (Nat.min_le_right _ _)
      exact copy_ok h kb ho2 ho h1 (by rw [chkV_t hv]; exact q0) hlen hsrc (by rw [step_eq T r s (by rw [hr]), hr]; rfl) hd hx.1 hg hK'
    case cpyV x' b sz y' b2 =>
      simp only [Bool.and_eq_true, bne_iff_ne, ne_eq, decide_eq_true_eq] at hx
      obtain ⟨x, y, t, u, ho, h1, hv, hy⟩ := inv_cpyV hc
      simp only [dfn] at hn
      obtain ⟨k1, kr, kb, kv, j1, jr, jb, jv⟩ := hn
      obtain ⟨q0, ho2, hlen⟩ := h.view k1 kr kb kv
      obtain ⟨f1, news, f2, f3, f4⟩ := h.viewFirst (P := P) (k := min ((s.env b).vLen (s.env x')) ((s.env b2).vLen (s.env y'))) j1 jr jb jv (Nat.min_le_right _ _)
      have hye : a.eval y = tm a y' := by rw [chkV_t hy]; rfl
      exact copy_ok h kb ho2 ho h1 (by rw [chkV_t hv]; exact q0) hlen (by rw [hye]; exact ⟨f1, news, f2, f3, f4⟩) (by rw [step_eq T r s (by rw [hr]), hr]; rfl) hd hx.1 hg hK'
    case frz t =>
      obtain ⟨d, hod, hrd, hlt⟩ := some_of hd hx
      obtain ⟨x, ho, hv⟩ := inv_frz hc
      simp only [dfn] at hn
      obtain ⟨k1, sz, k2⟩ := hn
      obtain ⟨xs, n, hb⟩ : ∃ xs n, s.env t = .mrow sz xs n := by revert k2; cases s.env t <;> simp [AV.isM]
      refine wp_value (v := a.eval x) (w' := w) (by rcases ho with ho | ho <;> simp [execOp, ho]) (hK' ?_)
      rw [step_eq T r s (by rw [hr]), hr, hrd, hod]
      simp only [pre, val, stepD, hb, AV.frozen, R1.yields, AV.nr]
      rw [eq_true hg]
      obtain ⟨F', O', hR⟩ := h.freeze k1 hb hlt
      exact ⟨F', O', _, by rw [chkV_t hv]; exact hR⟩
    case stealM t =>
      obtain ⟨d, hod, hrd, hlt⟩ := some_of hd hx
      obtain ⟨x, ho, hv⟩ := inv_stealM hc
      simp only [dfn] at hn
      refine wp_value (v := a.eval x) (w' := w) (by rcases ho with ho | ho <;> simp [execOp, ho]) (hK' ?_)
      rw [step_eq T r s (by rw [hr]), hr, hrd, hod]
      have hnr : (s.env t).nr = s.env t := by
        have hh := hn.2
        revert hh; cases s.env t <;> simp [AV.isBig, AV.nr]
      simp only [pre, val, stepD, R1.yields, hnr]
      refine ⟨_, _, _, (h.drop t).put hlt _ _ _ (O t) (β t) (fun _ => ?_) (fun _ b hb => by
        exfalso
        have hh := hn.2
        revert hh hb; cases s.env t <;> simp [AV.isBig, AV.isTo]) (fun hn => (hn hg).elim) (h.sep t) (fun u b o _ ho' hu => ?_) (h.inO t) (h.own t)⟩
      · rw [chkV_t hv]
        have hr := h.rep t hn.1
        have hh := hn.2
        revert hr hh
        show RepTop w F (O t) β t (s.env t) (tm a t) → _ → RepTop w F (O t) (upd β d (β t)) d (s.env t) (tm a t)
        cases s.env t <;> simp only [AV.isBig, false_implies, implies_true, true_implies, RepTop, upd, if_true] <;> exact fun hh => hh
      · unfold off1 at hu; split at hu
        · exact hu.elim
        · exact h.dis t u b o (by rename_i hne; exact fun e => hne e.symm) ho' hu
    case rng x' =>
      obtain ⟨d, hod, hrd, hlt⟩ := some_of hd hx
      obtain ⟨t, x, ho, h1, hv⟩ := inv_rng hc
      simp only [dfn] at hn
      obtain ⟨l, hl⟩ : ∃ l, s.rd x' = .str l := by have := hn.2; revert this; cases s.rd x' <;> simp [AV.isStr]
      have hr' := h.rd hv hn.1 (by rw [hl]; trivial)
      rw [hl] at hr'
      simp only [Rep] at hr'
      refine wp_value (v := .pointer (some ⟨w.heap.size, 0, none⟩)) (w' := w.alloc (.stringIter ⟨l.toArray⟩ 0)) (by simp only [execOp, ho, hr', Sem.run_bind, run_range_string w t _ (strIs_iff h1), Result.andThen_ok]; rfl) (hK' ?_)
      rw [step_eq T r s (by rw [hr]), hr, hrd, hod]
      simp only [pre, val, stepD, hl, aRng, R1.yields, AV.nr]
      rw [eq_true hg]
      exact ⟨_, _, _, h.newIter hlt l⟩
    case nxt t =>
      simp only [Bool.and_eq_true, bne_iff_ne, ne_eq, decide_eq_true_eq] at hx
      obtain ⟨d, hod, hrd, hlt⟩ := some_of hd hx.1.1
      obtain ⟨x, ho, hv⟩ := inv_nxt hc
      simp only [dfn] at hn
      obtain ⟨l, pos, hl⟩ : ∃ l pos, s.env t = .iter l pos := by have := hn.2; revert this; cases s.env t <;> simp [AV.isIter]
      have hp := h.rep t hn.1
      rw [hl] at hp
      simp only [RepTop] at hp
      have hv' : a.eval x = .pointer (some ⟨β t, 0, none⟩) := by rw [chkV_t hv]; exact hp.1
      have hdt : d ≠ t := fun e => hx.1.2 (by rw [hrd, e])
      by_cases hlp : pos < l.length
      · have hst := h.stepIter hn.1 hl (pos + (dec l pos).2)
        have hrun : (Instr.next (.pointer (some ⟨β t, 0, none⟩)) true o.type).run P w = .ok (.tuple #[.bool true, .int .i64 pos, .int .i32 (dec l pos).1]) { w with heap := w.heap.setIfInBounds (β t) (.stringIter ⟨l.toArray⟩ (pos + (dec l pos).2)) } := by
          have hsz : pos < (ByteArray.mk l.toArray).size := by rw [size_mk]; exact hlp
          simp only [Instr.next, getObj, setObj, Sem.run_bind, Sem.run, hp.2.1, Result.andThen, hsz, if_true]
          have hlt' : β t < w.heap.size := lt_of_heap hp.2.1
          simp [goInt, Sem.run, hp.2.1, dec]
        refine wp_value (v := .tuple #[.bool true, .int .i64 pos, .int .i32 (dec l pos).1]) (w' := _) (by simp only [execOp, ho, hv', Sem.run_bind, hrun, Result.andThen_ok]; rfl) (hK' ?_)
        rw [step_eq T r s (by rw [hr]), hr, hrd, hod]
        simp only [pre, val, stepD, hl, aNxt, AV.rest, if_pos hlp, R1.yields, AV.nr]
        refine ⟨_, _, _, hst.put0 hlt _ _ _ (fun _ => ?_) (fun _ b hb => by simp [AV.isTo] at hb) (fun hn => (hn hg).elim)⟩
        simp [RepTop, Rep, RepL]
      · have hrun : (Instr.next (.pointer (some ⟨β t, 0, none⟩)) true o.type).run P w = .ok (.tuple #[.bool false]) w := by
          have hsz : ¬ pos < (ByteArray.mk l.toArray).size := by rw [size_mk]; exact hlp
          simp [Instr.next, getObj, Sem.run, hp.2.1, hsz]
        have hst := h.stepIter hn.1 hl pos
        have hsame : ({ w with heap := w.heap.setIfInBounds (β t) (.stringIter ⟨l.toArray⟩ pos) } : World) = w := by
          have : w.heap.setIfInBounds (β t) (.stringIter ⟨l.toArray⟩ pos) = w.heap := by
            apply Array.ext_getElem?
            intro i
            rw [Array.getElem?_setIfInBounds]
            split
            · rename_i e; subst e; rw [hp.2.1, if_pos (lt_of_heap hp.2.1)]
            · rfl
          rw [this]
        rw [hsame] at hst
        refine wp_value (v := .tuple #[.bool false]) (w' := w) (by simp only [execOp, ho, hv', Sem.run_bind, hrun, Result.andThen_ok]; rfl) (hK' ?_)
        rw [step_eq T r s (by rw [hr]), hr, hrd, hod]
        simp only [pre, val, stepD, hl, aNxt, AV.rest, if_neg hlp, R1.yields, AV.nr]
        refine ⟨_, _, _, hst.put0 hlt _ _ _ (fun _ => ?_) (fun _ b hb => by simp [AV.isTo] at hb) (fun hn => (hn hg).elim)⟩
        simp [RepTop, Rep, RepL]
    case nilM sz =>
      obtain ⟨d, hod, hrd, hlt⟩ := some_of hd hx
      obtain ⟨x, ho, hv⟩ := inv_nilM hc
      have hv' : a.eval x = .slice none 0 0 := by
        cases x <;> simp [chkV] at hv
        exact (cAV_row hv).2.2
      refine wp_value (v := .slice none 0 0) (w' := w) (by rcases ho with ho | ho <;> simp [execOp, ho, hv']) (hK' ?_)
      rw [step_eq T r s (by rw [hr]), hr, hrd, hod]
      simp only [pre, val, stepD, R1.yields, AV.nr]
      exact ⟨_, _, _, h.put0 hlt _ _ _ (fun _ => by simp [RepTop]) (fun _ b hb => by simp [AV.isTo] at hb) (fun hn => (hn hg).elim)⟩
    case appM sz bytes t' y' =>
      obtain ⟨d, hod, hrd, hlt⟩ := some_of hd hx
      obtain ⟨x, y, t, u, e, i, z, td, ho, hpos, hb, hy, ht, hu, htd, hi, his, hib, hz, hzs⟩ := inv_appM hc
      simp only [dfn] at hn
      obtain ⟨k1, k2, k3⟩ := hn
      obtain ⟨sz', xs, n, hraw⟩ : ∃ sz' xs n, s.env t' = .mrow sz' xs n := by
        revert k3; cases s.env t' <;> simp [dAppM]
      rw [hraw] at k3
      have hgy : (s.rd y').good := by revert k3; cases s.rd y' <;> simp [dAppM, AV.good]
      have hyr := h.rd hy k2 hgy
      have hb1 : RepTop w F (O t') β t' (.mrow sz' xs n) (a.eval x) := by rw [chkV_t hb, ← hraw]; exact h.rep t' k1
      have hb5 : ∀ t b o, O t' b o → ¬ off1 O t' NoFp t b o := fun t b o hob hto => by
        unfold off1 at hto; split at hto
        · exact hto.elim
        · exact h.dis t' t b o (by rename_i hne; exact fun e => hne e.symm) hob hto
      have hsrc : ∃ m ys news, aAppM sz (.mrow sz' xs n) (s.rd y') = .mrow sz (xs ++ ys) (n + m) ∧ sz' = sz ∧ Src P w i.size m (a.eval y) news ∧ RepL w F true ys news ∧ (n + m) * i.bytes ≤ 140737488355328 ∧ n + m ≤ 4611686018427387904 := by
        cases hy' : s.rd y' <;> rw [hy'] at k3 hyr <;> simp only [dAppM] at k3
        case sl ys m =>
          obtain ⟨q1, q2, q3, q4, q5⟩ := k3
          obtain ⟨news, p1, p2⟩ := src_sl (P := P) (sz := i.size) hyr (by rw [his]; exact q3)
          exact ⟨m, ys, news, rfl, q1, p1, p2, by rw [hib]; omega, q5⟩
        case str l =>
          obtain ⟨q1, q2, q3, q4, q5⟩ := k3
          simp only [Rep] at hyr
          refine ⟨l.length, bytesAV l, _, rfl, q1, ?_, repL_bytes l, by rw [hib, q3]; omega, by omega⟩
          rw [hyr, his, q2]; exact src_str l
      obtain ⟨m, ys, news, p1, p2, p3, p4, p5, p6⟩ := hsrc
      subst p2
      subst his
      obtain ⟨v, w', F', Od, βd, e1, e2⟩ := (h.drop t').appendM (P := P) hlt t u o.type e i z td ht hu htd hi hz hzs hpos (O t') β t' xs n (a.eval x) hb1 (h.sep t') hb5 (h.inO t') (h.own t') (a.eval y) m ys news p3 p4 p5 p6
      refine wp_value (v := v) (w' := w') (by simp [execOp, ho, resolve, invoke, builtin, e1]) (hK' ?_)
      rw [step_eq T r s (by rw [hr]), hr, hrd, hod]
      simp only [pre, val, stepD, hraw, p1, R1.yields, AV.nr]
      rw [eq_true hg]
      exact ⟨_, _, _, e2⟩
    case callB f as b =>
      simp only [Bool.and_eq_true, decide_eq_true_eq, bne_iff_ne, ne_eq] at hx
      exact callB_ok hT h hr (by rw [hr]; exact hc) hx.1.2 hx.1.1 hd hg (by rw [hr]; exact hn) hK
end
end Go.Proofs.Ytbikpgaiocjnoaa.Pad
