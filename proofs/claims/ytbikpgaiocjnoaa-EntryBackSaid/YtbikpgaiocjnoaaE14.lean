/- What comes in, as data, stands for something; and what is told of a law, as it is asked. -/
import Derived.Test.YtbikpgaiocjnoaaE13
import Derived.WalkKit
import Derived.ProofKit
import Derived.OpenShut
import Derived.ShutString
import Derived.ChangeOld
set_option linter.unusedVariables false
set_option linter.unusedSimpArgs false
namespace Go.Proofs.Ytbikpgaiocjnoaa.Pad
open Go.RowKit

def Fall (w : World) : Fp := fun b _ => b < w.heap.size

/-- Of a type: what lies in its cells. -/
def TyC (P : Program) : Nat → TypeId → List AV → Prop
  | 0, _, _ => False
  | n + 1, t, xs => match P.underlying t with
    | some .bool => ∃ b, xs = [.bool b]
    | some (.int k) => ∃ m, xs = [.int k m] ∧ inK k m
    | some .string => ∃ l, xs = [.str l] ∧ l.length ≤ maxLen
    | some (.slice e) => ∃ (es : List (List AV)), xs = [.sl es.flatten es.length] ∧ es.length ≤ maxLen ∧ ∀ y ∈ es, y.length = P.cellsOf e ∧ TyC P n e y
    | some (.struct fs) => xs.length = P.cellsOf t ∧ ∀ f ∈ fs.toList, TyC P n f.type ((xs.drop f.offset).take (P.cellsOf f.type))
    | some (.array m e) => xs.length = P.cellsOf t ∧ ∀ i, i < m → TyC P n e ((xs.drop (i * P.cellsOf e)).take (P.cellsOf e))
    | _ => False

def contig (P : Program) : Nat → List Field → Option Nat
  | off, [] => some off
  | off, f :: fs => if f.offset = off then contig P (off + P.cellsOf f.type) fs else none
/-- Types of plain data. -/
def plainT (P : Program) : Nat → TypeId → Bool
  | 0, _ => false
  | n + 1, t => match P.underlying t with
    | some .bool | some (.int _) | some .string => true
    | some (.slice e) => decide (0 < P.cellsOf e) && plainT P n e
    | some (.struct fs) => (contig P 0 fs.toList == some (P.cellsOf t)) && fs.toList.all fun f => plainT P n f.type
    | some (.array m e) => (P.cellsOf t == m * P.cellsOf e) && plainT P n e
    | _ => false

/-- Types of plain data, whose components are such types again: of a type within itself too. -/
def plain1 (P : Program) (Pl : TypeId → Prop) (t : TypeId) : Prop := match P.underlying t with
  | some .bool | some (.int _) | some .string => True
  | some (.slice e) => 0 < P.cellsOf e ∧ Pl e
  | some (.struct fs) => contig P 0 fs.toList = some (P.cellsOf t) ∧ ∀ f ∈ fs.toList, Pl f.type
  | some (.array m e) => P.cellsOf t = m * P.cellsOf e ∧ Pl e
  | _ => False
theorem plainT_1 {P : Program} {m : Nat} {t : TypeId} (h : plainT P m t = true) : plain1 P (fun u => ∃ m, plainT P m u = true) t := by
  cases m with
  | zero => simp [plainT] at h
  | succ m =>
    unfold plainT at h
    unfold plain1
    cases hu : P.underlying t with
    | none => rw [hu] at h; cases h
    | some d =>
      rw [hu] at h
      cases d <;> simp only [Bool.and_eq_true, decide_eq_true_eq, beq_iff_eq, List.all_eq_true, Bool.false_eq_true] at h <;> first | trivial | exact ⟨h.1, _, h.2⟩ | exact ⟨h.1, fun f hf => ⟨_, h.2 f hf⟩⟩
/-- The same of a list of types. -/
def plainL (P : Program) (S : List TypeId) : Bool := S.all fun t => match P.underlying t with
  | some .bool | some (.int _) | some .string => true
  | some (.slice e) => decide (0 < P.cellsOf e) && S.contains e
  | some (.struct fs) => (contig P 0 fs.toList == some (P.cellsOf t)) && fs.toList.all fun f => S.contains f.type
  | some (.array m e) => (P.cellsOf t == m * P.cellsOf e) && S.contains e
  | _ => false
theorem plainL_1 {P : Program} {S : List TypeId} (h : plainL P S = true) : ∀ t, t ∈ S → plain1 P (· ∈ S) t := fun t ht => by
  have h := List.all_eq_true.1 h t ht
  unfold plain1
  cases hu : P.underlying t with
  | none => rw [hu] at h; cases h
  | some d =>
    rw [hu] at h
    cases d <;> simp only [Bool.and_eq_true, decide_eq_true_eq, beq_iff_eq, List.all_eq_true, List.contains_iff_mem, Bool.false_eq_true] at h <;> first | trivial | exact h

theorem inK_of_wf {k : IntKind} {n : Int} (h : (Lit.int k n).wf = true) : inK k n := by
  cases k <;> simp [Lit.wf, IntKind.min, IntKind.max, IntKind.signed, IntKind.bits] at h <;> simp only [inK] <;> omega

theorem cells?_get {w : World} {a : Addr} {n : Nat} {cs : List Value} (h : w.cells? 0 a n = some cs) : cs.length = n ∧ ∀ j, j < n → w.cell? (a.add j) = cs[j]? := by
  unfold World.cells? at h
  rw [if_pos (Nat.zero_le _)] at h
  have hl := mapM_some_length h
  refine ⟨by simpa using hl, fun j hj => ?_⟩
  have := mapM_some_get h j j (by simp [hj])
  exact this

theorem repL_len {w : World} {F : Fp} {one : Bool} {xs : List AV} {vs : List Value} (h : RepL w F one xs vs) : xs.length = vs.length := (repL_length xs vs h).symm

section
variable {H : Type} {enc : TypeId × Value → H} {P : Program} {w : World} {Pl : TypeId → Prop}

theorem chunks_struct {n : Nat} {cs : List Value} (ih : ∀ (t : TypeId) (cs : List Value) (x : DataW H × List MemPlace), DataW.trod enc P w 0 (fun _ => true) true n t cs = some x → Pl t → ∃ xs, RepL w (Fall w) true xs cs ∧ TyC P n t xs) :
    ∀ (fs : List Field) (off e : Nat), contig P off fs = some e → e ≤ cs.length → (∀ f ∈ fs, Pl f.type ∧ ∃ x, DataW.trod enc P w 0 (fun _ => true) true n f.type ((cs.drop f.offset).take (P.cellsOf f.type)) = some x) →
      off ≤ e ∧ ∃ xs, RepL w (Fall w) true xs ((cs.drop off).take (e - off)) ∧ ∀ f ∈ fs, off ≤ f.offset ∧ TyC P n f.type ((xs.drop (f.offset - off)).take (P.cellsOf f.type))
  | [], off, e, hc, _, _ => by
    simp only [contig, Option.some.injEq] at hc
    subst hc
    exact ⟨Nat.le_refl _, [], by simp [RepL], fun f hf => by cases hf⟩
  | f :: fs, off, e, hc, he, hf => by
    simp only [contig] at hc
    split at hc
    · rename_i hoff
      obtain ⟨h1, xs2, h2, h3⟩ := chunks_struct ih fs (off + P.cellsOf f.type) e hc he (fun g hg => hf g (List.mem_cons_of_mem _ hg))
      obtain ⟨hp, x, hx⟩ := hf f (List.mem_cons_self ..)
      obtain ⟨xs1, k1, k2⟩ := ih _ _ _ hx hp
      have hl1 := repL_len k1
      rw [hoff] at k1 hl1
      rw [List.length_take, List.length_drop] at hl1
      have hl1' : xs1.length = P.cellsOf f.type := by omega
      refine ⟨by omega, xs1 ++ xs2, ?_, fun g hg => ?_⟩
      · have := repL_append _ _ _ _ k1 h2
        have e1 : (cs.drop off).take (P.cellsOf f.type) ++ (cs.drop (off + P.cellsOf f.type)).take (e - (off + P.cellsOf f.type)) = (cs.drop off).take (e - off) := by
          rw [← List.drop_drop, show e - off = P.cellsOf f.type + (e - (off + P.cellsOf f.type)) by omega, List.take_add]
        rw [e1] at this
        exact this
      · rcases List.mem_cons.1 hg with rfl | hg
        · refine ⟨by omega, ?_⟩
          rw [hoff, Nat.sub_self, List.drop_zero, List.take_append_of_le_length (by omega), List.take_of_length_le (by omega)]
          exact k2
        · obtain ⟨q1, q2⟩ := h3 g hg
          refine ⟨by omega, ?_⟩
          have : (xs1 ++ xs2).drop (g.offset - off) = xs2.drop (g.offset - (off + P.cellsOf f.type)) := by
            rw [List.drop_append, List.drop_eq_nil_of_le (by omega), List.nil_append, hl1']
            congr 1; omega
          rw [this]; exact q2
    · cases hc

theorem chunks_array {n : Nat} {cs : List Value} {e : TypeId} (hall : ∀ i m, i < m → m * P.cellsOf e ≤ cs.length → (∃ x, DataW.trod enc P w 0 (fun _ => true) true n e ((cs.drop (i * P.cellsOf e)).take (P.cellsOf e)) = some x) → ∃ xs, RepL w (Fall w) true xs ((cs.drop (i * P.cellsOf e)).take (P.cellsOf e)) ∧ TyC P n e xs) :
    ∀ m, m * P.cellsOf e ≤ cs.length → (∀ i, i < m → ∃ x, DataW.trod enc P w 0 (fun _ => true) true n e ((cs.drop (i * P.cellsOf e)).take (P.cellsOf e)) = some x) →
      ∃ xs, RepL w (Fall w) true xs (cs.take (m * P.cellsOf e)) ∧ ∀ i, i < m → TyC P n e ((xs.drop (i * P.cellsOf e)).take (P.cellsOf e))
  | 0, _, _ => ⟨[], by simp [RepL], fun i hi => by omega⟩
  | m + 1, hm, hx => by
    rw [Nat.add_mul, Nat.one_mul] at hm
    obtain ⟨xs, h1, h2⟩ := chunks_array hall m (by omega) fun i hi => hx i (by omega)
    obtain ⟨ys, k1, k2⟩ := hall m (m + 1) (by omega) (by rw [Nat.add_mul]; omega) (hx m (by omega))
    have hl := repL_len h1
    have hly := repL_len k1
    rw [List.length_take] at hl hly
    rw [List.length_drop] at hly
    refine ⟨xs ++ ys, ?_, fun i hi => ?_⟩
    · have := repL_append _ _ _ _ h1 k1
      rw [Nat.add_mul, Nat.one_mul, List.take_add]
      exact this
    · rcases Nat.lt_or_ge i m with hlt | hge
      · have hmul : (i + 1) * P.cellsOf e ≤ m * P.cellsOf e := Nat.mul_le_mul_right _ (by omega)
        rw [Nat.add_mul, Nat.one_mul] at hmul
        rw [List.drop_append_of_le_length (by omega), List.take_append_of_le_length (by rw [List.length_drop]; omega)]
        exact h2 i hlt
      · have : i = m := by omega
        subst this
        rw [List.drop_append, List.drop_eq_nil_of_le (by omega), List.nil_append, show i * P.cellsOf e - xs.length = 0 by omega, List.drop_zero, List.take_of_length_le (by omega)]
        exact k2

theorem rep_of_pl (hPl : ∀ t, Pl t → plain1 P Pl t) : ∀ (n : Nat) (t : TypeId) (cs : List Value) (x : DataW H × List MemPlace), DataW.trod enc P w 0 (fun _ => true) true n t cs = some x → Pl t → ∃ xs, RepL w (Fall w) true xs cs ∧ TyC P n t xs := by
  intro n
  induction n with
  | zero => intro t cs x h; simp [DataW.trod] at h
  | succ n ih =>
    intro t cs x h hpl
    have hp := hPl t hpl
    · cases hu : P.underlying t with
      | none => simp [plain1, hu] at hp
      | some d =>
        unfold TyC
        rw [hu]
        cases d <;> simp [plain1, hu] at hp
        case bool =>
          obtain ⟨b, rfl, _⟩ := DataW.trod_bool hu h
          exact ⟨[.bool b], by simp only [RepL]; exact ⟨_, _, rfl, fun _ => rfl, by simp only [Rep], rfl⟩, b, rfl⟩
        case int k =>
          obtain ⟨q, rfl, _, hwf⟩ := DataW.trod_int hu h
          exact ⟨[.int k q], by simp only [RepL]; exact ⟨_, _, rfl, fun _ => rfl, by simp only [Rep], rfl⟩, q, rfl, inK_of_wf hwf⟩
        case string =>
          obtain ⟨s, rfl, _, hs⟩ := DataW.trod_string hu h
          refine ⟨[.str s.data.toList], by simp only [RepL]; exact ⟨_, _, rfl, fun _ => rfl, by simp only [Rep], rfl⟩, _, rfl, ?_⟩
          rw [Array.length_toList]; exact hs
        case slice e =>
          rcases DataW.trod_slice hu h with ⟨rfl, _⟩ | ⟨a, len, cap, elems, rest, n', hn', rfl, _, _, hl, hm, hlen, hel, _, _⟩
          · refine ⟨[.sl [] 0], ?_, [], rfl, Nat.zero_le _, fun y hy => by cases hy⟩
            simp only [RepL]
            exact ⟨_, _, rfl, fun _ => rfl, nil_rep, rfl⟩
          · obtain rfl : n = n' := by omega
            have hex : ∀ i, i < len → ∃ ys, ∃ vs : List Value, RepL w (Fall w) true ys vs ∧ ys.length = P.cellsOf e ∧ TyC P n e ys ∧ ∀ j v, vs[j]? = some v → w.cell? (a.add (i * P.cellsOf e) |>.add j) = some v := fun i hi => by
              have hi' := hel i hi
              have : ∃ y, elems[i]? = some y := ⟨elems[i], List.getElem?_eq_getElem (by omega)⟩
              obtain ⟨y, hy⟩ := this
              rw [hy, Option.bind_eq_some_iff] at hi'
              obtain ⟨vs, hvs, ht⟩ := hi'
              obtain ⟨ys, k1, k2⟩ := ih _ _ _ ht hp.2
              obtain ⟨q1, q2⟩ := cells?_get hvs
              refine ⟨ys, vs, k1, by rw [repL_len k1, q1], k2, fun j v hj => ?_⟩
              have hjl := (List.getElem?_eq_some_iff.1 hj).1
              rw [q2 j (by omega)]; exact hj
            -- one row
            have hrow : ∀ k, k ≤ len → ∃ es : List (List AV), es.length = k ∧ (∀ y ∈ es, y.length = P.cellsOf e ∧ TyC P n e y) ∧ ∃ vs : List Value, RepL w (Fall w) true es.flatten vs ∧ vs.length = k * P.cellsOf e ∧ ∀ j v, vs[j]? = some v → w.cell? (a.add j) = some v := by
              intro k
              induction k with
              | zero => intro _; exact ⟨[], rfl, (fun y hy => by cases hy), [], by simp [RepL], by simp, fun j v hj => by simp at hj⟩
              | succ k ihk =>
                intro hk
                obtain ⟨es, e1, e2, vs, e3, e4, e5⟩ := ihk (by omega)
                obtain ⟨ys, us, q1, q2, q3, q4⟩ := hex k (by omega)
                have hul := repL_len q1
                refine ⟨es ++ [ys], by simp [e1], fun y hy => ?_, vs ++ us, ?_, ?_, fun j v hj => ?_⟩
                · rcases List.mem_append.1 hy with hy | hy
                  · exact e2 y hy
                  · simp at hy; subst hy; exact ⟨q2, q3⟩
                · rw [List.flatten_append]; simp only [List.flatten_cons, List.flatten_nil, List.append_nil]; exact repL_append _ _ _ _ e3 q1
                · rw [List.length_append, e4, ← hul, q2, Nat.add_mul, Nat.one_mul]
                · rcases Nat.lt_or_ge j vs.length with hlt | hge
                  · rw [List.getElem?_append_left hlt] at hj; exact e5 j v hj
                  · rw [List.getElem?_append_right hge] at hj
                    have := q4 _ v hj
                    have hadd : (a.add (k * P.cellsOf e)).add (j - vs.length) = a.add j := by
                      unfold Addr.add
                      rw [e4]
                      rw [e4] at hge
                      cases a
                      by_cases h1 : k * P.cellsOf e = 0 <;> by_cases h2 : j - k * P.cellsOf e = 0 <;> by_cases h3 : j = 0 <;> simp_all <;> omega
                    rw [hadd] at this; exact this
            obtain ⟨es, e1, e2, vs, e3, e4, e5⟩ := hrow len (Nat.le_refl _)
            refine ⟨[.sl es.flatten es.length], ?_, es, rfl, by omega, e2⟩
            simp only [RepL]
            refine ⟨_, _, rfl, fun _ => rfl, ?_, rfl⟩
            simp only [Rep]
            refine ⟨some a, cap, by rw [e1], by omega, hm, ?_⟩
            have hfl := repL_len e3
            by_cases h0 : es.flatten = []
            · by_cases hl0 : len = 0
              · exact .inl ⟨h0, by omega⟩
              · exfalso
                rw [h0] at hfl
                have : 0 < len * P.cellsOf e := Nat.mul_pos (by omega) hp.1
                simp at hfl; omega
            · right
              have hpos : 0 < vs.length := by rw [← hfl]; exact List.length_pos_iff.2 h0
              have h1 := e5 0 vs[0] (List.getElem?_eq_getElem hpos)
              rw [Addr.add_zero'] at h1
              have hspot : a.spot = none := World.cell?_spot h1
              obtain ⟨b, o, sp⟩ := a
              simp only at hspot
              subst hspot
              have hb : b < w.heap.size := by obtain ⟨c, e', f, hh, _⟩ := cell_heap h1; exact lt_of_heap hh
              refine ⟨b, o, rfl, repAt_of_list _ vs _ _ e3 (fun j v hj => ?_) (fun j _ => hb)⟩
              have := e5 j v hj
              rwa [Addr.add_lit] at this
        case array k e =>
          obtain ⟨xs, n', hn', _, hcl, hxl, hx⟩ := DataW.trod_array hu h
          obtain rfl : n = n' := by omega
          obtain ⟨ys, k1, k2⟩ := chunks_array (enc := enc) (cs := cs) (fun i m' _ _ ⟨x, hx⟩ => ih _ _ _ hx hp.2) k (by rw [hcl, hp.1]; exact Nat.le_refl _) (fun i hi => ⟨xs[i], by rw [hx i hi]; exact List.getElem?_eq_getElem (by omega)⟩)
          rw [List.take_of_length_le (by rw [hcl, hp.1]; exact Nat.le_refl _)] at k1
          exact ⟨ys, k1, by rw [repL_len k1, hcl], k2⟩
        case struct fs =>
          obtain ⟨xs, n', hn', _, hcl, hxl, hx⟩ := DataW.trod_struct hu h
          obtain rfl : n = n' := by omega
          obtain ⟨_, ys, k1, k2⟩ := chunks_struct (enc := enc) (cs := cs) ih fs.toList 0 _ hp.1 (by rw [hcl]; exact Nat.le_refl _) (fun f hf => by
            obtain ⟨i, hi, he⟩ := List.mem_iff_getElem.1 hf
            simp only [Array.length_toList] at hi
            simp only [Array.getElem_toList] at he
            refine ⟨hp.2 f (by simpa using hf), ?_⟩
            have hi' : fs[i]? = some f := by rw [← he]; exact Array.getElem?_eq_getElem hi
            exact ⟨xs[i]'(by omega), by rw [hx i f hi']; exact List.getElem?_eq_getElem _⟩)
          rw [Nat.sub_zero, List.drop_zero, List.take_of_length_le (by rw [hcl]; exact Nat.le_refl _)] at k1
          exact ⟨ys, k1, by rw [repL_len k1, hcl], fun f hf => by simpa using (k2 f hf).2⟩
theorem rep_of_trod (n : Nat) (t : TypeId) (cs : List Value) (x : DataW H × List MemPlace) (h : DataW.trod enc P w 0 (fun _ => true) true n t cs = some x) (m : Nat) (hp : plainT P m t = true) : ∃ xs, RepL w (Fall w) true xs cs ∧ TyC P n t xs :=
  rep_of_pl (Pl := fun u => ∃ m, plainT P m u = true) (fun _ ⟨_, h⟩ => plainT_1 h) n t cs x h ⟨m, hp⟩
end
end Go.Proofs.Ytbikpgaiocjnoaa.Pad
