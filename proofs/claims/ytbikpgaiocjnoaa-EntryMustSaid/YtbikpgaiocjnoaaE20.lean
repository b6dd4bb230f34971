/- Functions of the library by what is told of them: what their arguments and results stand for. -/
import Derived.Test.YtbikpgaiocjnoaaE19
import Derived.Lib.SplitLaws
import Derived.Lib.Join
set_option linter.unusedVariables false
set_option linter.unusedSimpArgs false
namespace Go.Proofs.Ytbikpgaiocjnoaa.Pad
open Go.RowKit
/-- Values with nothing behind them. -/
def AV.lit : AV → Bool
  | .int .. | .bool _ | .str _ => true
  | .fn _ [] [] => true
  | _ => false
def AV.litV : AV → Value
  | .int k n => .int k n
  | .bool b => .bool b
  | .str l => .string ⟨l.toArray⟩
  | .fn f _ _ => .func (.func f) #[] #[]
  | _ => .bool false
/-- .. also some of them at once. -/
def AV.litR : AV → Bool
  | .tup xs => xs.all AV.lit
  | x => x.lit
def AV.litRV : AV → Value
  | .tup xs => .tuple (xs.map AV.litV).toArray
  | x => x.litV
theorem lit_rep {w : World} {F : Fp} : ∀ {x : AV}, x.lit = true → Rep w F x x.litV
  | .int .., _ => by simp only [Rep, AV.litV]
  | .bool _, _ => by simp only [Rep, AV.litV]
  | .str _, _ => by simp only [Rep, AV.litV]
  | .fn f [] [], _ => by
    simp only [Rep, AV.litV]
    exact ⟨#[], #[], rfl, by simp only [RepL], by simp only [RepL]⟩
theorem litR_rep {w : World} {F : Fp} : ∀ {x : AV}, x.litR = true → Rep w F x x.litRV := by
  intro x h
  cases x with
  | tup xs =>
    simp only [AV.litR, List.all_eq_true] at h
    simp only [Rep, AV.litRV]
    refine ⟨_, rfl, ?_⟩
    show RepL w F false xs (xs.map AV.litV)
    induction xs with
    | nil => simp only [List.map_nil, RepL]
    | cons y xs ih =>
      simp only [List.map_cons, RepL]
      exact ⟨_, _, rfl, (fun hh => by cases hh), lit_rep (h y (List.mem_cons_self ..)), ih fun z hz => h z (List.mem_cons_of_mem _ hz)⟩
  | _ => exact lit_rep h
theorem lit_eq {w : World} {F O : Fp} {β : Nat → Nat} {t : Nat} : ∀ {x : AV} {v : Value}, x.lit = true → RepTop w F O β t x v → v = x.litV
  | .int .., _, _, h => by simpa only [RepTop, Rep, AV.litV] using h
  | .bool _, _, _, h => by simpa only [RepTop, Rep, AV.litV] using h
  | .str _, _, _, h => by simpa only [RepTop, Rep, AV.litV] using h
  | .fn f [] [], _, _, h => by
    simp only [RepTop, Rep, RepL] at h
    obtain ⟨cs, ds, rfl, h, h'⟩ := h
    simp only [AV.litV]
    congr 1
    · exact Array.toList_inj.1 h
    · exact Array.toList_inj.1 h'
theorem lits_eq {w : World} {F : Fp} {Os : Nat → Fp} {β : Nat → Nat} {args : List AV} {vs : Array Value} (hl : ∀ x ∈ args, x.lit = true) (hs : vs.size = args.length)
    (h : ∀ (i : Nat) (x : AV) (v : Value), args[i]? = some x → vs[i]? = some v → RepTop w F (Os i) β i x v ∧ okOwn true x) : vs = (args.map AV.litV).toArray := by
  apply Array.ext
  · simp [hs]
  · intro i h1 h2
    have hi : i < args.length := by omega
    have := (h i args[i] vs[i] (List.getElem?_eq_getElem hi) (Array.getElem?_eq_getElem h1)).1
    simpa using lit_eq (hl _ (List.getElem_mem hi)) this
section
variable {P : Program} [Globs P]
/-- A call of such values that yields such a value. -/
theorem pf_of_lits {f : Nat} {args : List AV} {r : AV} (hl : args.all AV.lit = true) (hr : r.litR = true)
    (h : ∀ w, Calls P f (args.map AV.litV).toArray w fun e w' => e = .returned r.litRV ∧ Below w.heap.size w w') : PFx P f args r := by
  intro w F Os β vs hgiven
  obtain ⟨_, hvs, hargs, hsep, hdis, hinF, hinO⟩ := hgiven
  have := lits_eq (List.all_eq_true.1 hl) hvs hargs
  subst this
  refine (h w).mono ?_
  rintro e w' ⟨rfl, hb⟩
  have hrep : Rep w' F r r.litRV := litR_rep hr
  refine ⟨_, F, NoFp, 0, rfl, chg_of_below hb, top_of_rep hrep, fun _ _ hn => hn.elim, fun b o hF => .inl hF, fun _ _ hn => hn.elim, fun b o hF => Nat.lt_of_lt_of_le (hinF b o hF) hb.size, fun _ _ hn => hn.elim, ?_⟩
  exact okOwn_good (by rw [(good_of_rep hrep).1]; exact (good_of_rep hrep).2)
/-- A call of such values that yields a new row of texts. -/
theorem pf_of_row {f : Nat} {args : List AV} {ls : List (List UInt8)} {e : TypeId} (hl : args.all AV.lit = true) (hn : ls.length ≤ maxLen)
    (h : ∀ w, Calls P f (args.map AV.litV).toArray w fun x w' => x = .returned (.slice (some ⟨w.heap.size, 0, none⟩) ls.length ls.length) ∧ w' = w.alloc (.cells (ls.map fun l => Value.string ⟨l.toArray⟩).toArray e)) :
    PFx P f args (.row 1 (ls.map .str) ls.length) := by
  intro w F Os β vs hgiven
  obtain ⟨_, hvs, hargs, hsep, hdis, hinF, hinO⟩ := hgiven
  have := lits_eq (List.all_eq_true.1 hl) hvs hargs
  subst this
  refine (h w).mono ?_
  rintro x w' ⟨rfl, rfl⟩
  have hnew := heap_alloc_new w (.cells (ls.map fun l => Value.string ⟨l.toArray⟩).toArray e)
  have hsz : (w.alloc (.cells (ls.map fun l => Value.string ⟨l.toArray⟩).toArray e)).heap.size = w.heap.size + 1 := by unfold World.alloc; exact Array.size_push _
  have hat : ∀ (ks : List (List UInt8)) (o : Nat), (∀ j k, ks[j]? = some k → ls[o + j]? = some k) →
      RepAt (w.alloc (.cells (ls.map fun l => Value.string ⟨l.toArray⟩).toArray e)) (fun b o => F b o ∨ (b = w.heap.size ∧ o < ls.length)) (ks.map .str) w.heap.size o := by
    intro ks
    induction ks with
    | nil => intro o _; simp only [List.map_nil, RepAt]
    | cons k ks ih =>
      intro o hk
      have h0 := hk 0 k rfl
      rw [Nat.add_zero] at h0
      simp only [List.map_cons, RepAt]
      refine ⟨⟨.string ⟨k.toArray⟩, ?_, rfl, by simp only [Rep]⟩, .inr ⟨trivial, (List.getElem?_eq_some_iff.1 h0).1⟩, ih (o + 1) fun j x hx => ?_⟩
      · rw [cell_of_heap hnew]
        simp [h0]
      · have := hk (j + 1) x (by simpa using hx)
        rwa [show o + (j + 1) = o + 1 + j by omega] at this
  refine ⟨_, fun b o => F b o ∨ (b = w.heap.size ∧ o < ls.length), fun b o => b = w.heap.size ∧ ls.length ≤ o, 0, rfl, chg_alloc _ w _, ?_, fun b o ho hF => ?_, fun b o hF => ?_, fun b o ho => .inl (by omega), fun b o hF => ?_, fun b o ho => by omega, trivial⟩
  · simp only [RepTop]
    refine .inr ⟨w.heap.size, ls.length, _, e, 0, 0, rfl, hnew, Nat.le_refl _, hn, by simp, by simp, hat ls 0 fun j k h => by rwa [Nat.zero_add], fun o ho => ⟨rfl, by omega⟩, .inl (Nat.le_refl _)⟩
  · rcases hF with hF | hF
    · have := hinF b o hF; omega
    · omega
  · rcases hF with hF | hF
    · exact .inl hF
    · exact .inr (.inl (by omega))
  · rcases hF with hF | hF
    · have := hinF b o hF; omega
    · omega
end
end Go.Proofs.Ytbikpgaiocjnoaa.Pad
