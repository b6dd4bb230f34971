/- What the listed variables of the program hold, out of what the row says of them. -/
import Derived.Test.YtbinejcnoogoiaaDoorE20
import Derived.LaidMore
import Derived.Lay
import Derived.OpenShut
set_option linter.unusedVariables false
set_option linter.unusedSimpArgs false
namespace Go.Proofs.YtbinejcnoogoiaaDoor.Pad
open Go.RowKit
mutual
def flatD : DataW Unit → Option (List AV)
  | .lit (.int k n) => some [.int k n]
  | .lit (.bool b) => some [.bool b]
  | .lit (.string l) => some [.str l]
  | .agg ds => flatDs ds
  | _ => none
def flatDs : List (DataW Unit) → Option (List AV)
  | [] => some []
  | d :: ds => match flatD d, flatDs ds with
    | some xs, some ys => some (xs ++ ys)
    | _, _ => none
end
/-- Types of tables: no slice in them. -/
def tabT (P : Program) : Nat → TypeId → Bool
  | 0, _ => false
  | n + 1, t => match P.underlying t with
    | some .bool | some (.int _) | some .string => true
    | some (.struct fs) => (contig P 0 fs.toList == some (P.cellsOf t)) && fs.toList.all fun f => tabT P n f.type
    | some (.array m e) => (P.cellsOf t == m * P.cellsOf e) && tabT P n e
    | _ => false
theorem flatDs_append : ∀ (a b : List (DataW Unit)) (xs ys : List AV), flatDs a = some xs → flatDs b = some ys → flatDs (a ++ b) = some (xs ++ ys)
  | [], b, xs, ys, ha, hb => by simp [flatDs] at ha; subst ha; simpa using hb
  | d :: a, b, xs, ys, ha, hb => by
    simp only [flatDs] at ha
    cases hd : flatD d <;> cases h2 : flatDs a <;> rw [hd, h2] at ha <;> simp at ha
    rename_i us vs
    subst ha
    rw [List.cons_append]
    simp only [flatDs, hd, flatDs_append a b vs ys h2 hb, List.append_assoc]
section
variable {P : Program} {w : World} {F : Fp}
theorem flat_array {cs : List Value} {c : Nat} {ds : List (DataW Unit)} : ∀ m, m * c ≤ cs.length → m ≤ ds.length → (∀ i, (h : i < ds.length) → i < m → ∃ xs, flatD ds[i] = some xs ∧ RepL w F true xs ((cs.drop (i * c)).take c)) →
    ∃ xs, flatDs (ds.take m) = some xs ∧ RepL w F true xs (cs.take (m * c))
  | 0, _, _, _ => ⟨[], by simp [flatDs], by simp [RepL]⟩
  | m + 1, hm, hd, hx => by
    rw [Nat.add_mul, Nat.one_mul] at hm
    obtain ⟨xs, h1, h2⟩ := flat_array m (by omega) (by omega) fun i h hi => hx i h (by omega)
    obtain ⟨ys, k1, k2⟩ := hx m (by omega) (by omega)
    refine ⟨xs ++ ys, ?_, ?_⟩
    · rw [take_one ds m (by omega)]
      exact flatDs_append _ _ _ _ h1 (by simp [flatDs, k1])
    · rw [Nat.add_mul, Nat.one_mul, List.take_add]
      exact repL_append _ _ _ _ h2 k2
theorem flat_struct {cs : List Value} : ∀ (fs : List Field) (ds : List (DataW Unit)) (off e : Nat), contig P off fs = some e → e ≤ cs.length → ds.length = fs.length →
    (∀ (i : Nat) f d, fs[i]? = some f → ds[i]? = some d → ∃ xs, flatD d = some xs ∧ RepL w F true xs ((cs.drop f.offset).take (P.cellsOf f.type))) →
    off ≤ e ∧ ∃ xs, flatDs ds = some xs ∧ RepL w F true xs ((cs.drop off).take (e - off))
  | [], ds, off, e, hc, _, hl, _ => by
    simp only [contig, Option.some.injEq] at hc
    subst hc
    obtain rfl : ds = [] := List.eq_nil_of_length_eq_zero (by simpa using hl)
    exact ⟨Nat.le_refl _, [], by simp [flatDs], by simp [RepL]⟩
  | f :: fs, [], off, e, _, _, hl, _ => by simp at hl
  | f :: fs, d :: ds, off, e, hc, he, hl, hx => by
    simp only [contig] at hc
    split at hc
    · rename_i hoff
      obtain ⟨h1, ys, h2, h3⟩ := flat_struct fs ds (off + P.cellsOf f.type) e hc he (by simpa using hl) (fun i f d hf hd => hx (i + 1) f d (by simpa using hf) (by simpa using hd))
      obtain ⟨xs, k1, k2⟩ := hx 0 f d rfl rfl
      rw [hoff] at k2
      refine ⟨by omega, xs ++ ys, by simp [flatDs, k1, h2], ?_⟩
      have := repL_append _ _ _ _ k2 h3
      have e1 : (cs.drop off).take (P.cellsOf f.type) ++ (cs.drop (off + P.cellsOf f.type)).take (e - (off + P.cellsOf f.type)) = (cs.drop off).take (e - off) := by
        rw [← List.drop_drop, show e - off = P.cellsOf f.type + (e - (off + P.cellsOf f.type)) by omega, List.take_add]
      rw [e1] at this
      exact this
    · cases hc
theorem flat_of_trod {enc : TypeId × Value → Unit} {sp : Bool} : ∀ (n : Nat) (t : TypeId) (cs : List Value) (x : DataW Unit × List MemPlace), DataW.trod enc P w 0 (fun _ => true) sp n t cs = some x → ∀ m, tabT P m t = true → ∃ xs, flatD x.1 = some xs ∧ RepL w F true xs cs := by
  intro n
  induction n with
  | zero => intro t cs x h; simp [DataW.trod] at h
  | succ n ih =>
    intro t cs x h m hp
    cases m with
    | zero => simp [tabT] at hp
    | succ m =>
      cases hu : P.underlying t with
      | none => simp [tabT, hu] at hp
      | some d =>
        cases d <;> simp [tabT, hu] at hp
        case bool =>
          obtain ⟨b, rfl, rfl⟩ := DataW.trod_bool hu h
          exact ⟨[.bool b], by simp [flatD], by simp only [RepL]; exact ⟨_, _, rfl, fun _ => rfl, by simp only [Rep], rfl⟩⟩
        case int k =>
          obtain ⟨q, rfl, rfl, _⟩ := DataW.trod_int hu h
          exact ⟨[.int k q], by simp [flatD], by simp only [RepL]; exact ⟨_, _, rfl, fun _ => rfl, by simp only [Rep], rfl⟩⟩
        case string =>
          obtain ⟨s, rfl, rfl, _⟩ := DataW.trod_string hu h
          exact ⟨[.str s.data.toList], by simp [flatD], by simp only [RepL]; exact ⟨_, _, rfl, fun _ => rfl, by simp only [Rep], rfl⟩⟩
        case array k e =>
          obtain ⟨xs, n', hn', rfl, hcl, hxl, hx⟩ := DataW.trod_array hu h
          obtain rfl : n = n' := by omega
          obtain ⟨ys, k1, k2⟩ := flat_array (F := F) (w := w) (cs := cs) (c := P.cellsOf e) (ds := xs.map (·.1)) k (by rw [hcl, hp.1]; exact Nat.le_refl _) (by simp; omega) (fun i hi hk => by
            have h1 := hx i hk
            rw [List.getElem?_eq_getElem (by simpa using hi)] at h1
            have := ih _ _ _ h1 m hp.2
            simpa using this)
          rw [List.take_of_length_le (by rw [hcl, hp.1]; exact Nat.le_refl _)] at k2
          rw [List.take_of_length_le (by simp; omega)] at k1
          exact ⟨ys, by simpa [flatD] using k1, k2⟩
        case struct fs =>
          obtain ⟨xs, n', hn', rfl, hcl, hxl, hx⟩ := DataW.trod_struct hu h
          obtain rfl : n = n' := by omega
          obtain ⟨_, ys, k1, k2⟩ := flat_struct (F := F) (w := w) (P := P) (cs := cs) fs.toList (xs.map (·.1)) 0 _ hp.1 (by rw [hcl]; exact Nat.le_refl _) (by simp; omega) (fun i f d hf hd => by
            have hf' : fs[i]? = some f := by simpa using hf
            have h1 := hx i f hf'
            have hi := (Array.getElem?_eq_some_iff.1 hf').1
            rw [List.getElem?_eq_getElem (by omega)] at h1
            have := ih _ _ _ h1 m (by
              obtain ⟨_, e⟩ := Array.getElem?_eq_some_iff.1 hf'
              rw [← e]; exact hp.2 i hi)
            rw [List.getElem?_map, List.getElem?_eq_getElem (by omega)] at hd
            simp at hd
            rw [← hd]; exact this)
          rw [Nat.sub_zero, List.drop_zero, List.take_of_length_le (by rw [hcl]; exact Nat.le_refl _)] at k2
          exact ⟨ys, by simpa [flatD] using k1, k2⟩
/-- One variable. -/
theorem glob_of_trod {enc : TypeId × Value → Unit} {sp : Bool} {name : String} {g t : Nat} {cs : Array Value} {n : Nat} {d : DataW Unit} {p : List MemPlace} (hg : P.globalNamed name = some g) (hv : w.var? P name = some cs)
    (h : DataW.trod enc P w 0 (fun _ => true) sp n t cs.toList = some (d, p)) {m : Nat} (hp : tabT P m t = true) {xs : List AV} (hx : flatD d = some xs) : RepAt w (Fall w) xs g 0 := by
  obtain ⟨ys, k1, k2⟩ := flat_of_trod (F := Fall w) n t _ _ h m hp
  obtain rfl : ys = xs := Option.some.inj (k1.symm.trans hx)
  refine repAt_of_list _ cs.toList _ _ k2 (fun j v hj => ?_) (fun j hj => ?_)
  · rw [Nat.zero_add, World.var?_cell hg hv j]
    simpa using hj
  · have h1 := World.var?_cell hg hv j
    have hlt : j < cs.size := by
      have := repL_len k2
      simp at this hj
      omega
    rw [Array.getElem?_eq_getElem hlt] at h1
    obtain ⟨c, e, f, hh, _⟩ := cell_heap h1
    exact lt_of_heap hh
/-- One of those that a row lists. -/
theorem glob_of_laid {laid : List (String × DataW Unit)} (h : laidMet P laid w) {name : String} {d : DataW Unit} (hm : (name, d) ∈ laid) {g t : Nat} (hg : P.globalNamed name = some g)
    (ht : (P.globals[g]?).map (·.type) = some t) {m : Nat} (hp : tabT P m t = true) {xs : List AV} (hx : flatD d = some xs) : RepAt w (Fall w) xs g 0 := by
  obtain ⟨ps, hl, h0, h1⟩ := h
  clear h0 h1
  induction laid generalizing ps with
  | nil => cases hm
  | cons x r ih =>
    obtain ⟨n, d'⟩ := x
    obtain ⟨g', t', cs, fuel, p, q, h1, h2, h3, h4, h5, _⟩ := hl
    rcases List.mem_cons.1 hm with e | hm
    · cases e
      obtain rfl := Option.some.inj (hg.symm.trans h1)
      obtain rfl := Option.some.inj (ht.symm.trans h2)
      exact glob_of_trod hg h3 h4 hp hx
    · exact ih hm q h5
end
end Go.Proofs.YtbinejcnoogoiaaDoor.Pad
