import Derived.Test.YtmolcbipiiimgaaQ2
namespace Go.Proofs.Ytmolcbipiiimgaa
open Go.Proofs.Ytmolcbipiiimgaa.Pad
variable {T : Tab}
def rowsB (ls : List (List UInt8)) : List UInt8 := (ls.map rowB).flatten
theorem rowsB_take (ls : List (List UInt8)) (k : Nat) (h : k < ls.length) : rowsB (ls.take (k + 1)) = rowsB (ls.take k) ++ rowB ls[k] := by
  unfold rowsB
  rw [List.take_add_one, List.getElem?_eq_getElem h, Option.toList_some, List.map_append, List.flatten_append, List.map_cons, List.map_nil, List.flatten_cons, List.flatten_nil, List.append_nil]
theorem rowsB_app (a b : List (List UInt8)) : rowsB (a ++ b) = rowsB a ++ rowsB b := by simp [rowsB]
theorem rowsB_len : ∀ (ls : List (List UInt8)), (∀ s ∈ ls, s.length ≤ 200) → (rowsB ls).length ≤ 202 * ls.length
  | [], _ => by simp [rowsB]
  | s :: ls, h => by
    have := rowsB_len ls fun t ht => h t (List.mem_cons_of_mem _ ht)
    have h1 := h s (List.mem_cons_self ..)
    have : (rowsB (s :: ls)).length = (2 + s.length) + (rowsB ls).length := by simp [rowsB]
    simp only [List.length_cons]; omega
def few (ls : List (List UInt8)) : Prop := ls.length ≤ 40 ∧ ∀ s ∈ ls, s.length ≤ 200
theorem few_take {ls : List (List UInt8)} (h : few ls) (k : Nat) : few (ls.take k) := ⟨by simp; have := h.1; omega, fun s hs => h.2 s (List.mem_of_mem_take hs)⟩
theorem few_len {ls : List (List UInt8)} (h : few ls) : (rowsB ls).length ≤ 8080 := by
  have := rowsB_len ls h.2; have := h.1; omega
theorem over_pf (hT : Sound Try.prog T) (ls : List (List UInt8)) (hmax : ls.length ≤ 9223372036854775807) : PFx Try.prog 8 [.sl (ls.map .str) ls.length] (.int .i64 (open Classical in if few ls then 0 else 1)) := by
  refine PFx_of_W (rc := rc8) (rs := rs8) Try.func8 rfl hT hm (by kernel_rfl) (by kernel_rfl) (by simp [Try.ntmps8]) ?_
  simp [rc8, rs8]
  refine ⟨fun h => by simp [few]; omega, fun h => ?_⟩
  refine W_loop (fun s => ∃ k : Nat, k ≤ ls.length ∧ (∀ s ∈ ls.take k, s.length ≤ 200) ∧ s = [⟨0, .sl (ls.map .str) ls.length, True, false⟩, ⟨3, .int .i64 k, True, false⟩]) (fun s => (ls.length - (s.env 3).toI).toNat) ⟨0, by omega, by simp, by simp⟩ ?_
  rintro s ⟨k, hk, hall, rfl⟩
  rcases Nat.lt_or_ge k ls.length with hlt | hge
  · obtain ⟨s, hs⟩ : ∃ s, ls[k]? = some s := ⟨_, List.getElem?_eq_getElem hlt⟩
    simp [hs, hlt]
    refine ⟨by omega, fun h1 hf => ?_, fun h1 => ⟨by omega, ⟨k + 1, by omega, ?_, by omega⟩, by omega⟩⟩
    · have := hf.2 _ (List.getElem_mem hlt); omega
    · intro t ht
      rw [List.take_add_one, hs] at ht
      rcases List.mem_append.1 ht with ht | ht
      · exact hall t ht
      · simp at ht; subst ht
        have : ls[k] = t := by rw [List.getElem?_eq_getElem hlt] at hs; exact Option.some.inj hs
        rw [this] at h1; omega
  · obtain rfl : k = ls.length := by omega
    simp
    exact ⟨by omega, by rwa [List.take_length] at hall⟩
theorem rows_pf (hT : Sound Try.prog T) (ls : List (List UInt8)) (h : few ls) : PFx Try.prog 12 [.sl (ls.map .str) ls.length] (.tup [.sl (bytesAV (rowsB ls)) (rowsB ls).length, .int .i64 0]) := by
  refine PFx_of_W (rc := rc12) (rs := rs12) Try.func12 rfl (t29_ok hT) hm (by kernel_rfl) (by kernel_rfl) (by simp [Try.ntmps12]) ?_
  have h0 := few_len h
  have h1 : ¬ (1024 : Int) < ls.length := by have := h.1; omega
  simp [rc12, rs12]
  refine ⟨by omega, fun _ => ?_⟩
  refine W_loop (fun s => ∃ k : Nat, k ≤ ls.length ∧ s = [⟨0, .sl (ls.map .str) ls.length, True, false⟩, ⟨4, .int .i64 (rowsB (ls.take k)).length, True, false⟩, ⟨13, .sl (ls.map .str) ls.length, True, false⟩, ⟨14, .int .i64 ls.length, True, false⟩, ⟨15, .int .i64 k, True, false⟩]) (fun s => (ls.length - (s.env 15).toI).toNat) ⟨0, by omega, by simp [rowsB]⟩ ?_
  rintro s ⟨k, hk, rfl⟩
  have hk' := few_len (few_take h k)
  rcases Nat.lt_or_ge k ls.length with hlt | hge
  · obtain ⟨s, hs⟩ : ∃ s, ls[k]? = some s := ⟨_, List.getElem?_eq_getElem hlt⟩
    have hsl := h.2 _ (List.getElem_mem hlt)
    simp [hs, hlt]
    refine ⟨by omega, by omega, fun _ => ⟨by omega, by omega, by omega, ⟨k + 1, by omega, ?_, by omega⟩, by omega⟩⟩
    rw [rowsB_take ls k hlt]; simp
  · obtain rfl : k = ls.length := by omega
    simp
    refine ⟨by omega, ?_⟩
    refine W_loop (fun s => ∃ k : Nat, k ≤ ls.length ∧ s = [⟨7, .row 1 (bytesAV (rowsB (ls.take k))) (rowsB (ls.take k)).length, True, false⟩, ⟨30, .sl (ls.map .str) ls.length, True, false⟩, ⟨31, .int .i64 ls.length, True, false⟩, ⟨32, .int .i64 k, True, false⟩]) (fun s => (ls.length - (s.env 32).toI).toNat) ⟨0, by omega, by simp [rowsB, repeatAV]⟩ ?_
    rintro s ⟨k, hk, rfl⟩
    have hk' := few_len (few_take h k)
    rcases Nat.lt_or_ge k ls.length with hlt | hge
    · obtain ⟨s, hs⟩ : ∃ s, ls[k]? = some s := ⟨_, List.getElem?_eq_getElem hlt⟩
      have hsl := h.2 _ (List.getElem_mem hlt)
      have q1 : (rowsB (ls.take k)).length ≤ 100000 := by omega
      have q2 : ls[k].length ≤ 65535 := by omega
      simp [hs, hlt, q1, q2]
      refine ⟨by omega, by omega, ⟨k + 1, by omega, ?_, by omega⟩, by omega⟩
      rw [rowsB_take ls k hlt]; simp
    · obtain rfl : k = ls.length := by omega
      simp
theorem rrows_pf (hT : Sound Try.prog T) (ls : List (List UInt8)) (h : few ls) : PFx Try.prog 13 [.sl (ls.map .str) ls.length] (.tup [.sl (bytesAV (rowsB ls)) (rowsB ls).length, .int .i64 0]) := by
  refine PFx_of_W (rc := rc13) (rs := rs13) Try.func13 rfl (t11_ok hT) hm (by kernel_rfl) (by kernel_rfl) (by simp [Try.ntmps13]) ?_
  have h0 := few_len h
  have h1 := h.1
  simp [rc13, rs13]
  refine ⟨by omega, fun _ => ?_⟩
  refine W_loop (fun s => ∃ (k : Nat) (x : AV), k ≤ ls.length ∧ ((k = 0 ∧ x = .row 1 [] 0) ∨ x = .sl (bytesAV (rowsB (ls.take k))) (rowsB (ls.take k)).length) ∧ s = [⟨0, .sl (ls.map .str) ls.length, True, false⟩, ⟨4, x, True, false⟩, ⟨5, .int .i64 k, True, false⟩]) (fun s => (ls.length - (s.env 5).toI).toNat) ⟨0, .row 1 [] 0, by omega, .inl ⟨rfl, rfl⟩, by simp⟩ ?_
  rintro s ⟨k, x, hk, hx, rfl⟩
  have hk' := few_len (few_take h k)
  rcases Nat.lt_or_ge k ls.length with hlt | hge
  · obtain ⟨s, hs⟩ : ∃ s, ls[k]? = some s := ⟨_, List.getElem?_eq_getElem hlt⟩
    have hsl := h.2 _ (List.getElem_mem hlt)
    have q1 : (rowsB (ls.take k)).length ≤ 10000 := by omega
    have q2 : ls[k].length ≤ 65535 := by omega
    rcases hx with ⟨rfl, rfl⟩ | rfl
    · have e := t11_eq (T := T) [] ls[0] ⟨by simp, q2⟩
      simp at e
      simp [hs, hlt, q1, q2, e]
      have e1 := rowsB_take ls 0 hlt
      exact ⟨⟨1, hlt, .inr ⟨⟨by rw [e1]; simp [rowsB], by rw [e1]; simp [rowsB]⟩, rfl⟩⟩, by omega⟩
    · simp [hs, hlt, q1, q2]
      have e1 := rowsB_take ls k hlt
      refine ⟨by omega, by omega, ⟨k + 1, by omega, .inr ⟨⟨by rw [e1], by rw [e1]; simp⟩, by omega⟩⟩, by omega⟩
  · obtain rfl : k = ls.length := by omega
    rcases hx with ⟨h0, rfl⟩ | rfl
    · have : ls = [] := List.length_eq_zero_iff.1 h0
      subst this
      simp [rowsB]
    · simp
noncomputable def t8 (T : Tab) : Tab := tabAdd T 8 (fun x : List (List UInt8) => x.length ≤ 9223372036854775807) (fun x => [.sl (x.map .str) x.length]) (fun x => .int .i64 (open Classical in if few x then 0 else 1))
theorem t8_eq0 (x : List (List UInt8)) (h : x.length ≤ 9223372036854775807) : t8 T 8 [.sl (x.map .str) x.length] = some (.int .i64 (open Classical in if few x then 0 else 1)) := tabAdd_eq (a := x) (by intro a b; simp [strs_inj]; intro h1; subst h1; first | done | rfl | simp) h rfl
@[simp] theorem t8_few (x : List (List UInt8)) (h : x.length ≤ 9223372036854775807) (hf : few x) : t8 T 8 [.sl (x.map .str) x.length] = some (.int .i64 0) := by rw [t8_eq0 x h, if_pos hf]
@[simp] theorem t8_many (x : List (List UInt8)) (h : x.length ≤ 9223372036854775807) (hf : ¬ few x) : t8 T 8 [.sl (x.map .str) x.length] = some (.int .i64 1) := by rw [t8_eq0 x h, if_neg hf]
@[simp] theorem t8_ne {g : Nat} {xs : List AV} (h : g ≠ 8) : t8 T g xs = T g xs := tabAdd_ne h
theorem t8_ok (hT : Sound Try.prog T) : Sound Try.prog (t8 T) := tabAdd_sound hT fun x h => over_pf hT x h
noncomputable def t12 (T : Tab) : Tab := tabAdd T 12 (fun x : List (List UInt8) => few x) (fun x => [.sl (x.map .str) x.length]) (fun x => .tup [.sl (bytesAV (rowsB x)) (rowsB x).length, .int .i64 0])
@[simp] theorem t12_eq (x : List (List UInt8)) (h : few x) : t12 T 12 [.sl (x.map .str) x.length] = some (.tup [.sl (bytesAV (rowsB x)) (rowsB x).length, .int .i64 0]) := tabAdd_eq (a := x) (by intro a b; simp [strs_inj]; intro h1; subst h1; first | done | rfl | simp) h rfl
@[simp] theorem t12_ne {g : Nat} {xs : List AV} (h : g ≠ 12) : t12 T g xs = T g xs := tabAdd_ne h
theorem t12_ok (hT : Sound Try.prog T) : Sound Try.prog (t12 T) := tabAdd_sound hT fun x h => rows_pf hT x h
noncomputable def t13 (T : Tab) : Tab := tabAdd T 13 (fun x : List (List UInt8) => few x) (fun x => [.sl (x.map .str) x.length]) (fun x => .tup [.sl (bytesAV (rowsB x)) (rowsB x).length, .int .i64 0])
@[simp] theorem t13_eq (x : List (List UInt8)) (h : few x) : t13 T 13 [.sl (x.map .str) x.length] = some (.tup [.sl (bytesAV (rowsB x)) (rowsB x).length, .int .i64 0]) := tabAdd_eq (a := x) (by intro a b; simp [strs_inj]; intro h1; subst h1; first | done | rfl | simp) h rfl
@[simp] theorem t13_ne {g : Nat} {xs : List AV} (h : g ≠ 13) : t13 T g xs = T g xs := tabAdd_ne h
theorem t13_ok (hT : Sound Try.prog T) : Sound Try.prog (t13 T) := tabAdd_sound hT fun x h => rrows_pf hT x h
end Go.Proofs.Ytmolcbipiiimgaa
