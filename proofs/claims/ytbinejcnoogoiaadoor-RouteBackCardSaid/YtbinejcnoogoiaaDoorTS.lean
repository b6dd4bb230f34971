/- The library's cut and joined texts are the pieces. No program in it. -/
import Derived.Test.YtbinejcnoogoiaaDoorTM
import Derived.Lib.SplitLaws
import Derived.Lib.IndexBytes
import Derived.Lib.Join
set_option linter.unusedVariables false
set_option linter.unusedSimpArgs false
namespace Go.Proofs.YtbinejcnoogoiaaDoor.Pad.Route
theorem index_has (c : UInt8) : ∀ l : List UInt8, decide (0 ≤ Lib.indexByte l c) = l.contains c
  | [] => rfl
  | b :: l => by
    have ih := index_has c l
    have hge := Lib.indexByte_ge l c
    unfold Lib.indexByte
    by_cases h : b = c
    · subst h; simp
    · rw [List.contains_cons, ← ih]
      have h1 : (b == c) = false := by simpa using h
      have h2 : (c == b) = false := by simpa using Ne.symm h
      rw [h1, h2]
      by_cases hm : Lib.indexByte l c = -1
      · simp [hm]
      · simp [hm]
        omega
theorem index_at (c : UInt8) (r : List UInt8) : ∀ p : List UInt8, c ∉ p → Lib.indexByte (p ++ c :: r) c = p.length
  | [], _ => by simp [Lib.indexByte]
  | b :: p, h => by
    have ih := index_at c r p (fun e => h (List.mem_cons_of_mem _ e))
    have h1 : (b == c) = false := by
      have : ¬ b = c := fun e => h (by simp [e])
      simpa using this
    rw [List.cons_append, Lib.indexByte, h1, ih]
    have : ((p.length : Int) == -1) = false := by simp
    rw [this]
    simp
theorem first_slash : ∀ l : List UInt8, 47 ∉ l ∨ ∃ p r, l = p ++ 47 :: r ∧ 47 ∉ p
  | [] => .inl (by simp)
  | b :: l => by
    by_cases h : b = 47
    · exact .inr ⟨[], l, by simp [h], by simp⟩
    · rcases first_slash l with h1 | ⟨p, r, h1, h2⟩
      · exact .inl (by simp [h1, Ne.symm h])
      · exact .inr ⟨b :: p, r, by simp [h1], by simp [h2, Ne.symm h]⟩
theorem split_pieces : ∀ (n : Nat) (s : List UInt8), s.length = n → Lib.splitK [47] 0 (s.count 47) s = pieces s := by
  intro n
  induction n using Nat.strongRecOn with
  | _ n ih =>
    intro s hs
    rcases first_slash s with h | ⟨p, r, rfl, h⟩
    · rw [List.count_eq_zero_of_not_mem h, pieces_no s h]; rfl
    · have hc : (p ++ 47 :: r).count 47 = r.count 47 + 1 := by
        rw [List.count_append, List.count_eq_zero_of_not_mem h, List.count_cons_self]; omega
      have hi : Lib.index (p ++ 47 :: r) [47] = p.length := by rw [Lib.index_one, index_at 47 r p h]
      rw [hc, pieces_app p r h]
      unfold Lib.splitK
      rw [hi, if_neg (by simp)]
      have hr := ih r.length (by simp at hs; omega) r rfl
      simp only [Int.toNat_natCast, Nat.add_zero, List.length_singleton, List.take_left']
      congr 1
      rw [← hr]
      congr 1
      rw [List.drop_append, List.drop_eq_nil_of_le (by omega)]
      simp
theorem pieces_B (s : ByteArray) : (Lib.splitB ⟨#[47]⟩ 0 (Lib.countB s ⟨#[47]⟩) s).map (·.data.toList) = pieces s.data.toList := by
  rw [Lib.splitB_data]
  show Lib.splitK [47] 0 (Lib.count s.data.toList [47]) s.data.toList = _
  rw [Lib.count_one]
  exact split_pieces _ _ rfl
theorem join_kit : ∀ ps : List (List UInt8), Lib.join ps [47] = joinL ps
  | [] => rfl
  | [p] => Lib.join_one p [47]
  | p :: q :: ps => by
    rw [join_cons (by simp), ← join_kit (q :: ps)]
    rw [Lib.join_cons, Lib.join_cons]
    simp [Lib.joinTail]
end Go.Proofs.YtbinejcnoogoiaaDoor.Pad.Route
