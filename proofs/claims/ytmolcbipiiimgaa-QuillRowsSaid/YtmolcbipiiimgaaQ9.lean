import Derived.Test.YtmolcbipiiimgaaQ3
import Derived.Test.YtmolcbipiiimgaaQ8
namespace Go.Proofs.Ytmolcbipiiimgaa
open Go.Proofs.Ytmolcbipiiimgaa.Pad
theorem numOf_cons (b : UInt8) (l : List UInt8) : numOf (b :: l) = b.toNat * 256 ^ l.length + numOf l := by
  have go : ∀ (l : List UInt8) (n : Nat), l.foldl (fun n b => 256 * n + b.toNat) n = n * 256 ^ l.length + numOf l := by
    intro l
    induction l with
    | nil => intro n; simp [numOf]
    | cons c l ih =>
      intro n
      rw [List.foldl_cons, ih]
      show _ = n * 256 ^ (l.length + 1) + l.foldl (fun n b => 256 * n + b.toNat) (256 * 0 + c.toNat)
      rw [ih, Nat.pow_succ, Nat.mul_zero, Nat.zero_add, Nat.add_mul, Nat.add_assoc, Nat.mul_comm 256 n, Nat.mul_assoc, Nat.mul_comm 256]
  show l.foldl _ (256 * 0 + b.toNat) = _
  rw [go, Nat.mul_zero, Nat.zero_add]
theorem numOf_be (v : Nat) : ∀ k, numOf (beB k v) = v % 256 ^ k
  | 0 => by simp [beB, numOf, Nat.mod_one]
  | k + 1 => by
    rw [beB, numOf_cons, beB_len, numOf_be v k, UInt8.toNat_ofNat', show (2 ^ 8 : Nat) = 256 from rfl, Nat.mod_mod, Nat.pow_succ, Nat.mod_mul, Nat.mul_comm (256 ^ k)]
    omega
theorem takeNum_be (p r : List UInt8) (k v : Nat) (h1 : 1 ≤ k) (h8 : k ≤ 8) : takeNum (p ++ beB k v ++ r) p.length 0 k = (v % 256 ^ k, (p.length : Int) + k, 0) := by
  unfold takeNum
  rw [if_neg (by simp), if_neg (by simp; omega), if_neg (by simp; omega)]
  have : ((p ++ beB k v ++ r).drop ((p.length : Int)).toNat).take ((k : Int)).toNat = beB k v := by
    rw [Int.toNat_natCast, Int.toNat_natCast, List.append_assoc, List.drop_left, List.take_left' (by simp)]
  rw [this, numOf_be]
theorem takeRow_row (p s r : List UInt8) (h : s.length ≤ 65535) : takeRow (p ++ rowB s ++ r) p.length 0 = (s, (p.length : Int) + 2 + s.length, 0) := by
  have e := takeNum_be p (s ++ r) 2 s.length (by omega) (by omega)
  have e1 : s.length % 256 ^ 2 = s.length := Nat.mod_eq_of_lt (by omega)
  rw [e1] at e
  have e2 : p ++ rowB s ++ r = p ++ beB 2 s.length ++ (s ++ r) := by simp [rowB]
  rw [e2]
  unfold takeRow
  rw [show ((2 : Nat) : Int) = 2 from rfl] at e
  rw [e, if_neg (by simp), if_neg (by simp; omega)]
  simp only [Prod.mk.injEq, and_true]
  rw [show ((p.length : Int) + 2 + s.length).toNat = p.length + 2 + s.length by omega, show ((p.length : Int) + 2).toNat = p.length + 2 by omega]
  rw [show p ++ beB 2 s.length ++ (s ++ r) = (p ++ beB 2 s.length ++ s) ++ r by simp, List.take_left' (by simp; omega), List.drop_left' (by simp)]
theorem rowsB_cons (s : List UInt8) (ls : List (List UInt8)) : rowsB (s :: ls) = rowB s ++ rowsB ls := by simp [rowsB]
theorem rowsB_ge : ∀ ls : List (List UInt8), ls.length ≤ (rowsB ls).length
  | [] => by simp
  | s :: ls => by
    have := rowsB_ge ls
    rw [rowsB_cons]; simp; omega
theorem splitGo_rows : ∀ (rest : List (List UInt8)) (p : List UInt8) (acc : List (List UInt8)) (f : Nat), (∀ s ∈ rest, s.length ≤ 65535) → acc.length + rest.length ≤ 1024 → rest.length < f →
    splitGo (p ++ rowsB rest) f p.length acc = (acc ++ rest, 0)
  | [], p, acc, f + 1, _, _, _ => by
    unfold splitGo
    rw [if_pos (by simp [rowsB])]; simp
  | s :: rest, p, acc, f + 1, h, hl, hf => by
    have h1 := h s (List.mem_cons_self ..)
    simp only [List.length_cons] at hl hf
    unfold splitGo
    have e := takeRow_row p s (rowsB rest) h1
    rw [List.append_assoc, ← rowsB_cons] at e
    rw [if_neg (by rw [rowsB_cons]; simp; omega), if_neg (by omega), e, if_neg (by simp)]
    have ih := splitGo_rows rest (p ++ rowB s) (acc ++ [s]) f (fun u hu => h u (List.mem_cons_of_mem _ hu)) (by simp; omega) (by omega)
    rw [List.append_assoc, ← rowsB_cons] at ih
    simp only
    rw [show (p.length : Int) + 2 + s.length = ((p ++ rowB s).length : Nat) by simp; omega, ih]
    simp
theorem splitOf_rows (ls : List (List UInt8)) (h : ∀ s ∈ ls, s.length ≤ 65535) (hl : ls.length ≤ 1024) : splitOf (rowsB ls) = (ls, 0) := by
  have := splitGo_rows ls [] [] ((rowsB ls).length + 1) h (by simpa using hl) (by have := rowsB_ge ls; omega)
  simpa [splitOf] using this
theorem splitGo_cut : ∀ (rest : List (List UInt8)) (p : List UInt8) (acc : List (List UInt8)) (f : Nat), rest ≠ [] → (∀ s ∈ rest, s.length ≤ 65535) → acc.length + rest.length ≤ 1024 → rest.length < f → 
    splitGo (p ++ (rowsB rest).take ((rowsB rest).length - 1)) f p.length acc = ([], 3) ∨ ((rowsB rest).length = 2 ∧ False)
  | [s], p, acc, f + 1, _, h, hl, hf => by
    left
    have h1 := h s (List.mem_cons_self ..)
    simp only [List.length_cons, List.length_nil] at hl
    have e0 : rowsB [s] = rowB s := by simp [rowsB]
    rw [e0]
    have el : (rowB s).length - 1 = 1 + s.length := by rw [rowB_len]; omega
    rw [el]
    unfold splitGo
    have tl : ((rowB s).take (1 + s.length)).length = 1 + s.length := by simp
    rw [if_neg (by rw [List.length_append, tl]; omega), if_neg (by omega)]
    have et : takeRow (p ++ (rowB s).take (1 + s.length)) p.length 0 = ([], (p.length : Int), 3) := by
      by_cases hs : s.length = 0
      · have en : takeNum (p ++ (rowB s).take (1 + s.length)) p.length 0 2 = (0, (p.length : Int), 3) := by
          unfold takeNum
          rw [if_neg (by simp), if_neg (by rw [List.length_append, tl]; omega), if_pos (by rw [List.length_append, tl]; omega)]
        unfold takeRow
        rw [en, if_pos (by simp)]
      · have e1 : (rowB s).take (1 + s.length) = beB 2 s.length ++ s.take (s.length - 1) := by
          unfold rowB
          rw [List.take_append, List.take_of_length_le (by simp; omega), beB_len, show 1 + s.length - 2 = s.length - 1 by omega]
        have e := takeNum_be p (s.take (s.length - 1)) 2 s.length (by omega) (by omega)
        have e2 : s.length % 256 ^ 2 = s.length := Nat.mod_eq_of_lt (by omega)
        rw [e2, show ((2 : Nat) : Int) = 2 from rfl] at e
        rw [e1, ← List.append_assoc]
        unfold takeRow
        rw [e, if_neg (by simp), if_pos (by simp; omega)]
    rw [et, if_pos (by simp)]
  | s :: u :: rest, p, acc, f + 1, _, h, hl, hf => by
    left
    have h1 := h s (List.mem_cons_self ..)
    simp only [List.length_cons] at hl hf
    have e0 : (rowsB (s :: u :: rest)).take ((rowsB (s :: u :: rest)).length - 1) = rowB s ++ (rowsB (u :: rest)).take ((rowsB (u :: rest)).length - 1) := by
      have : 2 ≤ (rowsB (u :: rest)).length := by rw [rowsB_cons]; simp; omega
      rw [rowsB_cons s, List.take_append, List.take_of_length_le (by rw [List.length_append]; omega), List.length_append]
      congr 2; omega
    rw [e0]
    unfold splitGo
    have e := takeRow_row p s ((rowsB (u :: rest)).take ((rowsB (u :: rest)).length - 1)) h1
    rw [List.append_assoc] at e
    rw [if_neg (by simp; omega), if_neg (by omega), e, if_neg (by simp)]
    have ih := splitGo_cut (u :: rest) (p ++ rowB s) (acc ++ [s]) f (by simp) (fun v hv => h v (List.mem_cons_of_mem _ hv)) (by simp; omega) (by simp; omega)
    rcases ih with ih | ⟨_, hf⟩
    · rw [List.append_assoc] at ih
      simp only
      rw [show (p.length : Int) + 2 + s.length = ((p ++ rowB s).length : Nat) by simp; omega, ih]
    · exact hf.elim
theorem splitOf_cut (ls : List (List UInt8)) (h : ∀ s ∈ ls, s.length ≤ 65535) (hl : ls.length ≤ 1024) (hne : ls ≠ []) : splitOf ((rowsB ls).take ((rowsB ls).length - 1)) = ([], 3) := by
  have h0 := rowsB_ge ls
  have h1 : 1 ≤ ls.length := List.length_pos_iff.2 hne
  have hf : ls.length < ((rowsB ls).take ((rowsB ls).length - 1)).length + 1 := by
    have : 2 * ls.length ≤ (rowsB ls).length := by
      clear h0 h1 hl h hne
      induction ls with
      | nil => simp
      | cons s ls ih => rw [rowsB_cons]; simp; omega
    simp; omega
  have := splitGo_cut ls [] [] _ hne h (by simpa using hl) hf
  simpa [splitOf] using this
end Go.Proofs.Ytmolcbipiiimgaa
