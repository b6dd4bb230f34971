/- A character written anew is what it was. No program in it. -/
import Derived.Test.YtbinejcnoogoiaaDoorTM
import Derived.Lib.RuneBytes
set_option linter.unusedVariables false
set_option linter.unusedSimpArgs false
namespace Go.Proofs.YtbinejcnoogoiaaDoor.Pad.Route
open Go.Proofs.YtbinejcnoogoiaaDoor.Pad.Runes
theorem b8 (x : Int) (b : UInt8) (h : x = b.toNat) : x.toNat.toUInt8 = b := by
  apply UInt8.toNat_inj.1
  have := b.toNat_lt
  rw [h, Int.toNat_natCast]
  show b.toNat % 256 = _
  omega
theorem two_of {d : List UInt8} (h : 2 ≤ d.length) : ∃ a b r, d = a :: b :: r := by
  cases d with
  | nil => simp at h
  | cons a d => cases d with
    | nil => simp at h
    | cons b d => exact ⟨a, b, d, rfl⟩
theorem three_of {d : List UInt8} (h : 3 ≤ d.length) : ∃ a b c r, d = a :: b :: c :: r := by
  obtain ⟨a, b, r, rfl⟩ := two_of (Nat.le_trans (by decide) h)
  cases r with
  | nil => simp at h
  | cons c r => exact ⟨a, b, c, r, rfl⟩
theorem enc_head (d : List UInt8) (hd : d ≠ []) (hok : okc (nx d 0).1 = true) : Lib.encodeRune (nx d 0).1 = d.take (nx d 0).2 := by
  have hle := nx_le d 0 (List.length_pos_iff.2 hd)
  revert hok hle
  generalize hn : nx d 0 = p
  rw [nx] at hn
  intro hok hle
  simp only [Nat.zero_add] at hn hle
  repeat' split at hn
  · rename_i g
    subst hn
    match d, hd with
    | a :: d, _ =>
      simp only [at', List.getD_cons_zero] at g ⊢
      rw [Lib.encodeRune, Lib.encodeRuneZ_one (by omega) (by omega)]
      simp only [List.map_cons, List.map_nil, List.take_succ_cons, List.take_zero]
      rw [b8 _ a rfl]
  · rename_i g0 g
    subst hn
    · obtain ⟨a, b, d, rfl⟩ := two_of hle
      simp only [tl, at', List.getD_cons_zero, List.getD_cons_succ, Bool.and_eq_true, decide_eq_true_eq] at g g0 ⊢
      rw [Lib.encodeRune, Lib.encodeRuneZ_two (by omega) (by omega)]
      simp only [List.map_cons, List.map_nil, List.take_succ_cons, List.take_zero]
      rw [b8 _ a (by omega), b8 _ b (by omega)]
  · rename_i g0 g1 g
    subst hn
    · obtain ⟨a, b, c, d, rfl⟩ := three_of hle
      simp only [tl, at', List.getD_cons_zero, List.getD_cons_succ, Bool.and_eq_true, decide_eq_true_eq] at g g0 ⊢
      rw [Lib.encodeRune, Lib.encodeRuneZ_three (by omega)]
      simp only [List.map_cons, List.map_nil, List.take_succ_cons, List.take_zero]
      rw [b8 _ a (by omega), b8 _ b (by omega), b8 _ c (by omega)]
  · rename_i g0 g1 g2 g
    subst hn
    simp [okc] at hok
    omega
  · subst hn
    simp [okc] at hok
theorem enc_tok (l : List UInt8) (i : Nat) (h : i < l.length) (hok : okc (nx l i).1 = true) : Lib.encodeRune (nx l i).1 = (l.drop i).take (nx l i).2 := by
  rw [nx_drop] at hok ⊢
  exact enc_head _ (by intro e; have := congrArg List.length e; simp at this; omega) hok
end Go.Proofs.YtbinejcnoogoiaaDoor.Pad.Route
