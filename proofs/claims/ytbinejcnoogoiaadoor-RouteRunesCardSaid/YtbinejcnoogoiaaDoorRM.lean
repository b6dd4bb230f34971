/- Runes of a text, as the document reckons them. -/
import Derived.Test.YtbinejcnoogoiaaDoorE19
set_option linter.unusedVariables false
set_option linter.unusedSimpArgs false
namespace Go.Proofs.YtbinejcnoogoiaaDoor.Pad.Runes
def at' (l : List UInt8) (i : Nat) : Nat := (l.getD i 0).toNat
def tl (l : List UInt8) (i : Nat) : Bool := decide (i < l.length) && decide (128 ≤ at' l i) && decide (at' l i < 192)
/-- The rune at a place, or -1, and how many bytes it has. -/
def nx (l : List UInt8) (i : Nat) : Int × Nat :=
  if at' l i < 128 then (at' l i, 1)
  else if at' l i / 32 = 6 ∧ tl l (i + 1) = true ∧ 128 ≤ 64 * (at' l i - 192) + (at' l (i + 1) - 128) then ((64 * (at' l i - 192) + (at' l (i + 1) - 128) : Nat), 2)
  else if at' l i / 16 = 14 ∧ tl l (i + 1) = true ∧ tl l (i + 2) = true ∧ 2048 ≤ 4096 * (at' l i - 224) + 64 * (at' l (i + 1) - 128) + (at' l (i + 2) - 128) ∧
      (4096 * (at' l i - 224) + 64 * (at' l (i + 1) - 128) + (at' l (i + 2) - 128) < 55296 ∨ 57343 < 4096 * (at' l i - 224) + 64 * (at' l (i + 1) - 128) + (at' l (i + 2) - 128)) then
    ((4096 * (at' l i - 224) + 64 * (at' l (i + 1) - 128) + (at' l (i + 2) - 128) : Nat), 3)
  else if at' l i / 8 = 30 ∧ tl l (i + 1) = true ∧ tl l (i + 2) = true ∧ tl l (i + 3) = true ∧ 65536 ≤ 262144 * (at' l i - 240) + 4096 * (at' l (i + 1) - 128) + 64 * (at' l (i + 2) - 128) + (at' l (i + 3) - 128) ∧
      262144 * (at' l i - 240) + 4096 * (at' l (i + 1) - 128) + 64 * (at' l (i + 2) - 128) + (at' l (i + 3) - 128) ≤ 1114111 then
    ((262144 * (at' l i - 240) + 4096 * (at' l (i + 1) - 128) + 64 * (at' l (i + 2) - 128) + (at' l (i + 3) - 128) : Nat), 4)
  else (-1, 1)
theorem get!_at (l : List UInt8) (i : Nat) : ((ByteArray.mk l.toArray).get! i).toNat = at' l i := by
  unfold at'
  congr 1
  show l.toArray[i]! = _
  rw [List.getD_eq_getElem?_getD]
  simp [getElem!_def]
  cases l[i]? <;> rfl
theorem dec_nx (l : List UInt8) (i : Nat) : dec l i = if (nx l i).1 < 0 then (65533, 1) else ((nx l i).1.toNat, (nx l i).2) := by
  have hb : ∀ k, at' l k < 256 := fun k => (l.getD k 0).toNat_lt
  have h0 := hb i; have h1 := hb (i + 1); have h2 := hb (i + 2); have h3 := hb (i + 3)
  have hs : (ByteArray.mk l.toArray).size = l.length := by simp [ByteArray.size]
  have c1 : ∀ k, (decide (i + k < l.length) && at' l (i + k) / 64 == 2) = tl l (i + k) := fun k => by
    have : (at' l (i + k) / 64 == 2) = (decide (128 ≤ at' l (i + k)) && decide (at' l (i + k) < 192)) := by
      rw [Bool.eq_iff_iff]; simp; omega
    rw [this, tl, Bool.and_assoc]
  have d1 : tl l (i + 1) = true → 128 ≤ at' l (i + 1) ∧ at' l (i + 1) < 192 := fun h => by simp [tl] at h; omega
  have d2 : tl l (i + 2) = true → 128 ≤ at' l (i + 2) ∧ at' l (i + 2) < 192 := fun h => by simp [tl] at h; omega
  have d3 : tl l (i + 3) = true → 128 ≤ at' l (i + 3) ∧ at' l (i + 3) < 192 := fun h => by simp [tl] at h; omega
  unfold dec Utf8.decode
  simp only [get!_at, hs, c1, Nat.add_zero, Utf8.valid, Utf8.runeError]
  unfold nx
  generalize at' l i = a0 at *
  generalize at' l (i + 1) = a1 at *
  generalize at' l (i + 2) = a2 at *
  generalize at' l (i + 3) = a3 at *
  by_cases e0 : a0 < 128
  · simp [e0]; omega
  · simp only [e0, if_false]
    cases t1 : tl l (i + 1)
    · simp
    · have r1 := d1 t1
      have q1 : a1 % 64 = a1 - 128 := by omega
      by_cases k6 : a0 / 32 = 6
      · have q0 : a0 % 32 = a0 - 192 := by omega
        have n14 : ¬ a0 / 16 = 14 := by omega
        have n30 : ¬ a0 / 8 = 30 := by omega
        rw [q0, q1]
        simp only [Nat.mul_comm (a0 - 192)]
        generalize hc : 64 * (a0 - 192) + (a1 - 128) = c
        have hc0 : ¬ (c : Int) < 0 := by omega
        by_cases ge : 128 ≤ c
        · simp [k6, ge, hc0]
        · simp [k6, n14, n30, ge]
      · cases t2 : tl l (i + 2)
        · simp [k6]
        · have r2 := d2 t2
          have q2 : a2 % 64 = a2 - 128 := by omega
          by_cases k14 : a0 / 16 = 14
          · have q0 : a0 % 16 = a0 - 224 := by omega
            have n30 : ¬ a0 / 8 = 30 := by omega
            rw [q0, q1, q2]
            simp only [Nat.mul_comm (a0 - 224), Nat.mul_comm (a1 - 128)]
            generalize hc : 4096 * (a0 - 224) + 64 * (a1 - 128) + (a2 - 128) = c
            have hc' : c < 65536 := by omega
            by_cases ge : 2048 ≤ c ∧ (c < 55296 ∨ 57343 < c)
            · have ge2 : ((c : Int) < 55296 ∨ 57344 ≤ (c : Int) ∧ (c : Int) ≤ 1114111) := by omega
              have hc0 : ¬ (c : Int) < 0 := by omega
              simp [k6, k14, ge.1, ge.2, ge2, hc0]
            · simp [k6, k14, n30, ge]
              intro h1; omega
          · cases t3 : tl l (i + 3)
            · simp [k6, k14]
            · have r3 := d3 t3
              have q3 : a3 % 64 = a3 - 128 := by omega
              by_cases k30 : a0 / 8 = 30
              · have q0 : a0 % 8 = a0 - 240 := by omega
                rw [q0, q1, q2, q3]
                simp only [Nat.mul_comm (a0 - 240), Nat.mul_comm (a1 - 128), Nat.mul_comm (a2 - 128)]
                generalize hc : 262144 * (a0 - 240) + 4096 * (a1 - 128) + 64 * (a2 - 128) + (a3 - 128) = c
                by_cases ge : 65536 ≤ c ∧ c ≤ 1114111
                · have ge2 : ((c : Int) < 55296 ∨ 57344 ≤ (c : Int) ∧ (c : Int) ≤ 1114111) := by omega
                  have hc0 : ¬ (c : Int) < 0 := by omega
                  simp [k6, k14, k30, ge.1, ge.2, ge2, hc0]
                · simp [k6, k14, k30, ge]
                  intro h1; omega
              · simp [k6, k14, k30]
end Go.Proofs.YtbinejcnoogoiaaDoor.Pad.Runes
