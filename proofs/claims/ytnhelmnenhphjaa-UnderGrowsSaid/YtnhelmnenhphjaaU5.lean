/- Children of a list and of its halves. -/
import Derived.Test.YtnhelmnenhphjaaU4
set_option linter.unusedVariables false
set_option linter.unusedSimpArgs false
namespace Go.Proofs.Ytnhelmnenhphjaa
open Go.Proofs.Ytnhelmnenhphjaa.Pad Go.Proofs.Ytnhelmnenhphjaa.Pad.Under Go.Sort
theorem few_some {l m : List Tx} (h : ∀ x ∈ m, x ∈ l) (hm : m.length ≤ 1000000) (hf : few l) : m.length ≤ 1000000 ∧ ∀ x ∈ m, x.length ≤ 1000000 := ⟨hm, fun x hx => by have := hf.2 x (h x hx); omega⟩
set_option maxHeartbeats 4000000 in
theorem grows_main (t : Tx) (l A X Y : List Tx) (n : UInt8) (k : Nat) (hl : l.length ≤ 9223372036854775807) (hs : ¬ 200 < (t.length : Int)) (hf : few l) (hmod : (n.toNat : Int).tmod ((l.length : Int) + 1) = (k : Int)) (hk : k ≤ l.length)
    (e0 : T21 21 [.str t, .sl (l.map .str) l.length] = some (.row 1 (A.map .str) A.length))
    (e1 : T21 21 [.str t, .sl ((l.map .str).take k) k] = some (.row 1 (X.map .str) X.length))
    (e2 : T21 21 [.str t, .sl ((l.map .str).drop k) (l.length - k)] = some (.row 1 (Y.map .str) Y.length))
    (e3 : T21 21 [.str t, .sl (l.map .str ++ l.map .str) (l.length + l.length)] = some (.row 1 (A.map .str) A.length))
    (hA : A.length ≤ 1000000) (hX : X.length ≤ 1000000) (hY : Y.length ≤ 1000000)
    (half : ∀ x ∈ A, x ∈ X ∨ x ∈ Y) (rise : ∀ i (h : i + 1 < A.length), Op.bytesLess A[i] A[i + 1] = true) (cin : ∀ s ∈ l, be s t = true → child s t ∈ A) :
    W T8 rc7 (fun e s => match e with | .exit _ => False | _ => okRes s rs7 ∧ resAV s rs7 = .bool true) (initSt 0 [.str t, .sl (l.map .str) l.length, .int .u8 n.toNat]) := by
  have hn := n.toNat_lt
  have h40 := hf.1
  have hk0 : ¬ ((l.length : Int) + 1 = 0) := by omega
  have hk1 : (k : Int) ≤ l.length := by omega
  have ht : (l.map AV.str).take l.length = l.map .str := List.take_of_length_le (by simp)
  have e4 := T20_eq A A hA
  simp only [decide_true] at e4
  simp [rc7, rs7, hs, hl, hf, hmod, hk0, hk1, e0, e1, e2, ht, -T21_eq]
  refine ⟨by omega, by omega, ?_⟩
  refine W_forU A.length (fun _ => True) (fun k => [(11, .int .i64 k)]) trivial (by simp) (fun i hi _ => ?_) fun _ => ?_
  · have hm := half A[i] (List.getElem_mem hi)
    have h3 : (0 : Int) < i ↔ 0 < i := by omega
    rcases Nat.eq_zero_or_pos i with rfl | h0
    · by_cases hx : A[0] ∈ X
      · simp [hi, hx, hX, hY]
      · have hy := hm.resolve_left hx
        simp [hi, hx, hy, hX, hY]
    · obtain ⟨j, rfl⟩ : ∃ j, i = j + 1 := ⟨i - 1, by omega⟩
      have hr := rise j hi
      have hj : j < A.length := by omega
      have hj1 : (0 : Int) < j + 1 := by omega
      have hj3 : (j : Int) + 1 < A.length := by omega
      have hj2 : ((j : Int) + 1 - 1) = j := by omega
      by_cases hx : A[j + 1] ∈ X
      · simp [hi, hj, hj1, hj2, hj3, hr, hx, hX, hY]
        omega
      · have hy := hm.resolve_left hx
        simp [hi, hj, hj1, hj2, hj3, hr, hx, hy, hX, hY]
        omega
  · simp
    refine W_forU l.length (fun _ => True) (fun k => [(12, .int .i64 k)]) trivial (by simp) (fun i hi _ => ?_) fun _ => ?_
    · have q := T9_eq l[i] t (by have := hf.2 _ (List.getElem_mem hi); omega)
      have c := cin l[i] (List.getElem_mem hi)
      cases hb : be l[i] t
      · have hc : child l[i] t = [] := by unfold child; rw [hb]; rfl
        rw [hb, hc] at q
        simp [hi, q, hb]
        omega
      · have c := c hb
        rw [hb] at q
        simp [hi, q, hb, c, hA]
        omega
    · simp [e3, e4, -T21_eq]
      omega
theorem grows_pf (t : Tx) (l : List Tx) (n : UInt8) (hl : l.length ≤ 9223372036854775807) : PFx Try.prog 7 [.str t, .sl (l.map .str) l.length, .int .u8 n.toNat] (.bool true) := by
  refine PFx_of_W (rc := rc7) (rs := rs7) Try.func7 rfl T8_ok hm (by kernel_rfl) (by kernel_rfl) (by simp [Try.ntmps7]) ?_
  by_cases hs : 200 < (t.length : Int)
  · simp [rc7, rs7, hs]
  · by_cases hf : few l
    · have h40 := hf.1
      obtain ⟨k, hk⟩ : ∃ k, k = n.toNat % (l.length + 1) := ⟨_, rfl⟩
      have hkl : k ≤ l.length := by have := Nat.mod_lt n.toNat (show 0 < l.length + 1 by omega); rw [hk]; omega
      have hmod : (n.toNat : Int).tmod ((l.length : Int) + 1) = (k : Int) := by
        rw [Int.tmod_eq_emod_of_nonneg (Int.natCast_nonneg _), hk, Int.natCast_emod, Int.natCast_add]; rfl
      have e0 := T21_eq t l (few_some (fun _ h => h) (by omega) hf)
      have e1 := T21_eq t (l.take k) (few_some (fun _ h => List.mem_of_mem_take h) (by simp; omega) hf)
      have e2 := T21_eq t (l.drop k) (few_some (fun _ h => List.mem_of_mem_drop h) (by simp; omega) hf)
      have e3 := T21_eq t (l ++ l) (few_some (fun x h => (List.mem_append.1 h).elim id id) (by simp; omega) hf)
      rw [ord_twice, List.map_append, List.length_append] at e3
      rw [List.map_take, show (l.take k).length = k by rw [List.length_take]; omega] at e1
      rw [List.map_drop, List.length_drop] at e2
      have g0 := ord_len (kids t l); have g1 := kids_len t l
      have g2 := ord_len (kids t (l.take k)); have g3 := kids_len t (l.take k)
      have g4 := ord_len (kids t (l.drop k)); have g5 := kids_len t (l.drop k)
      rw [List.length_take] at g3
      rw [List.length_drop] at g5
      exact grows_main t l _ _ _ n k hl hs hf hmod hkl e0 e1 e2 e3 (by omega) (by omega) (by omega) (fun x hx => by
        rw [← List.take_append_drop k l] at hx
        exact ord_halves hx) (fun i h => ord_get_lt h) (fun s hs hb => child_in hs hb)
    · simp [rc7, rs7, hs, hl, hf]
end Go.Proofs.Ytnhelmnenhphjaa

