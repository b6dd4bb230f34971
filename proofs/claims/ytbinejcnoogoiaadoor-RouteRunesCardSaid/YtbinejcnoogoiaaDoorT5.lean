/- A character at a place, as the document reckons it; eight bytes at once. -/
import Derived.Test.YtbinejcnoogoiaaDoorT4
set_option linter.unusedVariables false
set_option linter.unusedSimpArgs false
namespace Go.Proofs.YtbinejcnoogoiaaDoor
open Go.Proofs.YtbinejcnoogoiaaDoor.Pad Go.Proofs.YtbinejcnoogoiaaDoor.Pad.Route Go.Proofs.YtbinejcnoogoiaaDoor.Pad.Runes Go.Proofs.YtbinejcnoogoiaaDoor.Pad.Utf
theorem pf31 (l : List UInt8) (i : Nat) (h : l.length ≤ 1000000 ∧ i ≤ 1000010) : PFx Tryd.prog 31 [.str l, .int .i64 i] (.bool (tl l i)) := by
  refine PFx_of_W (rc := rc31) (rs := rs31) Tryd.func31 rfl T9_ok hm (by kernel_rfl) (by kernel_rfl) (by simp [Tryd.ntmps31]) ?_
  by_cases h1 : i < l.length
  · have e : (l[i]?.getD 0).toNat = at' l i := by simp [at', List.getD_eq_getElem?_getD]
    have e' : l[i].toNat = at' l i := by simp [at', List.getD_eq_getElem?_getD, h1]
    have e2 : ((at' l i : Int) < 192) = (at' l i < 192) := by apply propext; omega
    have e3 : (128 ≤ (at' l i : Int)) = (128 ≤ at' l i) := by apply propext; omega
    by_cases h2 : 128 ≤ at' l i
    · simp [rc31, rs31, h1, tl, e, e', h2, e2, e3]
      try omega
    · simp [rc31, rs31, h1, tl, e, e', h2, e2, e3]
      try omega
  · simp [rc31, rs31, h1, tl]
    try omega
noncomputable def T31 : Tab := tabAdd T9 31 (fun z : (List UInt8) × Nat => z.1.length ≤ 1000000 ∧ z.2 ≤ 1000010) (fun z => [.str z.1, .int .i64 z.2]) (fun z => .bool (tl z.1 z.2))
@[simp] theorem T31_eq (l : List UInt8) (i : Nat) (h : l.length ≤ 1000000 ∧ i ≤ 1000010) : T31 31 [.str l, .int .i64 i] = some (.bool (tl l i)) := tabAdd_eq (a := (l, i)) (by simp +contextual [Int.natCast_inj]) h rfl
@[simp] theorem T31_ne {g : Nat} {xs : List AV} (h : g ≠ 31) : T31 g xs = T9 g xs := tabAdd_ne h
theorem T31_ok : Sound Tryd.prog T31 := tabAdd_sound T9_ok fun z h => pf31 z.1 z.2 h
theorem pf32 (l : List UInt8) (i : Nat) (h : l.length ≤ 1000000 ∧ i < l.length) : PFx Tryd.prog 32 [.str l, .int .i64 i] (.int .i64 ((at' l i : Int) - 128)) := by
  refine PFx_of_W (rc := rc32) (rs := rs32) Tryd.func32 rfl T31_ok hm (by kernel_rfl) (by kernel_rfl) (by simp [Tryd.ntmps32]) ?_
  have h1 := h.2
  have e' : l[i].toNat = at' l i := by simp [at', List.getD_eq_getElem?_getD, h1]
  have hb : at' l i < 256 := (l.getD i 0).toNat_lt
  simp [rc32, rs32, h1, e']
  omega
noncomputable def T32 : Tab := tabAdd T31 32 (fun z : (List UInt8) × Nat => z.1.length ≤ 1000000 ∧ z.2 < z.1.length) (fun z => [.str z.1, .int .i64 z.2]) (fun z => .int .i64 ((at' z.1 z.2 : Int) - 128))
@[simp] theorem T32_eq (l : List UInt8) (i : Nat) (h : l.length ≤ 1000000 ∧ i < l.length) : T32 32 [.str l, .int .i64 i] = some (.int .i64 ((at' l i : Int) - 128)) := tabAdd_eq (a := (l, i)) (by simp +contextual [Int.natCast_inj]) h rfl
@[simp] theorem T32_ne {g : Nat} {xs : List AV} (h : g ≠ 32) : T32 g xs = T31 g xs := tabAdd_ne h
theorem T32_ok : Sound Tryd.prog T32 := tabAdd_sound T31_ok fun z h => pf32 z.1 z.2 h
theorem tl_true {l : List UInt8} {k : Nat} (h : tl l k = true) : k < l.length ∧ 128 ≤ at' l k ∧ at' l k < 192 := by
  simp [tl] at h; omega
theorem pf22 (l : List UInt8) (i : Nat) (h : l.length ≤ 1000000 ∧ i < l.length) : PFx Tryd.prog 22 [.str l, .int .i64 i] (.tup [.int .i64 (nx l i).1, .int .i64 (nx l i).2]) := by
  refine PFx_of_W (rc := rc22) (rs := rs22) Tryd.func22 rfl T32_ok hm (by kernel_rfl) (by kernel_rfl) (by simp [Tryd.ntmps22]) ?_
  obtain ⟨h0, h1⟩ := h
  have e' : l[i].toNat = at' l i := by simp [at', List.getD_eq_getElem?_getD, h1]
  have b0 : at' l i < 256 := (l.getD i 0).toNat_lt
  have q1 : T31 31 [.str l, .int .i64 ((i : Int) + 1)] = some (.bool (tl l (i + 1))) := T31_eq l (i + 1) ⟨h0, by omega⟩
  have q2 : T31 31 [.str l, .int .i64 ((i : Int) + 2)] = some (.bool (tl l (i + 2))) := T31_eq l (i + 2) ⟨h0, by omega⟩
  have q3 : T31 31 [.str l, .int .i64 ((i : Int) + 3)] = some (.bool (tl l (i + 3))) := T31_eq l (i + 3) ⟨h0, by omega⟩
  have w1 : tl l (i + 1) = true → T32 32 [.str l, .int .i64 ((i : Int) + 1)] = some (.int .i64 ((at' l (i + 1) : Int) - 128)) := fun t => T32_eq l (i + 1) ⟨h0, (tl_true t).1⟩
  have w2 : tl l (i + 2) = true → T32 32 [.str l, .int .i64 ((i : Int) + 2)] = some (.int .i64 ((at' l (i + 2) : Int) - 128)) := fun t => T32_eq l (i + 2) ⟨h0, (tl_true t).1⟩
  have w3 : tl l (i + 3) = true → T32 32 [.str l, .int .i64 ((i : Int) + 3)] = some (.int .i64 ((at' l (i + 3) : Int) - 128)) := fun t => T32_eq l (i + 3) ⟨h0, (tl_true t).1⟩
  have r1 := @tl_true l (i + 1)
  have r2 := @tl_true l (i + 2)
  have r3 := @tl_true l (i + 3)
  have hr : at' l i < 128 ∨ (128 ≤ at' l i ∧ at' l i < 192) ∨ (192 ≤ at' l i ∧ at' l i < 224) ∨ (224 ≤ at' l i ∧ at' l i < 240) ∨ (240 ≤ at' l i ∧ at' l i < 248) ∨ 248 ≤ at' l i := by omega
  rcases hr with hr | hr | hr | hr | hr | hr
  · have f1 : (at' l i : Int) < 128 := by omega
    have hn : nx l i = (((at' l i : Nat) : Int), 1) := by rw [nx, if_pos hr]
    simp [rc22, rs22, h1, e', f1, hn]
    omega
  · have f1 : ¬ (at' l i : Int) < 128 := by omega
    have f2 : ¬ 192 ≤ (at' l i : Int) := by omega
    have f3 : ¬ 224 ≤ (at' l i : Int) := by omega
    have f4 : ¬ 240 ≤ (at' l i : Int) := by omega
    have hn : nx l i = (-1, 1) := by rw [nx, if_neg (by omega), if_neg (by omega), if_neg (by omega), if_neg (by omega)]
    simp [rc22, rs22, h1, e', f1, f2, f3, f4, hn]
    omega
  · have f1 : ¬ (at' l i : Int) < 128 := by omega
    have f2 : 192 ≤ (at' l i : Int) := by omega
    have g2 : (at' l i : Int) < 224 := by omega
    have f3 : ¬ 224 ≤ (at' l i : Int) := by omega
    have f4 : ¬ 240 ≤ (at' l i : Int) := by omega
    cases t1 : tl l (i + 1)
    · have hn : nx l i = (-1, 1) := by
        rw [nx, if_neg (by omega), if_neg (fun hh => by rw [t1] at hh; simp at hh), if_neg (by omega), if_neg (by omega)]
      simp [rc22, rs22, h1, e', f1, f2, g2, f3, f4, q1, t1, hn]
      omega
    · have r1 := r1 t1
      have w1 := w1 t1
      by_cases gc : 128 ≤ 64 * ((at' l i : Int) - 192) + ((at' l (i + 1) : Int) - 128)
      · have hn : nx l i = (64 * ((at' l i : Int) - 192) + ((at' l (i + 1) : Int) - 128), 2) := by
          rw [nx, if_neg (by omega), if_pos ⟨by omega, t1, by omega⟩]
          congr 1; omega
        simp [rc22, rs22, h1, e', f1, f2, g2, f3, f4, q1, t1, w1, gc, hn]
        omega
      · have hn : nx l i = (-1, 1) := by
          rw [nx, if_neg (by omega), if_neg (by omega), if_neg (by omega), if_neg (by omega)]
        simp [rc22, rs22, h1, e', f1, f2, g2, f3, f4, q1, t1, w1, gc, hn]
        omega
  · have f1 : ¬ (at' l i : Int) < 128 := by omega
    have f2 : 192 ≤ (at' l i : Int) := by omega
    have g2 : ¬ (at' l i : Int) < 224 := by omega
    have f3 : 224 ≤ (at' l i : Int) := by omega
    have g3 : (at' l i : Int) < 240 := by omega
    have f4 : ¬ 240 ≤ (at' l i : Int) := by omega
    cases t1 : tl l (i + 1)
    · have hn : nx l i = (-1, 1) := by
        rw [nx, if_neg (by omega), if_neg (by omega), if_neg (fun hh => by rw [t1] at hh; simp at hh), if_neg (by omega)]
      simp [rc22, rs22, h1, e', f1, f2, g2, f3, g3, f4, q1, t1, hn]
      omega
    · cases t2 : tl l (i + 2)
      · have hn : nx l i = (-1, 1) := by
          rw [nx, if_neg (by omega), if_neg (by omega), if_neg (fun hh => by rw [t2] at hh; simp at hh), if_neg (by omega)]
        simp [rc22, rs22, h1, e', f1, f2, g2, f3, g3, f4, q1, q2, t1, t2, hn]
        omega
      · have r1 := r1 t1; have r2 := r2 t2
        have w1 := w1 t1; have w2 := w2 t2
        generalize hc : 4096 * ((at' l i : Int) - 224) + 64 * ((at' l (i + 1) : Int) - 128) + ((at' l (i + 2) : Int) - 128) = c
        by_cases gc : 2048 ≤ c
        · by_cases gd : c < 55296
          · have hn : nx l i = (c, 3) := by
              rw [nx, if_neg (by omega), if_neg (by omega), if_pos ⟨by omega, t1, t2, by omega, by omega⟩]
              congr 1; omega
            simp [rc22, rs22, h1, e', f1, f2, g2, f3, g3, f4, q1, q2, t1, t2, w1, w2, hc, gc, gd, hn]
            omega
          · by_cases ge : 57343 < c
            · have hn : nx l i = (c, 3) := by
                rw [nx, if_neg (by omega), if_neg (by omega), if_pos ⟨by omega, t1, t2, by omega, by omega⟩]
                congr 1; omega
              simp [rc22, rs22, h1, e', f1, f2, g2, f3, g3, f4, q1, q2, t1, t2, w1, w2, hc, gc, gd, ge, hn]
              omega
            · have hn : nx l i = (-1, 1) := by
                rw [nx, if_neg (by omega), if_neg (by omega), if_neg (by omega), if_neg (by omega)]
              simp [rc22, rs22, h1, e', f1, f2, g2, f3, g3, f4, q1, q2, t1, t2, w1, w2, hc, gc, gd, ge, hn]
              omega
        · have hn : nx l i = (-1, 1) := by
            rw [nx, if_neg (by omega), if_neg (by omega), if_neg (by omega), if_neg (by omega)]
          simp [rc22, rs22, h1, e', f1, f2, g2, f3, g3, f4, q1, q2, t1, t2, w1, w2, hc, gc, hn]
          omega
  · have f1 : ¬ (at' l i : Int) < 128 := by omega
    have f2 : 192 ≤ (at' l i : Int) := by omega
    have g2 : ¬ (at' l i : Int) < 224 := by omega
    have f3 : 224 ≤ (at' l i : Int) := by omega
    have g3 : ¬ (at' l i : Int) < 240 := by omega
    have f4 : 240 ≤ (at' l i : Int) := by omega
    have g4 : (at' l i : Int) < 248 := by omega
    cases t1 : tl l (i + 1)
    · have hn : nx l i = (-1, 1) := by
        rw [nx, if_neg (by omega), if_neg (by omega), if_neg (by omega), if_neg (fun hh => by rw [t1] at hh; simp at hh)]
      simp [rc22, rs22, h1, e', f1, f2, g2, f3, g3, f4, g4, q1, t1, hn]
      omega
    · cases t2 : tl l (i + 2)
      · have hn : nx l i = (-1, 1) := by
          rw [nx, if_neg (by omega), if_neg (by omega), if_neg (by omega), if_neg (fun hh => by rw [t2] at hh; simp at hh)]
        simp [rc22, rs22, h1, e', f1, f2, g2, f3, g3, f4, g4, q1, q2, t1, t2, hn]
        omega
      · cases t3 : tl l (i + 3)
        · have hn : nx l i = (-1, 1) := by
            rw [nx, if_neg (by omega), if_neg (by omega), if_neg (by omega), if_neg (fun hh => by rw [t3] at hh; simp at hh)]
          simp [rc22, rs22, h1, e', f1, f2, g2, f3, g3, f4, g4, q1, q2, q3, t1, t2, t3, hn]
          omega
        · have r1 := r1 t1; have r2 := r2 t2; have r3 := r3 t3
          have w1 := w1 t1; have w2 := w2 t2; have w3 := w3 t3
          generalize hc : 262144 * ((at' l i : Int) - 240) + 4096 * ((at' l (i + 1) : Int) - 128) + 64 * ((at' l (i + 2) : Int) - 128) + ((at' l (i + 3) : Int) - 128) = c
          by_cases gc : 65536 ≤ c
          · by_cases gd : c ≤ 1114111
            · have hn : nx l i = (c, 4) := by
                rw [nx, if_neg (by omega), if_neg (by omega), if_neg (by omega), if_pos ⟨by omega, t1, t2, t3, by omega, by omega⟩]
                congr 1; omega
              simp [rc22, rs22, h1, e', f1, f2, g2, f3, g3, f4, g4, q1, q2, q3, t1, t2, t3, w1, w2, w3, hc, gc, gd, hn]
              omega
            · have hn : nx l i = (-1, 1) := by
                rw [nx, if_neg (by omega), if_neg (by omega), if_neg (by omega), if_neg (by omega)]
              simp [rc22, rs22, h1, e', f1, f2, g2, f3, g3, f4, g4, q1, q2, q3, t1, t2, t3, w1, w2, w3, hc, gc, gd, hn]
              omega
          · have hn : nx l i = (-1, 1) := by
              rw [nx, if_neg (by omega), if_neg (by omega), if_neg (by omega), if_neg (by omega)]
            simp [rc22, rs22, h1, e', f1, f2, g2, f3, g3, f4, g4, q1, q2, q3, t1, t2, t3, w1, w2, w3, hc, gc, hn]
            omega
  · have f1 : ¬ (at' l i : Int) < 128 := by omega
    have f2 : 192 ≤ (at' l i : Int) := by omega
    have g2 : ¬ (at' l i : Int) < 224 := by omega
    have f3 : 224 ≤ (at' l i : Int) := by omega
    have g3 : ¬ (at' l i : Int) < 240 := by omega
    have f4 : 240 ≤ (at' l i : Int) := by omega
    have g4 : ¬ (at' l i : Int) < 248 := by omega
    have hn : nx l i = (-1, 1) := by rw [nx, if_neg (by omega), if_neg (by omega), if_neg (by omega), if_neg (by omega)]
    simp [rc22, rs22, h1, e', f1, f2, g2, f3, g3, f4, g4, hn]
    omega
noncomputable def T22 : Tab := tabAdd T32 22 (fun z : (List UInt8) × Nat => z.1.length ≤ 1000000 ∧ z.2 < z.1.length) (fun z => [.str z.1, .int .i64 z.2]) (fun z => .tup [.int .i64 (nx z.1 z.2).1, .int .i64 (nx z.1 z.2).2])
@[simp] theorem T22_eq (l : List UInt8) (i : Nat) (h : l.length ≤ 1000000 ∧ i < l.length) : T22 22 [.str l, .int .i64 i] = some (.tup [.int .i64 (nx l i).1, .int .i64 (nx l i).2]) := tabAdd_eq (a := (l, i)) (by simp +contextual [Int.natCast_inj]) h rfl
@[simp] theorem T22_ne {g : Nat} {xs : List AV} (h : g ≠ 22) : T22 g xs = T32 g xs := tabAdd_ne h
theorem T22_ok : Sound Tryd.prog T22 := tabAdd_sound T32_ok fun z h => pf22 z.1 z.2 h
end Go.Proofs.YtbinejcnoogoiaaDoor

