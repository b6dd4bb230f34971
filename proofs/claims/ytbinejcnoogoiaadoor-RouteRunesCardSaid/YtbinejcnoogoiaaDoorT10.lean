/- Paths, and what is told of texts, of the program and of the document. -/
import Derived.Test.YtbinejcnoogoiaaDoorT9
set_option linter.unusedVariables false
set_option linter.unusedSimpArgs false
namespace Go.Proofs.YtbinejcnoogoiaaDoor
open Go.Proofs.YtbinejcnoogoiaaDoor.Pad Go.Proofs.YtbinejcnoogoiaaDoor.Pad.Route Go.Proofs.YtbinejcnoogoiaaDoor.Pad.Runes Go.Proofs.YtbinejcnoogoiaaDoor.Pad.Utf
theorem pieces_le (l : List UInt8) : (pieces l).length ≤ l.length + 1 := by
  rw [pieces_len]
  have := List.count_le_length (a := 47) (l := l)
  omega
theorem any_take {α : Type} (f : α → Bool) (l : List α) (k : Nat) (h : k < l.length) : (l.take (k + 1)).any f = ((l.take k).any f || f l[k]) := by
  rw [take_one l k h, List.any_append]
  simp
theorem check_long {s : List UInt8} (h : 64 < s.length) : checkE s = 5 := by unfold checkE; rw [if_pos h]
theorem check_4 {s : List UInt8} (h : ¬ 64 < s.length) (h4 : (pieces s).any is4 = true) : checkE s = 4 := by unfold checkE; rw [if_neg h, if_pos h4]
theorem check_more {s : List UInt8} (h : ¬ 64 < s.length) (h4 : ¬ (pieces s).any is4 = true) : checkE s = if (pieces s).any is5 then 5 else if 6 < (pieces s).length then 24 else 0 := by unfold checkE; rw [if_neg h, if_neg h4]
theorem pf12 (l : List UInt8) (h : l.length ≤ 1000000) : PFx Tryd.prog 12 [.str l] (.int .i64 (checkE l)) := by
  refine PFx_of_W (rc := rc12) (rs := rs12) Tryd.func12 rfl T24_ok hm (by kernel_rfl) (by kernel_rfl) (by simp [Tryd.ntmps12]) ?_
  by_cases hl : 64 < l.length
  · have hl' : 64 < (l.length : Int) := by omega
    simp [rc12, rs12, hl', check_long hl]
  · have hl' : ¬ 64 < (l.length : Int) := by omega
    simp [rc12, rs12, hl', h]
    have hpl := pieces_le l
    generalize hps : pieces l = ps at hpl
    have hle : ∀ p ∈ ps, p.length ≤ 1000000 := fun p hp => by have := piece_le l p (by rw [hps]; exact hp); omega
    refine W_forU ps.length (fun k => (ps.take k).any is4 = false) (fun k => [(4, .bool ((ps.take k).any is5)), (14, .int .i64 k)]) (by simp) (by simp) (fun k hk hp => ?_) fun hp => ?_
    · have q := T10_eq ps[k] (hle _ (List.getElem_mem hk))
      by_cases h4 : partE ps[k] = 4
      · have hc : checkE l = 4 := check_4 hl (by rw [hps]; exact List.any_eq_true.2 ⟨_, List.getElem_mem hk, by simp [is4, h4]⟩)
        simp [hk, q, h4, hc, -List.any_eq_true]
        omega
      · have e4 : (ps.take (k + 1)).any is4 = false := by rw [any_take _ _ _ hk, hp]; simp [is4, h4]
        by_cases h5 : partE ps[k] = 5
        · have e5 : (ps.take (k + 1)).any is5 = true := by rw [any_take _ _ _ hk]; simp [is5, h5]
          simp [hk, q, h4, h5, e4, e5, -List.any_eq_true, -List.any_eq_false]
          omega
        · have e5 : (ps.take (k + 1)).any is5 = (ps.take k).any is5 := by rw [any_take _ _ _ hk]; simp [is5, h5]
          simp [hk, q, h4, h5, e4, e5, -List.any_eq_true, -List.any_eq_false]
          omega
    · rw [List.take_length] at hp
      have hc := check_more hl (by rw [hps, hp]; simp)
      rw [hps] at hc
      cases h5 : ps.any is5
      · rw [h5] at hc
        by_cases h6 : 6 < ps.length
        · have h6' : 6 < (ps.length : Int) := by omega
          simp [h5, h6', hc, h6, -List.any_eq_true, -List.any_eq_false]
        · have h6' : ¬ 6 < (ps.length : Int) := by omega
          simp [h5, h6', hc, h6, -List.any_eq_true, -List.any_eq_false]
      · rw [h5] at hc
        simp [h5, hc, -List.any_eq_true, -List.any_eq_false]
noncomputable def T12 : Tab := tabAdd T24 12 (fun z : (List UInt8) => z.length ≤ 1000000) (fun z => [.str z]) (fun z => .int .i64 (checkE z))
@[simp] theorem T12_eq (l : List UInt8) (h : l.length ≤ 1000000) : T12 12 [.str l] = some (.int .i64 (checkE l)) := tabAdd_eq (a := l) (by simp +contextual [Int.natCast_inj]) h rfl
@[simp] theorem T12_ne {g : Nat} {xs : List AV} (h : g ≠ 12) : T12 g xs = T24 g xs := tabAdd_ne h
theorem T12_ok : Sound Tryd.prog T12 := tabAdd_sound T24_ok fun z h => pf12 z h
theorem pf13 (l : List UInt8) (h : l.length ≤ 1000000) : PFx Tryd.prog 13 [.str l] (.int .i64 (checkE l)) := by
  refine PFx_of_W (rc := rc13) (rs := rs13) Tryd.func13 rfl T12_ok hm (by kernel_rfl) (by kernel_rfl) (by simp [Tryd.ntmps13]) ?_
  by_cases hl : 64 < l.length
  · have hl' : 64 < (l.length : Int) := by omega
    simp [rc13, rs13, hl', check_long hl]
  · have hl' : ¬ 64 < (l.length : Int) := by omega
    simp [rc13, rs13, hl', h]
    have hpl := pieces_le l
    generalize hps : pieces l = ps at hpl
    have hle : ∀ p ∈ ps, p.length ≤ 1000000 := fun p hp => by have := piece_le l p (by rw [hps]; exact hp); omega
    refine W_forU ps.length (fun k => (ps.take k).any is4 = false) (fun k => [(4, .bool ((ps.take k).any is5)), (5, .int .i64 k)]) (by simp) (by simp) (fun k hk hp => ?_) fun hp => ?_
    · have q := T11_eq ps[k] (hle _ (List.getElem_mem hk))
      by_cases h4 : partE ps[k] = 4
      · have hc : checkE l = 4 := check_4 hl (by rw [hps]; exact List.any_eq_true.2 ⟨_, List.getElem_mem hk, by simp [is4, h4]⟩)
        simp [hk, q, h4, hc, -List.any_eq_true]
        omega
      · have e4 : (ps.take (k + 1)).any is4 = false := by rw [any_take _ _ _ hk, hp]; simp [is4, h4]
        cases e6 : (ps.take k).any is5
        · by_cases h5 : partE ps[k] = 5
          · have e5 : (ps.take (k + 1)).any is5 = true := by rw [any_take _ _ _ hk]; simp [is5, h5]
            simp [hk, q, h4, h5, e4, e5, e6, -List.any_eq_true, -List.any_eq_false]
            omega
          · have e5 : (ps.take (k + 1)).any is5 = false := by rw [any_take _ _ _ hk, e6]; simp [is5, h5]
            simp [hk, q, h4, h5, e4, e5, e6, -List.any_eq_true, -List.any_eq_false]
            omega
        · have e5 : (ps.take (k + 1)).any is5 = true := by rw [any_take _ _ _ hk, e6]; simp
          simp [hk, q, h4, e4, e5, e6, -List.any_eq_true, -List.any_eq_false]
          omega
    · rw [List.take_length] at hp
      have hc := check_more hl (by rw [hps, hp]; simp)
      rw [hps] at hc
      cases h5 : ps.any is5
      · rw [h5] at hc
        by_cases h6 : 6 < ps.length
        · have h6' : 6 < (ps.length : Int) := by omega
          simp [h5, h6', hc, h6, -List.any_eq_true, -List.any_eq_false]
        · have h6' : ¬ 6 < (ps.length : Int) := by omega
          simp [h5, h6', hc, h6, -List.any_eq_true, -List.any_eq_false]
      · rw [h5] at hc
        simp [h5, hc, -List.any_eq_true, -List.any_eq_false]
noncomputable def T13 : Tab := tabAdd T12 13 (fun z : (List UInt8) => z.length ≤ 1000000) (fun z => [.str z]) (fun z => .int .i64 (checkE z))
@[simp] theorem T13_eq (l : List UInt8) (h : l.length ≤ 1000000) : T13 13 [.str l] = some (.int .i64 (checkE l)) := tabAdd_eq (a := l) (by simp +contextual [Int.natCast_inj]) h rfl
@[simp] theorem T13_ne {g : Nat} {xs : List AV} (h : g ≠ 13) : T13 g xs = T12 g xs := tabAdd_ne h
theorem T13_ok : Sound Tryd.prog T13 := tabAdd_sound T12_ok fun z h => pf13 z h
def partsR (l : List UInt8) : List (List UInt8) := if checkE l = 0 then pieces l else []
theorem pf19 (l : List UInt8) (h : l.length ≤ 1000000) : PFx Tryd.prog 19 [.str l] (.tup [.sl ((partsR l).map .str) (partsR l).length, .int .i64 (checkE l)]) := by
  refine PFx_of_W (rc := rc19) (rs := rs19) Tryd.func19 rfl T13_ok hm (by kernel_rfl) (by kernel_rfl) (by simp [Tryd.ntmps19]) ?_
  by_cases h0 : checkE l = 0
  · simp [rc19, rs19, h, h0, partsR]
  · simp [rc19, rs19, h, h0, partsR]
noncomputable def T19 : Tab := tabAdd T13 19 (fun z : (List UInt8) => z.length ≤ 1000000) (fun z => [.str z]) (fun z => .tup [.sl ((partsR z).map .str) (partsR z).length, .int .i64 (checkE z)])
@[simp] theorem T19_eq (l : List UInt8) (h : l.length ≤ 1000000) : T19 19 [.str l] = some (.tup [.sl ((partsR l).map .str) (partsR l).length, .int .i64 (checkE l)]) := tabAdd_eq (a := l) (by simp +contextual [Int.natCast_inj]) h rfl
@[simp] theorem T19_ne {g : Nat} {xs : List AV} (h : g ≠ 19) : T19 g xs = T13 g xs := tabAdd_ne h
theorem T19_ok : Sound Tryd.prog T19 := tabAdd_sound T13_ok fun z h => pf19 z h
end Go.Proofs.YtbinejcnoogoiaaDoor

