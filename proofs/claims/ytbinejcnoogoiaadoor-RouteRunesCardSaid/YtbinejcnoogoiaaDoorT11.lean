/- Joined paths. -/
import Derived.Test.YtbinejcnoogoiaaDoorT10
set_option linter.unusedVariables false
set_option linter.unusedSimpArgs false
namespace Go.Proofs.YtbinejcnoogoiaaDoor
open Go.Proofs.YtbinejcnoogoiaaDoor.Pad Go.Proofs.YtbinejcnoogoiaaDoor.Pad.Route Go.Proofs.YtbinejcnoogoiaaDoor.Pad.Runes Go.Proofs.YtbinejcnoogoiaaDoor.Pad.Utf
set_option maxHeartbeats 4000000 in
theorem pf20 (ps : List (List UInt8)) (h : ps.length ≤ 1000 ∧ (joinL ps).length ≤ 1000000) : PFx Tryd.prog 20 [.sl (ps.map .str) ps.length] (.tup [.str (joinS ps), .int .i64 (joinE ps)]) := by
  refine PFx_of_W (rc := rc20) (rs := rs20) Tryd.func20 rfl T19_ok hm (by kernel_rfl) (by kernel_rfl) (by simp [Tryd.ntmps20]) ?_
  obtain ⟨h1, h2⟩ := h
  by_cases hn : ps = []
  · have hl0 : (ps.length : Int) = 0 := by rw [hn]; rfl
    have he : joinE ps = 4 := by unfold joinE; rw [if_pos hn]
    have hs : joinS ps = [] := by unfold joinS; rw [he]; rfl
    rw [he, hs]
    clear hn
    simp [rc20, rs20, hl0]
  · have hl : 0 < ps.length := List.length_pos_iff.2 hn
    have hl' : ¬ (ps.length : Int) = 0 := by omega
    have hl'' : ¬ ps.length = 0 := by omega
    simp [rc20, rs20, hl', hl'', hn]
    refine W_forU ps.length (fun k => (ps.take k).any (fun p => p.contains 47) = false) (fun k => [(13, .int .i64 k)]) (by simp) (by simp) (fun k hk hp => ?_) fun hp => ?_
    · have hm : ps[k]'hk ∈ ps := List.getElem_mem hk
      have key : ∀ b, (ps[k]'hk).contains 47 = b → (ps.take (k + 1)).any (fun p => p.contains 47) = b := fun b hb => by rw [any_take _ _ _ hk, hp, hb]; rfl
      rcases Bool.eq_false_or_eq_true ((ps[k]'hk).contains 47) with hc | hc
      · have he : joinE ps = 4 := by
          unfold joinE
          rw [if_neg hn, if_pos]
          exact List.any_eq_true.2 ⟨_, hm, hc⟩
        have hs : joinS ps = [] := by unfold joinS; rw [he]; rfl
        rw [he, hs]
        clear key he hs
        simp [hk, hc, -List.contains_eq_mem]
        first | omega | trace_state
      · have e4 := key _ hc
        clear key
        simp [hk, hc, e4, -List.any_eq_true, -List.any_eq_false, -List.contains_eq_mem]
        first | omega | trace_state
    · rw [List.take_length] at hp
      have he : joinE ps = checkE (joinL ps) := by
        unfold joinE
        rw [if_neg hn, if_neg]
        unfold slashy
        rw [hp]; simp
      have hs : joinS ps = if checkE (joinL ps) = 0 then joinL ps else [] := by unfold joinS; rw [he]
      by_cases h0 : checkE (joinL ps) = 0
      · simp [h2, he, hs, h0, show ps.length ≤ 1000000 by omega]
        first | omega | trace_state
      · simp [h2, he, hs, h0, show ps.length ≤ 1000000 by omega]
        first | omega | trace_state
noncomputable def T20 : Tab := tabAdd T19 20 (fun z : (List (List UInt8)) => z.length ≤ 1000 ∧ (joinL z).length ≤ 1000000) (fun z => [.sl (z.map .str) z.length]) (fun z => .tup [.str (joinS z), .int .i64 (joinE z)])
@[simp] theorem T20_eq (ps : List (List UInt8)) (h : ps.length ≤ 1000 ∧ (joinL ps).length ≤ 1000000) : T20 20 [.sl (ps.map .str) ps.length] = some (.tup [.str (joinS ps), .int .i64 (joinE ps)]) := tabAdd_eq (a := ps) (by simp +contextual [Int.natCast_inj]) h rfl
@[simp] theorem T20_ne {g : Nat} {xs : List AV} (h : g ≠ 20) : T20 g xs = T19 g xs := tabAdd_ne h
theorem T20_ok : Sound Tryd.prog T20 := tabAdd_sound T19_ok fun z h => pf20 z h
end Go.Proofs.YtbinejcnoogoiaaDoor

