import Derived.Test.YtmolcbipiiimgaaQ1
set_option linter.unusedVariables false
set_option linter.unusedSimpArgs false
namespace Go.Proofs.Ytmolcbipiiimgaa
open Go.Proofs.Ytmolcbipiiimgaa.Pad
variable {T : Tab}
noncomputable def t29 (T : Tab) : Tab := tabAdd T 29 (fun x : List UInt8 × List UInt8 => x.1.length ≤ 100000 ∧ x.2.length ≤ 65535) (fun x => [.row 1 (bytesAV x.1) x.1.length, .str x.2]) (fun x => .row 1 (bytesAV (x.1 ++ rowB x.2)) (x.1.length + (2 + x.2.length)))
@[simp] theorem t29_eq (l s : List UInt8) (h : l.length ≤ 100000 ∧ s.length ≤ 65535) : t29 T 29 [.row 1 (bytesAV l) l.length, .str s] = some (.row 1 (bytesAV (l ++ rowB s)) (l.length + (2 + s.length))) := tabAdd_eq (a := (l, s)) (by simp +contextual) h rfl
@[simp] theorem t29_ne {g : Nat} {xs : List AV} (h : g ≠ 29) : t29 T g xs = T g xs := tabAdd_ne h
theorem t29_ok (hT : Sound Try.prog T) : Sound Try.prog (t29 T) := tabAdd_sound hT fun x h => addRow_pf hT x.1 x.2 h
theorem row_pf (hT : Sound Try.prog T) (l s : List UInt8) (h : l.length ≤ 10000 ∧ s.length ≤ 65535) : PFx Try.prog 10 [.sl (bytesAV l) l.length, .str s] (.tup [.sl (bytesAV (l ++ rowB s)) (l.length + (2 + s.length)), .int .i64 0]) := by
  refine PFx_of_W (rc := rc10) (rs := rs10) Try.func10 rfl (t29_ok (t30_ok hT)) hm (by kernel_rfl) (by kernel_rfl) (by simp [Try.ntmps10]) ?_
  have h1 : l.length ≤ 100000 := by omega
  have h2 : (0 : Int) ≤ 2 + s.length ∧ (l.length : Int) + (2 + s.length) ≤ 1000000 := by omega
  have h3 : (s.length : Int) ≤ 65535 := by omega
  have h4 : ¬ (65535 : Int) < s.length := by omega
  simp only [rc10, rs10, W_seq, W_reg, W_cond, W_ret, W_skip]
  simp [h1, h2, -W_condI, ↓W_cond]
  refine ⟨by omega, fun _ => ⟨by omega, ?_⟩⟩
  simp [h1, h.2, -W_condI, ↓W_cond]
theorem rnum_pf (hT : Sound Try.prog T) (l : List UInt8) (size v : Int) (h : l.length ≤ 100000 ∧ 0 ≤ v ∧ v < 18446744073709551616) : PFx Try.prog 15 [.sl (bytesAV l) l.length, .int .i64 size, .int .u64 v] (.row 1 (bytesAV (numB l size v)) (numB l size v).length) := by
  obtain ⟨v, rfl⟩ := Int.eq_ofNat_of_zero_le h.2.1
  refine PFx_of_W (rc := rc15) (rs := rs15) Try.func15 rfl hT hm (by kernel_rfl) (by kernel_rfl) (by simp [Try.ntmps15]) ?_
  simp [rc15, rs15, -W_condI, ↓W_cond]
  refine ⟨by omega, fun hh => by simp [numB, show ¬ (1 ≤ size ∧ size ≤ 8) by omega], fun g1 g2 => ⟨by omega, ?_⟩⟩
  refine W_loop (fun s => ∃ k : Nat, k ≤ size.toNat ∧ s = [⟨2, (.int .u64 (v : Int)), True, false⟩, ⟨7, .row 1 (bytesAV (l ++ (beB size.toNat v).take k)) (l.length + k), True, false⟩, ⟨8, .int .i64 (size - 1 - k), True, false⟩]) (fun s => ((s.env 8).toI + 1).toNat) ⟨0, by omega, by simp⟩ ?_
  rintro s ⟨k, hk, rfl⟩
  simp [-W_condI, ↓W_cond]
  refine ⟨fun hk1 => ?_, fun hk1 => ?_⟩
  · refine W_loop (fun s => ∃ j : Nat, j ≤ size.toNat - 1 - k ∧ s = [⟨2, (.int .u64 (v : Int)), True, false⟩, ⟨7, .row 1 (bytesAV (l ++ (beB size.toNat v).take k)) (l.length + k), True, false⟩, ⟨8, .int .i64 (size - 1 - k), True, false⟩, ⟨9, .int .u64 (v / 256 ^ j : Nat), True, false⟩, ⟨10, .int .i64 j, True, false⟩]) (fun s => ((s.env 8).toI - (s.env 10).toI).toNat) ⟨0, by omega, by simp⟩ ?_
    rintro s ⟨j, hj, rfl⟩
    simp [-W_condI, ↓W_cond]
    refine ⟨fun hj1 => ⟨by omega, ⟨j + 1, by omega, ?_, by omega⟩, by omega⟩, fun hj1 => ?_⟩
    · have e := Nat.div_div_eq_div_mul v (256 ^ j) 256
      have e2 : v / 256 ^ (j + 1) ≤ v := Nat.div_le_self ..
      rw [← Nat.pow_succ] at e
      rw [show ((v : Int) / 256 ^ j) = ((v / 256 ^ j : Nat) : Int) by simp, show ((v : Int) / 256 ^ (j + 1)) = ((v / 256 ^ (j + 1) : Nat) : Int) by simp, ← e, show ((v / 256 ^ j : Nat) : Int).tdiv 256 = ((v / 256 ^ j / 256 : Nat) : Int) from rfl, wrap_u64, e]
      generalize v / 256 ^ (j + 1) = q at e2 ⊢
      omega
    · refine ⟨⟨by omega, by omega, by omega⟩, by omega, ⟨k + 1, by omega, ⟨?_, by omega⟩, by omega⟩, by omega⟩
      have hlt : k < size.toNat := by omega
      obtain rfl : j = size.toNat - 1 - k := by omega
      rw [beB_take v size.toNat k hlt, ← List.append_assoc, bytesAV_app (l ++ _), ← bytesAV_single _ (Nat.mod_lt _ (by omega))]
      congr 4
      rw [show ((v : Int) / 256 ^ (size.toNat - 1 - k)) = ((v / 256 ^ (size.toNat - 1 - k) : Nat) : Int) by simp, wrap_u8]
      show (((v / 256 ^ (size.toNat - 1 - k)) % 256 : Nat) : Int) % 256 = _
      omega
  · obtain rfl : k = size.toNat := by omega
    have e1 : (beB size.toNat v).take size.toNat = beB size.toNat v := List.take_of_length_le (by simp)
    simp [numB, g1, g2, e1, -W_condI, ↓W_cond]
noncomputable def t14 (T : Tab) : Tab := tabAdd T 14 (fun x : List UInt8 × Int × Int => x.1.length ≤ 100000 ∧ 0 ≤ x.2.2) (fun x => [.sl (bytesAV x.1) x.1.length, .int .i64 x.2.1, .int .u64 x.2.2]) (fun x => .row 1 (bytesAV (numB x.1 x.2.1 x.2.2)) (numB x.1 x.2.1 x.2.2).length)
@[simp] theorem t14_eq (l : List UInt8) (k v : Int) (h : l.length ≤ 100000 ∧ 0 ≤ v) : t14 T 14 [.sl (bytesAV l) l.length, .int .i64 k, .int .u64 v] = some (.row 1 (bytesAV (numB l k v)) (numB l k v).length) := tabAdd_eq (a := (l, k, v)) (by simp +contextual) h rfl
@[simp] theorem t14_ne {g : Nat} {xs : List AV} (h : g ≠ 14) : t14 T g xs = T g xs := tabAdd_ne h
theorem t14_ok (hT : Sound Try.prog T) : Sound Try.prog (t14 T) := tabAdd_sound hT fun x h => num_pf hT x.1 x.2.1 x.2.2 h
noncomputable def t15 (T : Tab) : Tab := tabAdd T 15 (fun x : List UInt8 × Int × Int => x.1.length ≤ 100000 ∧ 0 ≤ x.2.2 ∧ x.2.2 < 18446744073709551616) (fun x => [.sl (bytesAV x.1) x.1.length, .int .i64 x.2.1, .int .u64 x.2.2]) (fun x => .row 1 (bytesAV (numB x.1 x.2.1 x.2.2)) (numB x.1 x.2.1 x.2.2).length)
@[simp] theorem t15_eq (l : List UInt8) (k v : Int) (h : l.length ≤ 100000 ∧ 0 ≤ v ∧ v < 18446744073709551616) : t15 T 15 [.sl (bytesAV l) l.length, .int .i64 k, .int .u64 v] = some (.row 1 (bytesAV (numB l k v)) (numB l k v).length) := tabAdd_eq (a := (l, k, v)) (by simp +contextual) h rfl
@[simp] theorem t15_ne {g : Nat} {xs : List AV} (h : g ≠ 15) : t15 T g xs = T g xs := tabAdd_ne h
theorem t15_ok (hT : Sound Try.prog T) : Sound Try.prog (t15 T) := tabAdd_sound hT fun x h => rnum_pf hT x.1 x.2.1 x.2.2 h
noncomputable def t10 (T : Tab) : Tab := tabAdd T 10 (fun x : List UInt8 × List UInt8 => x.1.length ≤ 10000 ∧ x.2.length ≤ 65535) (fun x => [.sl (bytesAV x.1) x.1.length, .str x.2]) (fun x => .tup [.sl (bytesAV (x.1 ++ rowB x.2)) (x.1.length + (2 + x.2.length)), .int .i64 0])
@[simp] theorem t10_eq (l s : List UInt8) (h : l.length ≤ 10000 ∧ s.length ≤ 65535) : t10 T 10 [.sl (bytesAV l) l.length, .str s] = some (.tup [.sl (bytesAV (l ++ rowB s)) (l.length + (2 + s.length)), .int .i64 0]) := tabAdd_eq (a := (l, s)) (by simp +contextual) h rfl
@[simp] theorem t10_ne {g : Nat} {xs : List AV} (h : g ≠ 10) : t10 T g xs = T g xs := tabAdd_ne h
theorem t10_ok (hT : Sound Try.prog T) : Sound Try.prog (t10 T) := tabAdd_sound hT fun x h => row_pf hT x.1 x.2 h
theorem rrow_pf (hT : Sound Try.prog T) (l s : List UInt8) (h : l.length ≤ 10000 ∧ s.length ≤ 65535) : PFx Try.prog 11 [.sl (bytesAV l) l.length, .str s] (.tup [.sl (bytesAV (l ++ rowB s)) (l.length + (2 + s.length)), .int .i64 0]) := by
  refine PFx_of_W (rc := rc11) (rs := rs11) Try.func11 rfl (t15_ok hT) hm (by kernel_rfl) (by kernel_rfl) (by simp [Try.ntmps11]) ?_
  have h1 : l.length ≤ 100000 := by omega
  have h3 : (s.length : Int) < 18446744073709551616 := by omega
  simp [rc11, rs11, h1, h3, numB, rowB, bytesAV_app, -W_condI, ↓W_cond]
  omega
noncomputable def t11 (T : Tab) : Tab := tabAdd T 11 (fun x : List UInt8 × List UInt8 => x.1.length ≤ 10000 ∧ x.2.length ≤ 65535) (fun x => [.sl (bytesAV x.1) x.1.length, .str x.2]) (fun x => .tup [.sl (bytesAV (x.1 ++ rowB x.2)) (x.1.length + (2 + x.2.length)), .int .i64 0])
@[simp] theorem t11_eq (l s : List UInt8) (h : l.length ≤ 10000 ∧ s.length ≤ 65535) : t11 T 11 [.sl (bytesAV l) l.length, .str s] = some (.tup [.sl (bytesAV (l ++ rowB s)) (l.length + (2 + s.length)), .int .i64 0]) := tabAdd_eq (a := (l, s)) (by simp +contextual) h rfl
@[simp] theorem t11_ne {g : Nat} {xs : List AV} (h : g ≠ 11) : t11 T g xs = T g xs := tabAdd_ne h
theorem t11_ok (hT : Sound Try.prog T) : Sound Try.prog (t11 T) := tabAdd_sound hT fun x h => rrow_pf hT x.1 x.2 h
end Go.Proofs.Ytmolcbipiiimgaa
