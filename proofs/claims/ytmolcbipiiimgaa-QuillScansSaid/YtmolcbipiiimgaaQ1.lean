import Derived.Test.YtmolcbipiiimgaaQ0
import Derived.Test.YtmolcbipiiimgaaE16
set_option linter.unusedVariables false
set_option linter.unusedSimpArgs false
namespace Go.Proofs.Ytmolcbipiiimgaa
open Go.Proofs.Ytmolcbipiiimgaa.Pad
theorem hm : Try.prog.follows .mixedOrders = true := by kernel_rfl
theorem wrap_u8 (n : Int) : IntKind.u8.wrap n = n % 256 := by
  simp [IntKind.wrap, IntKind.signed, IntKind.bits, -W_condI, ↓W_cond]
theorem wrap_u64 (n : Int) : IntKind.u64.wrap n = n % 18446744073709551616 := by
  simp [IntKind.wrap, IntKind.signed, IntKind.bits, -W_condI, ↓W_cond]
theorem u8_fdiv (v m : Nat) (hm : m ≤ 7) : IntKind.u8.wrap ((v : Int).fdiv (2 ^ min (8 * (m : Int)).toNat IntKind.u64.bits)) = ((v / 256 ^ m % 256 : Nat) : Int) := by
  rw [wrap_u8]
  have e1 : min (8 * (m : Int)).toNat IntKind.u64.bits = 8 * m := by simp [IntKind.bits]; omega
  have e2 : (2 : Int) ^ (8 * m) = ((256 ^ m : Nat) : Int) := by rw [Int.pow_mul]; simp
  rw [e1, e2, Int.fdiv_eq_ediv_of_nonneg _ (Int.natCast_nonneg _)]
  simp [-W_condI, ↓W_cond]
variable {T : Tab}
theorem isSize_pf (hT : Sound Try.prog T) (n : Int) : PFx Try.prog 31 [.int .i64 n] (.bool (decide (1 ≤ n ∧ n ≤ 8))) := by
  refine PFx_of_W (rc := rc31) (rs := rs31) Try.func31 rfl hT hm (by kernel_rfl) (by kernel_rfl) (by simp [Try.ntmps31]) ?_
  simp [rc31, rs31, -W_condI, ↓W_cond]
theorem copyOf_pf (hT : Sound Try.prog T) (l : List UInt8) (more : Int) (h2 : 0 ≤ more) (h3 : l.length + more ≤ 1000000) : PFx Try.prog 30 [.sl (bytesAV l) l.length, .int .i64 more] (.row 1 (bytesAV l) l.length) := by
  refine PFx_of_W (rc := rc30) (rs := rs30) Try.func30 rfl hT hm (by kernel_rfl) (by kernel_rfl) (by simp [Try.ntmps30]) ?_
  simp [rc30, rs30, -W_condI, ↓W_cond]
  omega
theorem addNum_pf (hT : Sound Try.prog T) (l : List UInt8) (size v : Nat) (h2 : size ≤ 8) (h3 : l.length ≤ 1000000) : PFx Try.prog 32 [.row 1 (bytesAV l) l.length, .int .i64 size, .int .u64 v] (.row 1 (bytesAV (l ++ beB size v)) (l.length + size)) := by
  refine PFx_of_W (rc := rc32) (rs := rs32) Try.func32 rfl hT hm (by kernel_rfl) (by kernel_rfl) (by simp [Try.ntmps32]) ?_
  simp [rc32, rs32, -W_condI, ↓W_cond]
  refine ⟨by omega, ?_⟩
  refine W_loop (fun s => ∃ k : Nat, k ≤ size ∧ s = [⟨0, .row 1 (bytesAV (l ++ (beB size v).take k)) (l.length + k), True, false⟩, ⟨2, .int .u64 v, True, false⟩, ⟨7, .int .i64 (size - 1 - k), True, false⟩]) (fun s => ((s.env 7).toI + 1).toNat) ⟨0, by omega, by simp⟩ ?_
  rintro s ⟨k, hk, rfl⟩
  simp [-W_condI, ↓W_cond]
  refine ⟨fun hk1 => ?_, fun hk1 => ?_⟩
  · have hlt : k < size := by omega
    refine ⟨by omega, by omega, by omega, by omega, ⟨k + 1, hlt, ⟨?_, by omega⟩, by omega⟩, by omega⟩
    rw [beB_take v size k hlt, ← List.append_assoc, bytesAV_app (l ++ _), ← bytesAV_single _ (Nat.mod_lt _ (by omega))]
    congr 4
    rw [show (size : Int) - 1 - k = ((size - 1 - k : Nat) : Int) by omega]
    exact u8_fdiv v _ (by omega)
  · obtain rfl : k = size := by omega
    exact ⟨List.take_of_length_le (by simp), rfl⟩
theorem addNum_pf' (hT : Sound Try.prog T) (l : List UInt8) (size v : Int) (h : 0 ≤ size ∧ size ≤ 8 ∧ l.length ≤ 1000000 ∧ 0 ≤ v) : PFx Try.prog 32 [.row 1 (bytesAV l) l.length, .int .i64 size, .int .u64 v] (.row 1 (bytesAV (l ++ beB size.toNat v.toNat)) (l.length + size.toNat)) := by
  have := addNum_pf hT l size.toNat v.toNat (by omega) h.2.2.1
  rwa [Int.toNat_of_nonneg h.1, Int.toNat_of_nonneg h.2.2.2] at this
/-- A row's bytes. -/
def rowB (s : List UInt8) : List UInt8 := beB 2 s.length ++ s
@[simp] theorem rowB_len (s : List UInt8) : (rowB s).length = 2 + s.length := by simp [rowB]
/-- A number behind bytes. -/
def numB (l : List UInt8) (size v : Int) : List UInt8 := if 1 ≤ size ∧ size ≤ 8 then l ++ beB size.toNat v.toNat else l
noncomputable def t31 (T : Tab) : Tab := tabAdd T 31 (fun _ : Int => True) (fun n => [.int .i64 n]) (fun n => .bool (decide (1 ≤ n ∧ n ≤ 8)))
@[simp] theorem t31_eq (n : Int) : t31 T 31 [.int .i64 n] = some (.bool (decide (1 ≤ n ∧ n ≤ 8))) := tabAdd_eq (a := n) (by simp) trivial rfl
@[simp] theorem t31_ne {g : Nat} {xs : List AV} (h : g ≠ 31) : t31 T g xs = T g xs := tabAdd_ne h
theorem t31_ok (hT : Sound Try.prog T) : Sound Try.prog (t31 T) := tabAdd_sound hT fun n _ => isSize_pf hT n
noncomputable def t30 (T : Tab) : Tab := tabAdd T 30 (fun x : List UInt8 × Int => 0 ≤ x.2 ∧ x.1.length + x.2 ≤ 1000000) (fun x => [.sl (bytesAV x.1) x.1.length, .int .i64 x.2]) (fun x => .row 1 (bytesAV x.1) x.1.length)
@[simp] theorem t30_eq (l : List UInt8) (m : Int) (h : 0 ≤ m ∧ l.length + m ≤ 1000000) : t30 T 30 [.sl (bytesAV l) l.length, .int .i64 m] = some (.row 1 (bytesAV l) l.length) := tabAdd_eq (a := (l, m)) (by simp +contextual) h rfl
@[simp] theorem t30_ne {g : Nat} {xs : List AV} (h : g ≠ 30) : t30 T g xs = T g xs := tabAdd_ne h
theorem t30_ok (hT : Sound Try.prog T) : Sound Try.prog (t30 T) := tabAdd_sound hT fun x h => copyOf_pf hT x.1 x.2 h.1 h.2
noncomputable def t32 (T : Tab) : Tab := tabAdd T 32 (fun x : List UInt8 × Int × Int => 0 ≤ x.2.1 ∧ x.2.1 ≤ 8 ∧ x.1.length ≤ 1000000 ∧ 0 ≤ x.2.2) (fun x => [.row 1 (bytesAV x.1) x.1.length, .int .i64 x.2.1, .int .u64 x.2.2]) (fun x => .row 1 (bytesAV (x.1 ++ beB x.2.1.toNat x.2.2.toNat)) (x.1.length + x.2.1.toNat))
@[simp] theorem t32_eq (l : List UInt8) (k v : Int) (h : 0 ≤ k ∧ k ≤ 8 ∧ l.length ≤ 1000000 ∧ 0 ≤ v) : t32 T 32 [.row 1 (bytesAV l) l.length, .int .i64 k, .int .u64 v] = some (.row 1 (bytesAV (l ++ beB k.toNat v.toNat)) (l.length + k.toNat)) := tabAdd_eq (a := (l, k, v)) (by simp +contextual) h rfl
@[simp] theorem t32_ne {g : Nat} {xs : List AV} (h : g ≠ 32) : t32 T g xs = T g xs := tabAdd_ne h
theorem t32_ok (hT : Sound Try.prog T) : Sound Try.prog (t32 T) := tabAdd_sound hT fun x h => addNum_pf' hT x.1 x.2.1 x.2.2 h
/-- addRow, Num. -/
theorem addRow_pf (hT : Sound Try.prog T) (l s : List UInt8) (h : l.length ≤ 100000 ∧ s.length ≤ 65535) : PFx Try.prog 29 [.row 1 (bytesAV l) l.length, .str s] (.row 1 (bytesAV (l ++ rowB s)) (l.length + (2 + s.length))) := by
  refine PFx_of_W (rc := rc29) (rs := rs29) Try.func29 rfl (t32_ok hT) hm (by kernel_rfl) (by kernel_rfl) (by simp [Try.ntmps29]) ?_
  have h1 : l.length ≤ 1000000 := by omega
  simp [rc29, rs29, h1, -W_condI, ↓W_cond]
  refine ⟨by omega, by omega, by simp [rowB, bytesAV_app], by omega⟩
theorem num_pf (hT : Sound Try.prog T) (l : List UInt8) (size v : Int) (h : l.length ≤ 100000 ∧ 0 ≤ v) : PFx Try.prog 14 [.sl (bytesAV l) l.length, .int .i64 size, .int .u64 v] (.row 1 (bytesAV (numB l size v)) (numB l size v).length) := by
  refine PFx_of_W (rc := rc14) (rs := rs14) Try.func14 rfl (t32_ok (t31_ok (t30_ok hT))) hm (by kernel_rfl) (by kernel_rfl) (by simp [Try.ntmps14]) ?_
  have h1 : l.length ≤ 1000000 := by omega
  simp [rc14, rs14, h1, -W_condI, ↓W_cond]
  by_cases hs : 1 ≤ size ∧ size ≤ 8
  · have e1 : 0 ≤ size ∧ l.length + size ≤ 1000000 := by omega
    have e2 : 0 ≤ size := by omega
    have e3 : size ≤ 8 := by omega
    simp [hs, e1, e2, e3, h, h1, numB, -W_condI, ↓W_cond]
    intro h'; omega
  · refine ⟨fun _ => ?_, fun h' => by omega⟩
    have h2 : (l.length : Int) ≤ 1000000 := by omega
    simp [h1, h2, numB, hs, -W_condI, ↓W_cond]
end Go.Proofs.Ytmolcbipiiimgaa
