/- Shards of texts, of fnv and of the document; how many texts there may be. -/
import Derived.Test.YtjljeojfomjefaaF1
set_option linter.unusedVariables false
set_option linter.unusedSimpArgs false
namespace Go.Proofs.Ytjljeojfomjefaa
open Go.Proofs.Ytjljeojfomjefaa.Pad Go.Proofs.Ytjljeojfomjefaa.Pad.Fnv
theorem ints_inj' : ∀ {a b : List Nat}, ints a = ints b → a = b
  | [], [], _ => rfl
  | [], _ :: _, h => by simp [ints] at h
  | _ :: _, [], h => by simp [ints] at h
  | x :: a, y :: b, h => by
    simp only [ints, List.map_cons, List.cons.injEq, AV.int.injEq, true_and] at h
    rw [ints_inj' (a := a) (b := b) h.2, show x = y by omega]
@[simp] theorem ints_inj {a b : List Nat} : ints a = ints b ↔ a = b := ⟨ints_inj', fun h => by rw [h]⟩
def isIn (l : List Nat) (n : Int) : Bool := l.any fun (k : Nat) => decide ((k : Int) = n)
theorem isIn_true {l : List Nat} {n : Int} : isIn l n = true ↔ ∃ k ∈ l, (k : Int) = n := by simp [isIn]
theorem isIn_false {l : List Nat} {n : Int} : isIn l n = false ↔ ∀ k ∈ l, (k : Int) ≠ n := by simp [isIn]
theorem pf20 (l : List Nat) (n : Int) (h : l.length ≤ 1000000) : PFx Try.prog 20 [.sl (ints l) l.length, .int .i64 n] (.bool (isIn l n)) := by
  refine PFx_of_W (rc := rc20) (rs := rs20) Try.func20 rfl T19_ok hm (by kernel_rfl) (by kernel_rfl) (by simp [Try.ntmps20]) ?_
  simp [rc20, rs20]
  refine W_forU l.length (fun k => ∀ x ∈ l.take k, (x : Int) ≠ n) (fun k => [(5, .int .i64 k)]) (by simp) (by simp) (fun k hk hp => ?_) fun hp => ?_
  · by_cases he : (l[k] : Int) = n
    · simp [hk, he]
      exact ⟨by omega, isIn_true.2 ⟨_, List.getElem_mem hk, he⟩⟩
    · simp [hk, he]
      exact ⟨by omega, by omega, take_all (fun x : Nat => (x : Int) ≠ n) hk hp he⟩
  · simp
    exact isIn_false.2 (by rwa [List.take_length] at hp)
noncomputable def T20 : Tab := tabAdd T19 20 (fun z : (List Nat) × Int => z.1.length ≤ 1000000) (fun z => [.sl (ints z.1) z.1.length, .int .i64 z.2]) (fun z => .bool (isIn z.1 z.2))
@[simp] theorem T20_eq (l : List Nat) (n : Int) (h : l.length ≤ 1000000) : T20 20 [.sl (ints l) l.length, .int .i64 n] = some (.bool (isIn l n)) := tabAdd_eq (a := (l, n)) (by simp +contextual) h rfl
@[simp] theorem T20_ne {g : Nat} {xs : List AV} (h : g ≠ 20) : T20 g xs = T19 g xs := tabAdd_ne h
theorem T20_ok : Sound Try.prog T20 := tabAdd_sound T19_ok fun z h => pf20 z.1 z.2 h
/-- The numbers of all shards. -/
def allN (n : Int) : List Nat := if 1 ≤ n ∧ n ≤ 8 then List.range n.toNat else []
theorem ints_rep (k : Nat) : repeatAV [.int .i64 0] k = (List.replicate k (AV.int .i64 0)) := by
  induction k with
  | zero => rfl
  | succ k ih => simp [repeatAV, ih, List.replicate_succ]
def upTo (n k : Nat) : List AV := (List.range n).map fun j => .int .i64 ((if j < k then j else 0 : Nat) : Int)
@[simp] theorem upTo_len (n k : Nat) : (upTo n k).length = n := by simp [upTo]
theorem upTo_0 (n : Nat) : repeatAV [.int .i64 0] n = upTo n 0 := by
  rw [ints_rep]; apply List.ext_getElem <;> simp [upTo]
theorem upTo_n (n : Nat) : upTo n n = ints (List.range n) := by
  apply List.ext_getElem <;> simp +contextual [upTo, ints]
theorem upTo_set (n k : Nat) (h : k < n) : splice (upTo n k) k [.int .i64 k] = upTo n (k + 1) := by
  unfold splice upTo
  apply List.ext_getElem?
  intro j
  rcases Nat.lt_trichotomy j k with h1 | h1 | h1
  · rw [List.append_assoc, List.getElem?_append_left (by simp; omega)]
    have hj : j < n := by omega
    have h3 : j < k + 1 := by omega
    simp [h1, h3, hj]
  · subst h1
    rw [List.append_assoc, List.getElem?_append_right (by simp; omega)]
    simp [h, Nat.min_eq_left (Nat.le_of_lt h)]
  · rw [List.append_assoc, List.getElem?_append_right (by simp; omega)]
    have h3 : j - min k n = (j - k - 1) + 1 := by omega
    have h4 : k + 1 + (j - k - 1) = j := by omega
    have h5 : ¬ j < k := by omega
    have h6 : ¬ j < k + 1 := by omega
    by_cases hj : j < n <;> simp [h3, h4, h5, h6, hj]
theorem pf15 (n : Int)  : PFx Try.prog 15 [.int .i64 n] (.row 1 (ints (allN n)) (allN n).length) := by
  refine PFx_of_W (rc := rc15) (rs := rs15) Try.func15 rfl T20_ok hm (by kernel_rfl) (by kernel_rfl) (by simp [Try.ntmps15]) ?_
  by_cases hn : 1 ≤ n ∧ n ≤ 8
  · obtain ⟨m, rfl⟩ := Int.eq_ofNat_of_zero_le (show 0 ≤ n by omega)
    simp [rc15, rs15, hn, upTo_0]
    refine ⟨by omega, ?_⟩
    refine W_forU m (fun _ => True) (fun k => [(3, .mrow 1 (upTo m k) m), (12, .int .i64 k)]) trivial (by simp) (fun k hk _ => ?_) fun _ => ?_
    · simp [hk, -splice, upTo_set]
      omega
    · simp [allN, hn, upTo_n]
  · simp [rc15, rs15, hn, allN]
noncomputable def T15 : Tab := tabAdd T20 15 (fun _ : Int => True) (fun z => [.int .i64 z]) (fun z => .row 1 (ints (allN z)) (allN z).length)
@[simp] theorem T15_eq (n : Int)  : T15 15 [.int .i64 n] = some (.row 1 (ints (allN n)) (allN n).length) := tabAdd_eq (a := n) (by simp +contextual) trivial rfl
@[simp] theorem T15_ne {g : Nat} {xs : List AV} (h : g ≠ 15) : T15 g xs = T20 g xs := tabAdd_ne h
theorem T15_ok : Sound Try.prog T15 := tabAdd_sound T20_ok fun z _ => pf15 z 
theorem pf17 (a : List Nat) (b : List Nat) (h : a.length ≤ 1000000) : PFx Try.prog 17 [.sl (ints a) a.length, .sl (ints b) b.length] (.bool (decide (a = b))) := by
  refine PFx_of_W (rc := rc17) (rs := rs17) Try.func17 rfl T15_ok hm (by kernel_rfl) (by kernel_rfl) (by simp [Try.ntmps17]) ?_
  by_cases hl : a.length = b.length
  · simp [rc17, rs17, hl]
    refine W_forU b.length (fun k => a.take k = b.take k) (fun k => [(5, .int .i64 k)]) (by simp) (by simp) (fun k hk hp => ?_) fun hp => ?_
    · have hk' : k < a.length := by omega
      by_cases he : a[k] = b[k]
      · have he' : (a[k] : Int) = b[k] := by omega
        simp [hk, hk', he', hl]
        exact ⟨by omega, by omega, by rw [take_one a k hk', take_one b k hk, hp, he]⟩
      · have he' : ¬ (a[k] : Int) = b[k] := by omega
        simp [hk, hk', he', hl]
        exact ⟨by omega, fun h => by subst h; exact he rfl⟩
    · simp
      rw [← hl, List.take_length, hl, List.take_length] at hp
      exact hp
  · have hl' : ¬ (a.length : Int) = b.length := by omega
    simp [rc17, rs17, hl']
    intro h; subst h; exact hl rfl
noncomputable def T17 : Tab := tabAdd T15 17 (fun z : (List Nat) × (List Nat) => z.1.length ≤ 1000000) (fun z => [.sl (ints z.1) z.1.length, .sl (ints z.2) z.2.length]) (fun z => .bool (decide (z.1 = z.2)))
@[simp] theorem T17_eq (a : List Nat) (b : List Nat) (h : a.length ≤ 1000000) : T17 17 [.sl (ints a) a.length, .sl (ints b) b.length] = some (.bool (decide (a = b))) := tabAdd_eq (a := (a, b)) (by simp +contextual) h rfl
@[simp] theorem T17_ne {g : Nat} {xs : List AV} (h : g ≠ 17) : T17 g xs = T15 g xs := tabAdd_ne h
theorem T17_ok : Sound Try.prog T17 := tabAdd_sound T15_ok fun z h => pf17 z.1 z.2 h
def few (ls : List (List UInt8)) : Prop := ls.length ≤ 40 ∧ ∀ s ∈ ls, s.length ≤ 200
theorem pf14 (ls : List (List UInt8)) (h : ls.length ≤ 9223372036854775807) : PFx Try.prog 14 [.sl (ls.map .str) ls.length] (.int .i64 (open Classical in if few ls then 0 else 1)) := by
  refine PFx_of_W (rc := rc14) (rs := rs14) Try.func14 rfl T17_ok hm (by kernel_rfl) (by kernel_rfl) (by simp [Try.ntmps14]) ?_
  rcases Int.lt_or_le 40 ls.length with h4 | h4
  · have hf : ¬ few ls := fun hf => by have := hf.1; omega
    simp [rc14, rs14, h4, hf]
  · have h4' : ¬ (40 : Int) < ls.length := by omega
    simp [rc14, rs14, h4']
    refine W_forU ls.length (fun k => ∀ s ∈ ls.take k, s.length ≤ 200) (fun k => [(3, .int .i64 k)]) (by simp) (by simp) (fun k hk hp => ?_) fun hp => ?_
    · by_cases he : (200 : Int) < (ls[k]).length
      · have hf : ¬ few ls := fun hf => by have := hf.2 _ (List.getElem_mem hk); omega
        simp [hk, he, hf]
        omega
      · simp [hk, he]
        exact ⟨by omega, by omega, take_all (fun s : List UInt8 => s.length ≤ 200) hk hp (by omega)⟩
    · have hf : few ls := ⟨by omega, by rwa [List.take_length] at hp⟩
      simp [hf]
noncomputable def T14 : Tab := tabAdd T17 14 (fun z : (List (List UInt8)) => z.length ≤ 9223372036854775807) (fun z => [.sl (z.map .str) z.length]) (fun z => .int .i64 (open Classical in if few z then 0 else 1))
@[simp] theorem T14_eq (ls : List (List UInt8)) (h : ls.length ≤ 9223372036854775807) : T14 14 [.sl (ls.map .str) ls.length] = some (.int .i64 (open Classical in if few ls then 0 else 1)) := tabAdd_eq (a := ls) (by simp +contextual) h rfl
@[simp] theorem T14_ne {g : Nat} {xs : List AV} (h : g ≠ 14) : T14 g xs = T17 g xs := tabAdd_ne h
theorem T14_ok : Sound Try.prog T14 := tabAdd_sound T17_ok fun z h => pf14 z h
theorem pf16 (n : Int) (ls : List (List UInt8)) (h : ls.length ≤ 1000000 ∧ ∀ s ∈ ls, s.length ≤ 1000000) : PFx Try.prog 16 [.int .i64 n, .sl (ls.map .str) ls.length] (.row 1 (ints (if 1 ≤ n ∧ n ≤ 8 then shs n.toNat ls else [])) (if 1 ≤ n ∧ n ≤ 8 then shs n.toNat ls else []).length) := by
  refine PFx_of_W (rc := rc16) (rs := rs16) Try.func16 rfl T14_ok hm (by kernel_rfl) (by kernel_rfl) (by simp [Try.ntmps16]) ?_
  by_cases hn : 1 ≤ n ∧ n ≤ 8
  · obtain ⟨m, rfl⟩ := Int.eq_ofNat_of_zero_le (show 0 ≤ n by omega)
    have h8 : m ≤ 8 := by omega
    have h0 : 0 < m := by omega
    simp [rc16, rs16, hn]
    refine W_forU ls.length (fun _ => True) (fun k => [(5, .box (marks 8 (has (ls.take k) m))), (16, .int .i64 k)]) trivial (by simp [marks, has]; rfl) (fun k hk _ => ?_) fun _ => ?_
    · have e := T12_eq ls[k] m (h.2 _ (List.getElem_mem hk))
      have e1 := shI_lo ls[k] m; have e2 := shI_hi ls[k] m
      simp [hk, e, -splice]
      refine ⟨by omega, by omega, by omega, by omega, ?_⟩
      have e3 : (shI ls[k] m).toNat = shN ls[k] m := by rw [shI, if_pos hn]; simp
      rw [e3, marks_splice _ _ _ (by omega)]
      congr 1; funext j
      unfold has
      rw [take_one ls k hk, List.any_append]; simp
    · simp
      refine W_forU 8 (fun _ => True) (fun k => [(8, .row 1 (ints ((List.range k).filter (has ls m))) ((List.range k).filter (has ls m)).length), (26, .int .i64 k)]) trivial (by simp) (fun k hk _ => ?_) fun _ => ?_
      · have hl : ((List.range k).filter (has ls m)).length ≤ k := by simpa using List.length_filter_le (has ls m) (List.range k)
        have hk' : (k : Int) < 8 := by omega
        cases hb : has ls m k <;> simp [hk, hk', hb, marks_get, filter_succ, ints_app, ints_one] <;> omega
      · simp [shs_8 _ _ h0 h8, hn]
  · simp [rc16, rs16, hn]
noncomputable def T16 : Tab := tabAdd T14 16 (fun z : Int × (List (List UInt8)) => z.2.length ≤ 1000000 ∧ ∀ s ∈ z.2, s.length ≤ 1000000) (fun z => [.int .i64 z.1, .sl (z.2.map .str) z.2.length]) (fun z => .row 1 (ints (if 1 ≤ z.1 ∧ z.1 ≤ 8 then shs z.1.toNat z.2 else [])) (if 1 ≤ z.1 ∧ z.1 ≤ 8 then shs z.1.toNat z.2 else []).length)
@[simp] theorem T16_eq (n : Int) (ls : List (List UInt8)) (h : ls.length ≤ 1000000 ∧ ∀ s ∈ ls, s.length ≤ 1000000) : T16 16 [.int .i64 n, .sl (ls.map .str) ls.length] = some (.row 1 (ints (if 1 ≤ n ∧ n ≤ 8 then shs n.toNat ls else [])) (if 1 ≤ n ∧ n ≤ 8 then shs n.toNat ls else []).length) := tabAdd_eq (a := (n, ls)) (by simp +contextual) h rfl
@[simp] theorem T16_ne {g : Nat} {xs : List AV} (h : g ≠ 16) : T16 g xs = T14 g xs := tabAdd_ne h
theorem T16_ok : Sound Try.prog T16 := tabAdd_sound T14_ok fun z h => pf16 z.1 z.2 h
end Go.Proofs.Ytjljeojfomjefaa

