/- Tables of what functions come to; bytes. -/
import Derived.Test.YtbikpgaiocjnoaaE15
set_option linter.unusedVariables false
set_option linter.unusedSimpArgs false
namespace Go.Proofs.Ytbikpgaiocjnoaa.Pad
open Classical in
/-- A table with one function more. -/
noncomputable def tabAdd (T : Tab) (f : Nat) {α : Type} (p : α → Prop) (args : α → List AV) (res : α → AV) : Tab := fun g as =>
  if h : g = f ∧ ∃ a, p a ∧ args a = as then some (res h.2.choose) else T g as
def tabNil : Tab := fun _ _ => none
theorem tabNil_sound {P : Program} [Globs P] : Sound P tabNil := fun _ _ _ h => by simp [tabNil] at h
theorem tabAdd_sound {P : Program} [Globs P] {T : Tab} {f : Nat} {α : Type} {p : α → Prop} {args : α → List AV} {res : α → AV} (hT : Sound P T) (h : ∀ a, p a → PFx P f (args a) (res a)) (hf : f < inPlace := by unfold inPlace; omega) : Sound P (tabAdd T f p args res) := by
  intro g as r hr
  unfold tabAdd at hr
  split at hr
  · rename_i hh
    cases hr
    have key : ∀ (a : α), p a → args a = as → PF P g as (res a) := fun a h1 h2 => by
      unfold PF
      rw [hh.1, ← h2, if_pos hf]; exact h a h1
    exact key _ hh.2.choose_spec.1 hh.2.choose_spec.2
  · exact hT g as r hr
@[simp] theorem inPlace_ne {a b : Nat} (h : b < 1048576) : (a + inPlace = b) = False := by
  apply propext
  constructor
  · intro e; unfold inPlace at e; omega
  · exact False.elim
@[simp] theorem ne_inPlace {a b : Nat} (h : b < 1048576) : (b = a + inPlace) = False := by
  apply propext
  constructor
  · intro e; unfold inPlace at e; omega
  · exact False.elim
@[simp] theorem inPlace_lit {b : Nat} (h : b < 1048576) : (inPlace = b) = False := by
  have := inPlace_ne (a := 0) h
  rwa [Nat.zero_add] at this
@[simp] theorem lit_inPlace {b : Nat} (h : b < 1048576) : (b = inPlace) = False := by
  have := ne_inPlace (a := 0) h
  rwa [Nat.zero_add] at this
/-- A function that turns one of its arguments. -/
theorem tabAdd_soundB {P : Program} [Globs P] {T : Tab} {f : Nat} {α : Type} {p : α → Prop} {args : α → List AV} {res out : α → AV} (hT : Sound P T) (h : ∀ a, p a → PFb P f (args a) (res a) (out a)) : Sound P (tabAdd T (f + inPlace) p args fun a => .tup [res a, out a]) := by
  intro g as r hr
  unfold tabAdd at hr
  split at hr
  · rename_i hh
    cases hr
    have key : ∀ (a : α), p a → args a = as → PF P g as (.tup [res a, out a]) := fun a h1 h2 => by
      unfold PF
      rw [hh.1, ← h2, if_neg (Nat.not_lt.2 (Nat.le_add_left _ _)), Nat.add_sub_cancel]
      intro q x' e
      simp only [AV.tup.injEq, List.cons.injEq, and_true] at e
      rw [← e.1, ← e.2]
      exact h a h1
    exact key _ hh.2.choose_spec.1 hh.2.choose_spec.2
  · exact hT g as r hr
theorem tabAdd_eq {T : Tab} {f : Nat} {α : Type} {p : α → Prop} {args : α → List AV} {res : α → AV} (hinj : ∀ a b, args a = args b → res a = res b) {a : α} {as : List AV} (hp : p a) (ha : args a = as) : tabAdd T f p args res f as = some (res a) := by
  unfold tabAdd
  have hh : f = f ∧ ∃ a, p a ∧ args a = as := ⟨rfl, a, hp, ha⟩
  rw [dif_pos hh]
  congr 1
  exact hinj _ _ (hh.2.choose_spec.2.trans ha.symm)
theorem tabAdd_ne {T : Tab} {f g : Nat} {α : Type} {p : α → Prop} {args : α → List AV} {res : α → AV} {as : List AV} (h : g ≠ f) : tabAdd T f p args res g as = T g as := by
  unfold tabAdd
  rw [dif_neg (fun hh => h hh.1)]

@[simp] theorem bytesAV_len (l : List UInt8) : (bytesAV l).length = l.length := by simp [bytesAV]
@[simp] theorem bytesAV_nil : bytesAV [] = [] := rfl
@[simp] theorem bytesAV_get (l : List UInt8) (i : Nat) (h : i < (bytesAV l).length) : (bytesAV l)[i] = .int .u8 ((l[i]'(by simpa using h)).toNat : Int) := by simp [bytesAV]
theorem bytesAV_splice (l : List UInt8) (i : Nat) (h : i < l.length) (y : UInt8) : splice (bytesAV l) i [.int .u8 (y.toNat : Int)] = bytesAV (l.set i y) := by
  unfold splice bytesAV
  rw [List.set_eq_take_append_cons_drop, if_pos h]
  simp
theorem u8_wrap (n : Int) : IntKind.u8.wrap n = n % 256 := by simp [IntKind.wrap, IntKind.signed, IntKind.bits]
theorem u16_wrap (n : Int) : IntKind.u16.wrap n = n % 65536 := by simp [IntKind.wrap, IntKind.signed, IntKind.bits]
theorem u32_wrap (n : Int) : IntKind.u32.wrap n = n % 4294967296 := by simp [IntKind.wrap, IntKind.signed, IntKind.bits]
theorem u64_wrap (n : Int) : IntKind.u64.wrap n = n % 18446744073709551616 := by simp [IntKind.wrap, IntKind.signed, IntKind.bits]
@[simp] theorem u8_inj (a b : UInt8) : (a.toNat : Int) = (b.toNat : Int) ↔ a = b := by
  rw [Int.natCast_inj, UInt8.toNat_inj]
theorem take_one {α : Type} (l : List α) (k : Nat) (h : k < l.length) : l.take (k + 1) = l.take k ++ [l[k]] := by
  rw [List.take_add_one, List.getElem?_eq_getElem h]
  rfl
theorem bytesAV_app (a b : List UInt8) : bytesAV (a ++ b) = bytesAV a ++ bytesAV b := by simp [bytesAV]
@[simp] theorem bytesAV_u8 (l : List UInt8) : ∀ x ∈ bytesAV l, x.isU8 := by
  intro x hx
  simp only [bytesAV, List.mem_map] at hx
  obtain ⟨b, _, rfl⟩ := hx
  trivial
@[simp] theorem bytes_all (l : List UInt8) : (∀ x ∈ bytesAV l, x.isU8) = True := eq_true (bytesAV_u8 l)
theorem byte_toNat (b : UInt8) : UInt8.ofNat b.toNat = b := by
  apply UInt8.toNat_inj.1; rw [UInt8.toNat_ofNat']; exact Nat.mod_eq_of_lt b.toNat_lt
@[simp] theorem bytesAV_back (l : List UInt8) : (bytesAV l).map AV.byte = l := by
  induction l with
  | nil => rfl
  | cons b l ih =>
    have ih' : (bytesAV l).map AV.byte = l := ih
    show AV.byte (.int .u8 b.toNat) :: (bytesAV l).map AV.byte = b :: l
    rw [ih']
    simp only [AV.byte, Int.toNat_natCast, byte_toNat]
@[simp] theorem bytesAV_inj {a b : List UInt8} : bytesAV a = bytesAV b ↔ a = b :=
  ⟨fun h => by rw [← bytesAV_back a, h, bytesAV_back], fun h => by rw [h]⟩
theorem strs_inj {a b : List (List UInt8)} : a.map AV.str = b.map AV.str ↔ a = b := by
  constructor
  · intro h
    induction a generalizing b with
    | nil => cases b with | nil => rfl | cons _ _ => simp at h
    | cons x a ih => cases b with
      | nil => simp at h
      | cons y b => simp at h; rw [h.1, ih h.2]
  · intro h; rw [h]
theorem bytesAV_single (k : Nat) (h : k < 256) : [AV.int .u8 (k : Int)] = bytesAV [UInt8.ofNat k] := by
  simp only [bytesAV, List.map_cons, List.map_nil]
  congr 2
  rw [UInt8.toNat_ofNat', Nat.mod_eq_of_lt h]
/-- The lowest bytes of a number, the highest one first. -/
def beB : Nat → Nat → List UInt8
  | 0, _ => []
  | k + 1, v => UInt8.ofNat (v / 256 ^ k % 256) :: beB k v
@[simp] theorem beB_len (v : Nat) : ∀ k, (beB k v).length = k
  | 0 => rfl
  | k + 1 => by simp [beB, beB_len v k]
theorem beB_take (v : Nat) : ∀ n k, k < n → (beB n v).take (k + 1) = (beB n v).take k ++ [UInt8.ofNat (v / 256 ^ (n - 1 - k) % 256)]
  | 0, k, h => by omega
  | n + 1, 0, _ => by simp [beB]
  | n + 1, k + 1, h => by
    simp only [beB, List.take_succ_cons, List.cons_append]
    rw [beB_take v n k (by omega), show n + 1 - 1 - (k + 1) = n - 1 - k by omega]
end Go.Proofs.Ytbikpgaiocjnoaa.Pad
