/- Texts that are found in others, cut, copied, compared and sorted by the library. -/
import Derived.Test.YtnhelmnenhphjaaU0
set_option linter.unusedVariables false
set_option linter.unusedSimpArgs false
namespace Go.Proofs.Ytnhelmnenhphjaa
open Go.Proofs.Ytnhelmnenhphjaa.Pad Go.Proofs.Ytnhelmnenhphjaa.Pad.Under Go.Shelf Go.RowKit Go.Sort
/-- Where a byte stands first, or -1. -/
def ix (l : Tx) : Int := if fst47 l < l.length then (fst47 l : Int) else -1
theorem ix_eq : ∀ l : Tx, Lib.indexByte l 47 = ix l
  | [] => by simp [Lib.indexByte, ix, fst47]
  | x :: l => by
    have ih := ix_eq l
    unfold Lib.indexByte
    unfold ix fst47 at ih ⊢
    by_cases h : x = 47
    · subst h; simp
    · have h' : ¬ (x == 47) = true := by simpa using h
      simp [h] at ih ⊢
      rw [ih]
      split <;> split <;> omega
theorem index_pf (l : Tx) : PFx Try.prog 29 [.str l, .str [47]] (.int .i64 (ix l)) := by
  refine pf_of_lits rfl rfl fun w => (Any.strings_Index_one lays143 ⟨l.toArray⟩ 47 w).mono ?_
  rintro e w' ⟨rfl, rfl⟩
  refine ⟨?_, Below.refl _ _⟩
  simp only [AV.litRV, AV.litV, ← ix_eq]
noncomputable def T29 : Tab := tabAdd tabNil 29 (fun _ : Tx => True) (fun z => [.str z, .str [47]]) (fun z => .int .i64 (ix z))
@[simp] theorem T29_eq (l : Tx)  : T29 29 [.str l, .str [47]] = some (.int .i64 (ix l)) := tabAdd_eq (a := l) (by simp +contextual [Int.natCast_inj]) trivial rfl
@[simp] theorem T29_ne {g : Nat} {xs : List AV} (h : g ≠ 29) : T29 g xs = tabNil g xs := tabAdd_ne h
theorem T29_ok : Sound Try.prog T29 := tabAdd_sound tabNil_sound fun z _ => index_pf z 
/-- Where a slash stands last among the first k, or -1. -/
def lxK (l : Tx) : Nat → Int
  | 0 => -1
  | k + 1 => if l[k]? = some 47 then (k : Int) else lxK l k
def lx (l : Tx) : Int := lxK l l.length
theorem lxK_eq (l : Tx) : ∀ k, k ≤ l.length → Lib.lastIdx ⟨l.toArray⟩ 47 k = lxK l k
  | 0, _ => rfl
  | k + 1, h => by
    have hk : k < l.length := by omega
    unfold Lib.lastIdx lxK
    rw [lxK_eq l k (by omega)]
    have : (((ByteArray.mk l.toArray).data[k]!).toNat : Int) = 47 ↔ l[k]? = some 47 := by
      rw [List.getElem?_eq_getElem hk]
      simp [hk]
      rw [← UInt8.toNat_inj]
      show _ ↔ _ = 47
      omega
    by_cases h4 : l[k]? = some 47
    · rw [if_pos (this.2 h4), if_pos h4]
    · rw [if_neg (fun hh => h4 (this.1 hh)), if_neg h4]
theorem par_lx (l : Tx) : ∀ k, k ≤ l.length → (lxK l k = -1 ∧ parK l k = []) ∨ (0 ≤ lxK l k ∧ lxK l k < k ∧ parK l k = l.take (lxK l k).toNat)
  | 0, _ => .inl ⟨rfl, rfl⟩
  | k + 1, h => by
    unfold lxK parK
    by_cases h4 : l[k]? = some 47
    · rw [if_pos h4, if_pos h4]
      exact .inr ⟨by omega, by omega, by simp⟩
    · rw [if_neg h4, if_neg h4]
      rcases par_lx l k (by omega) with h1 | ⟨h1, h2, h3⟩
      · exact .inl h1
      · exact .inr ⟨h1, by omega, h3⟩
theorem last_pf (l : Tx) (h : l.length ≤ 1000000) : PFx Try.prog 32 [.str l, .str [47]] (.int .i64 (lx l)) := by
  refine pf_of_lits rfl rfl fun w => (Any.strings_LastIndex_one lays148 ⟨l.toArray⟩ ⟨#[47]⟩ rfl (by show l.toArray.size < _; simp; omega) w).mono ?_
  rintro e w' ⟨rfl, rfl⟩
  refine ⟨?_, Below.refl _ _⟩
  simp only [AV.litRV, AV.litV, lx, ← lxK_eq l l.length (Nat.le_refl _)]
  rfl
noncomputable def T32 : Tab := tabAdd T29 32 (fun z : Tx => z.length ≤ 1000000) (fun z => [.str z, .str [47]]) (fun z => .int .i64 (lx z))
@[simp] theorem T32_eq (l : Tx) (h : l.length ≤ 1000000) : T32 32 [.str l, .str [47]] = some (.int .i64 (lx l)) := tabAdd_eq (a := l) (by simp +contextual [Int.natCast_inj]) h rfl
@[simp] theorem T32_ne {g : Nat} {xs : List AV} (h : g ≠ 32) : T32 g xs = T29 g xs := tabAdd_ne h
theorem T32_ok : Sound Try.prog T32 := tabAdd_sound T29_ok fun z h => last_pf z h
def cutP (s t : Tx) : Tx := if t.isPrefixOf s then s.drop t.length else s
theorem cut_pf (s t : Tx) : PFx Try.prog 39 [.str s, .str t] (.tup [.str (cutP s t), .bool (t.isPrefixOf s)]) := by
  refine pf_of_lits rfl rfl fun w => (Any.strings_CutPrefix lays103 ⟨s.toArray⟩ ⟨t.toArray⟩ w).mono ?_
  rintro e w' ⟨rfl, rfl⟩
  exact ⟨rfl, Below.refl _ _⟩
noncomputable def T39 : Tab := tabAdd T32 39 (fun _ : Tx × Tx => True) (fun z => [.str z.1, .str z.2]) (fun z => .tup [.str (cutP z.1 z.2), .bool (z.2.isPrefixOf z.1)])
@[simp] theorem T39_eq (s : Tx) (t : Tx)  : T39 39 [.str s, .str t] = some (.tup [.str (cutP s t), .bool (t.isPrefixOf s)]) := tabAdd_eq (a := (s, t)) (by simp +contextual [Int.natCast_inj]) trivial rfl
@[simp] theorem T39_ne {g : Nat} {xs : List AV} (h : g ≠ 39) : T39 g xs = T32 g xs := tabAdd_ne h
theorem T39_ok : Sound Try.prog T39 := tabAdd_sound T32_ok fun z _ => cut_pf z.1 z.2 
theorem cloneIn_pf (l : Tx) (h : l.length ≤ 1000000) : PFx Try.prog 41 [.str l] (.str l) :=
  pf_of_str fun w => AnyPu.stringslite_Clone laysClone ⟨l.toArray⟩ w (by show l.toArray.size ≤ _; simp; omega)
noncomputable def T41 : Tab := tabAdd T39 41 (fun z : Tx => z.length ≤ 1000000) (fun z => [.str z]) (fun z => .str z)
@[simp] theorem T41_eq (l : Tx) (h : l.length ≤ 1000000) : T41 41 [.str l] = some (.str l) := tabAdd_eq (a := l) (by simp +contextual [Int.natCast_inj]) h rfl
@[simp] theorem T41_ne {g : Nat} {xs : List AV} (h : g ≠ 41) : T41 g xs = T39 g xs := tabAdd_ne h
theorem T41_ok : Sound Try.prog T41 := tabAdd_sound T39_ok fun z h => cloneIn_pf z h
/-- strings.Clone -/
def rc30 : RC :=
  (.seq
   (.reg false [⟨(some 2), .mov (.c (.str [])), none⟩] [0])
   (.seq
    (.reg false [⟨(some 3), .mov (.t 0), none⟩,
      ⟨(some 4), .call 41 [(false, (.t 3))], none⟩,
      ⟨(some 2), .mov (.t 4), none⟩] [2])
    .ret))
def rs30 : List RS := [.tmp 2]
theorem pf30 (l : Tx) (h : l.length ≤ 1000000) : PFx Try.prog 30 [.str l] (.str l) := by
  refine PFx_of_W (rc := rc30) (rs := rs30) Try.func30 rfl T41_ok hm (by kernel_rfl) (by kernel_rfl) (by simp [Try.ntmps30]) ?_
  simp [rc30, rs30, h]
noncomputable def T30 : Tab := tabAdd T41 30 (fun z : Tx => z.length ≤ 1000000) (fun z => [.str z]) (fun z => .str z)
@[simp] theorem T30_eq (l : Tx) (h : l.length ≤ 1000000) : T30 30 [.str l] = some (.str l) := tabAdd_eq (a := l) (by simp +contextual [Int.natCast_inj]) h rfl
@[simp] theorem T30_ne {g : Nat} {xs : List AV} (h : g ≠ 30) : T30 g xs = T41 g xs := tabAdd_ne h
theorem T30_ok : Sound Try.prog T30 := tabAdd_sound T41_ok fun z h => pf30 z h
/-- The order that the sort is told. -/
theorem cmp_calls (a b : Tx) (w : World) : Calls Try.prog 35 #[.string ⟨a.toArray⟩, .string ⟨b.toArray⟩] w fun e w' => e = .returned (.int .i64 (Lib.compareBytes a b)) ∧ w' = w := by
  have hc := Any.strings_Compare lays106 ⟨a.toArray⟩ ⟨b.toArray⟩ w
  go_enter Try.func35, Try.ntmps35
  go_wp2_with (go_at_call 36; refine hc.mono ?_; rintro e w' ⟨rfl, rfl⟩)
  go_ret
  exact ⟨rfl, rfl⟩
theorem lt_cmp : ltOf Lib.compareBytes = ltStr := by
  funext a b
  exact cmp_lt a b
theorem cmp_enters (args : Array Value) (w : World) : (callFunc 35 args).run Try.prog w = .ok (.enter 35 args) w :=
  enters_of Try.func35 (by kernel_rfl) rfl args w
theorem sort_pf (ls : List Tx) (h : ls.length ≤ 1000000) : PFb Try.prog 34 [.mrow 1 (ls.map .str) ls.length, .fn 35 []] (.tup [])
    (.mrow 1 ((ls.mergeSort fun x y => !ltStr y x).map .str) ls.length) := by
  have := pfb_texts (P := Try.prog) (f := 34) (ls := ls) (ls' := ls.mergeSort fun x y => !ltStr y x) (rest := [.fn 35 []]) rfl (List.length_mergeSort ls)
    (fun _ w => AnyF.slices_SortFunc_none { laysSort with } none 0 (.func (.func 35) #[] #[]) w)
    (fun w blk c hH hb hc => by
      have := Any.slices_SortFunc_total laysSort encStr (fun _ => rfl) Lib.compareBytes (by rw [lt_cmp]; exact swo_ltStr) 35 #[] blk 0 c ls.toArray w cmp_enters
        (fun m os dk hs x y => (cmp_calls x y _).mono fun e w' ⟨he, hw⟩ => ⟨he, 0, #[], by rw [hw, grow_empty]; rfl⟩) hH hb (by simp; omega) (by rw [lt_cmp]; exact tot_lt)
      rw [lt_cmp] at this
      simp only [sortWorld, List.size_toArray] at this
      exact this)
  rwa [List.length_mergeSort] at this
noncomputable def T34B : Tab := tabAdd T30 (34 + inPlace) (fun z : (List Tx) => z.length ≤ 1000000) (fun z => [.mrow 1 (z.map .str) z.length, .fn 35 []]) (fun z => .tup [.tup [], .mrow 1 ((z.mergeSort fun x y => !ltStr y x).map .str) z.length])
@[simp] theorem T34B_eq (ls : List Tx) (h : ls.length ≤ 1000000) : T34B (34 + inPlace) [.mrow 1 (ls.map .str) ls.length, .fn 35 []] = some (.tup [.tup [], .mrow 1 ((ls.mergeSort fun x y => !ltStr y x).map .str) ls.length]) := tabAdd_eq (a := ls) (by simp +contextual [Int.natCast_inj]) h rfl
@[simp] theorem T34B_ne {g : Nat} {xs : List AV} (h : g ≠ 34 + inPlace) : T34B g xs = T30 g xs := tabAdd_ne h
theorem T34B_ok : Sound Try.prog T34B := tabAdd_soundB T30_ok fun z h => sort_pf z h
theorem compact_pf (ls : List Tx) (h : ls.length ≤ 1000000) : PFx Try.prog 37 [.mrow 1 (ls.map .str) ls.length] (.row 1 ((Lib.compact ls).map .str) (Lib.compact ls).length) := by
  have := pf_texts_row (P := Try.prog) (f := 37) (ls := ls) (fs := Lib.compact ls ++ List.replicate (ls.length - (Lib.compact ls).length) []) (m := (Lib.compact ls).length) (rest := []) rfl
    (by have := compact_len ls; simp; omega) (compact_len ls)
    (fun _ w => Any.slices_Compact_string_empty lays194 none 0 w)
    (fun w blk c hH hb hc => by
      refine (Any.slices_Compact_string lays194 blk 0 c ls w hH (by omega) hc).mono ?_
      rintro e w' ⟨he, q, hw⟩
      exact ⟨he, q, #[], by rw [hw]; simp⟩)
  rwa [List.take_left] at this
noncomputable def T37 : Tab := tabAdd T34B 37 (fun z : (List Tx) => z.length ≤ 1000000) (fun z => [.mrow 1 (z.map .str) z.length]) (fun z => .row 1 ((Lib.compact z).map .str) (Lib.compact z).length)
@[simp] theorem T37_eq (ls : List Tx) (h : ls.length ≤ 1000000) : T37 37 [.mrow 1 (ls.map .str) ls.length] = some (.row 1 ((Lib.compact ls).map .str) (Lib.compact ls).length) := tabAdd_eq (a := ls) (by simp +contextual [Int.natCast_inj]) h rfl
@[simp] theorem T37_ne {g : Nat} {xs : List AV} (h : g ≠ 37) : T37 g xs = T34B g xs := tabAdd_ne h
theorem T37_ok : Sound Try.prog T37 := tabAdd_sound T34B_ok fun z h => compact_pf z h
end Go.Proofs.Ytnhelmnenhphjaa

