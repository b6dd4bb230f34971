/- Texts that are cut, joined, copied and looked through by the library. -/
import Derived.Test.YtbinejcnoogoiaaDoorT0
import Derived.Test.YtbinejcnoogoiaaDoorTS
set_option linter.unusedVariables false
set_option linter.unusedSimpArgs false
namespace Go.Proofs.YtbinejcnoogoiaaDoor
open Go.Proofs.YtbinejcnoogoiaaDoor.Pad Go.Proofs.YtbinejcnoogoiaaDoor.Pad.Route Go.Shelf Go.RowKit
theorem lays143 : Lays.n143 Tryd.prog ren := { lays221 with }
theorem contains_pf (l : List UInt8) : PFx Tryd.prog 29 [.str l, .str [47]] (.bool (l.contains 47)) := by
  refine pf_of_lits rfl rfl fun w => (Any.strings_Contains_one lays144 ⟨l.toArray⟩ 47 w).mono ?_
  rintro e w' ⟨rfl, rfl⟩
  refine ⟨?_, Below.refl _ _⟩
  simp only [AV.litV, ← index_has]
noncomputable def T29 : Tab := tabAdd tabNil 29 (fun _ : (List UInt8) => True) (fun z => [.str z, .str [47]]) (fun z => .bool (z.contains 47))
@[simp] theorem T29_eq (l : List UInt8)  : T29 29 [.str l, .str [47]] = some (.bool (l.contains 47)) := tabAdd_eq (a := l) (by simp +contextual [Int.natCast_inj]) trivial rfl
@[simp] theorem T29_ne {g : Nat} {xs : List AV} (h : g ≠ 29) : T29 g xs = tabNil g xs := tabAdd_ne h
theorem T29_ok : Sound Tryd.prog T29 := tabAdd_sound tabNil_sound fun z _ => contains_pf z 
theorem gensplit_pf (l : List UInt8) (h : l.length ≤ 1000000) : PFx Tryd.prog 33 [.str l, .str [47], .int .i64 0, .int .i64 (-1)] (.row 1 ((pieces l).map .str) (pieces l).length) := by
  have hlen := Lib.splitB_all ⟨#[47]⟩ (by decide) 0 _ ⟨l.toArray⟩ rfl
  have hpl : (pieces l).length = Lib.countB ⟨l.toArray⟩ ⟨#[47]⟩ + 1 := by
    have := congrArg List.length (pieces_B ⟨l.toArray⟩)
    rw [List.length_map, hlen] at this
    exact this.symm
  have hcl := Lib.countB_le ⟨#[47]⟩ (by decide) _ ⟨l.toArray⟩ (Nat.le_refl _)
  have hsz : (ByteArray.mk l.toArray).size = l.length := by simp [ByteArray.size]
  refine pf_of_row (e := 9) rfl (by unfold maxLen; omega) fun w => ?_
  have c := Any.strings_genSplit_core lays221 (by kernel_rfl) ⟨l.toArray⟩ ⟨#[47]⟩ 0 (-1) (Lib.countB ⟨l.toArray⟩ ⟨#[47]⟩ + 1) w (by omega) (by decide) (Nat.zero_le _)
    (fun x c _ => (Any.strings_Index_one lays143 x 47 _).mono fun e w' ⟨he, hw⟩ => ⟨by rw [he, ← Lib.index_one], hw⟩)
    ((Any.strings_Count_one lays138 ⟨l.toArray⟩ 47 w).mono fun e w' ⟨he, hw⟩ => ⟨by
      rw [he]
      show _ = Ending.returned (Value.int .i64 ((Lib.count l.toArray.toList [47] : Nat) : Int))
      rw [Lib.count_one]; rfl, hw⟩) (by decide) (by decide) (by rw [if_pos (by decide)]; omega)
  rw [Nat.add_sub_cancel, hlen] at c
  have e2 : Lib.cellsOf (Lib.splitB ⟨#[47]⟩ 0 (Lib.countB ⟨l.toArray⟩ ⟨#[47]⟩) ⟨l.toArray⟩) (Lib.countB ⟨l.toArray⟩ ⟨#[47]⟩ + 1) = ((pieces l).map fun l => Value.string ⟨l.toArray⟩).toArray := by
    rw [← hlen, Lib.cellsOf_full, ← show _ = pieces l from pieces_B ⟨l.toArray⟩, List.map_map]
    rfl
  rw [e2] at c
  refine c.mono ?_
  rintro e w' ⟨rfl, rfl⟩
  exact ⟨by rw [hpl], rfl⟩
noncomputable def T33 : Tab := tabAdd T29 33 (fun z : (List UInt8) => z.length ≤ 1000000) (fun z => [.str z, .str [47], .int .i64 0, .int .i64 (-1)]) (fun z => .row 1 ((pieces z).map .str) (pieces z).length)
@[simp] theorem T33_eq (l : List UInt8) (h : l.length ≤ 1000000) : T33 33 [.str l, .str [47], .int .i64 0, .int .i64 (-1)] = some (.row 1 ((pieces l).map .str) (pieces l).length) := tabAdd_eq (a := l) (by simp +contextual [Int.natCast_inj]) h rfl
@[simp] theorem T33_ne {g : Nat} {xs : List AV} (h : g ≠ 33) : T33 g xs = T29 g xs := tabAdd_ne h
theorem T33_ok : Sound Tryd.prog T33 := tabAdd_sound T29_ok fun z h => gensplit_pf z h
/-- strings.Split -/
def rc23 : RC :=
  (.seq
   (.reg false [⟨(some 4), .nilR 1, none⟩] [0, 1])
   (.seq
    (.reg false [⟨(some 5), .mov (.t 0), none⟩,
      ⟨(some 6), .mov (.t 1), none⟩,
      ⟨(some 7), .call 33 [(false, (.t 5)), (false, (.t 6)), (false, (.c (.int .i64 0))), (false, (.c (.int .i64 (-1))))], none⟩,
      ⟨(some 4), .steal 7, none⟩] [4])
    .ret))
def rs23 : List RS := [.tmp 4]
/-- strings.Clone -/
def rc28 : RC :=
  (.seq
   (.reg false [⟨(some 2), .mov (.c (.str [])), none⟩] [0])
   (.seq
    (.reg false [⟨(some 3), .mov (.t 0), none⟩,
      ⟨(some 4), .call 37 [(false, (.t 3))], none⟩,
      ⟨(some 2), .mov (.t 4), none⟩] [2])
    .ret))
def rs28 : List RS := [.tmp 2]
theorem pf23 (l : List UInt8) (h : l.length ≤ 1000000) : PFx Tryd.prog 23 [.str l, .str [47]] (.row 1 ((pieces l).map .str) (pieces l).length) := by
  refine PFx_of_W (rc := rc23) (rs := rs23) Tryd.func23 rfl T33_ok hm (by kernel_rfl) (by kernel_rfl) (by simp [Tryd.ntmps23]) ?_
  simp [rc23, rs23, h]
noncomputable def T23 : Tab := tabAdd T33 23 (fun z : (List UInt8) => z.length ≤ 1000000) (fun z => [.str z, .str [47]]) (fun z => .row 1 ((pieces z).map .str) (pieces z).length)
@[simp] theorem T23_eq (l : List UInt8) (h : l.length ≤ 1000000) : T23 23 [.str l, .str [47]] = some (.row 1 ((pieces l).map .str) (pieces l).length) := tabAdd_eq (a := l) (by simp +contextual [Int.natCast_inj]) h rfl
@[simp] theorem T23_ne {g : Nat} {xs : List AV} (h : g ≠ 23) : T23 g xs = T33 g xs := tabAdd_ne h
theorem T23_ok : Sound Tryd.prog T23 := tabAdd_sound T33_ok fun z h => pf23 z h
def renPu : Go.Shelf.Ren := { f := fun n => match n with | 0 => 0 | 1 => 1 | 2 => 2 | 25 => 37 | 41 => 58 | 42 => 59 | 43 => 60 | 44 => 61 | 45 => 62 | 46 => 63 | 47 => 64 | 48 => 65 | 49 => 66 | 50 => 67 | 51 => 68 | 52 => 69 | 53 => 70 | 54 => 71 | 55 => 72 | 59 => 75 | 60 => 80 | n => n, t := fun n => match n with | 0 => 0 | 1 => 1 | 2 => 2 | 3 => 3 | 4 => 4 | 5 => 5 | 6 => 6 | 7 => 7 | 8 => 8 | 9 => 9 | 10 => 10 | 11 => 11 | 12 => 12 | 13 => 13 | 14 => 14 | 15 => 15 | 16 => 16 | 17 => 17 | 18 => 18 | 19 => 19 | 20 => 20 | 21 => 21 | 22 => 72 | 23 => 50 | 24 => 51 | 36 => 65 | 37 => 47 | 38 => 34 | 42 => 33 | 47 => 67 | 57 => 79 | 60 => 75 | 62 => 24 | 67 => 54 | 68 => 83 | 69 => 84 | 70 => 85 | 71 => 86 | 72 => 87 | 73 => 88 | 74 => 89 | 75 => 90 | 76 => 91 | 77 => 92 | 78 => 93 | 79 => 94 | 80 => 95 | 81 => 73 | n => n, g := fun n => match n with  | n => n }
theorem laysClone : LaysPu.n25 Tryd.prog renPu := by
  constructor
  all_goals first | kernel_rfl | (intro w; kernel_rfl)
theorem cloneIn_pf (l : List UInt8) (h : l.length ≤ 1000000) : PFx Tryd.prog 37 [.str l] (.str l) :=
  pf_of_str fun w => AnyPu.stringslite_Clone laysClone ⟨l.toArray⟩ w (by show l.toArray.size ≤ _; simp; omega)
noncomputable def T37 : Tab := tabAdd T23 37 (fun z : (List UInt8) => z.length ≤ 1000000) (fun z => [.str z]) (fun z => .str z)
@[simp] theorem T37_eq (l : List UInt8) (h : l.length ≤ 1000000) : T37 37 [.str l] = some (.str l) := tabAdd_eq (a := l) (by simp +contextual [Int.natCast_inj]) h rfl
@[simp] theorem T37_ne {g : Nat} {xs : List AV} (h : g ≠ 37) : T37 g xs = T23 g xs := tabAdd_ne h
theorem T37_ok : Sound Tryd.prog T37 := tabAdd_sound T23_ok fun z h => cloneIn_pf z h
theorem pf28 (l : List UInt8) (h : l.length ≤ 1000000) : PFx Tryd.prog 28 [.str l] (.str l) := by
  refine PFx_of_W (rc := rc28) (rs := rs28) Tryd.func28 rfl T37_ok hm (by kernel_rfl) (by kernel_rfl) (by simp [Tryd.ntmps28]) ?_
  simp [rc28, rs28, h]
noncomputable def T28 : Tab := tabAdd T37 28 (fun z : (List UInt8) => z.length ≤ 1000000) (fun z => [.str z]) (fun z => .str z)
@[simp] theorem T28_eq (l : List UInt8) (h : l.length ≤ 1000000) : T28 28 [.str l] = some (.str l) := tabAdd_eq (a := l) (by simp +contextual [Int.natCast_inj]) h rfl
@[simp] theorem T28_ne {g : Nat} {xs : List AV} (h : g ≠ 28) : T28 g xs = T37 g xs := tabAdd_ne h
theorem T28_ok : Sound Tryd.prog T28 := tabAdd_sound T37_ok fun z h => pf28 z h
theorem join_pf (ps : List (List UInt8)) (h : ps.length ≤ 1000000 ∧ (joinL ps).length ≤ 1000000) : PFx Tryd.prog 30 [.sl (ps.map .str) ps.length, .str [47]] (.str (joinL ps)) := by
  intro w F Os vs _ hvs hargs hsep hdis hinF hinO
  obtain ⟨a, b, rfl⟩ : ∃ a b, vs = #[a, b] := by
    obtain ⟨l⟩ := vs
    match l, hvs with
    | [a, b], _ => exact ⟨a, b, rfl⟩
  have ha := (hargs 0 _ a rfl rfl).1
  have hb := (hargs 1 _ b rfl rfl).1
  simp only [RepTop, Rep] at ha hb
  subst hb
  have fin : ∀ w', Below w.heap.size w w' → ∃ v F' O', (Ending.returned (.string ⟨(joinL ps).toArray⟩) : Ending) = .returned v ∧ Post w F (fun b o => ∃ i, Os i b o) (.str (joinL ps)) v w' F' O' := fun w' hb =>
    ⟨_, F, NoFp, rfl, chg_of_below hb, by simp only [RepTop, Rep], fun _ _ hn => hn.elim, fun b o hF => .inl hF, fun _ _ hn => hn.elim, fun b o hF => Nat.lt_of_lt_of_le (hinF b o hF) hb.size, fun _ _ hn => hn.elim, trivial⟩
  obtain ⟨ao, c, rfl, h1, h2, h3⟩ := ha
  rcases h3 with ⟨h3, h4⟩ | ⟨bk, o, rfl, h3⟩
  · obtain rfl : ps = [] := by simpa using h3
    refine (Any.strings_Join_none lays156 extra ao c ⟨#[47]⟩ w).mono ?_
    rintro e w' ⟨rfl, rfl⟩
    exact fin w' (Below.refl _ _)
  · by_cases hps : ps = []
    · subst hps
      refine (Any.strings_Join_none lays156 extra _ c ⟨#[47]⟩ w).mono ?_
      rintro e w' ⟨rfl, rfl⟩
      exact fin w' (Below.refl _ _)
    · have hcell : ∀ (qs : List (List UInt8)) (o : Nat), RepAt w F (qs.map .str) bk o → ∀ (j : Nat) (x : ByteArray), (qs.map fun l => ByteArray.mk l.toArray)[j]? = some x → w.cell? ⟨bk, o + j, none⟩ = some (.string x) := by
        intro qs
        induction qs with
        | nil => intro o _ j x hx; simp at hx
        | cons q qs ih =>
          intro o hr j x hx
          simp only [List.map_cons, RepAt, Rep] at hr
          obtain ⟨⟨v, e1, _, rfl⟩, _, e3⟩ := hr
          cases j with
          | zero =>
            simp at hx
            subst hx
            exact e1
          | succ j =>
            have := ih (o + 1) e3 j x (by simpa using hx)
            rwa [show o + 1 + j = o + (j + 1) by omega] at this
      have hin : bk < w.heap.size := by
        cases ps with
        | nil => exact (hps rfl).elim
        | cons p ps =>
          simp only [List.map_cons, RepAt] at h3
          exact hinF _ _ h3.2.1
      have hmap : ((ps.map fun l => ByteArray.mk l.toArray).map (·.data.toList)) = ps := by
        rw [List.map_map]
        exact List.map_id' ps
      have hj : Lib.join ((ps.map fun l => ByteArray.mk l.toArray).map (·.data.toList)) (ByteArray.mk #[47]).data.toList = joinL ps := by
        rw [hmap]; exact join_kit ps
      have hc := Any.strings_Join lays156 extra bk o c (ps.map fun l => ByteArray.mk l.toArray) ⟨#[47]⟩ w (hcell ps o h3) hin (by simp; omega) (by simpa using h1) (by rw [hj]; omega)
      rw [hj, List.length_map] at hc
      refine Calls.mono hc ?_
      rintro e w' ⟨rfl, hb⟩
      exact fin w' hb
noncomputable def T30 : Tab := tabAdd T28 30 (fun z : (List (List UInt8)) => z.length ≤ 1000000 ∧ (joinL z).length ≤ 1000000) (fun z => [.sl (z.map .str) z.length, .str [47]]) (fun z => .str (joinL z))
@[simp] theorem T30_eq (ps : List (List UInt8)) (h : ps.length ≤ 1000000 ∧ (joinL ps).length ≤ 1000000) : T30 30 [.sl (ps.map .str) ps.length, .str [47]] = some (.str (joinL ps)) := tabAdd_eq (a := ps) (by simp +contextual [Int.natCast_inj]) h rfl
@[simp] theorem T30_ne {g : Nat} {xs : List AV} (h : g ≠ 30) : T30 g xs = T28 g xs := tabAdd_ne h
theorem T30_ok : Sound Tryd.prog T30 := tabAdd_sound T28_ok fun z h => join_pf z h
end Go.Proofs.YtbinejcnoogoiaaDoor

