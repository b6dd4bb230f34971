/- What is left of a text, by a walk of the program itself. -/
import Derived.Test.YtbinejcnoogoiaaDoorT2
import Derived.Test.YtbinejcnoogoiaaDoorTE
set_option linter.unusedVariables false
set_option linter.unusedSimpArgs false
namespace Go.Proofs.YtbinejcnoogoiaaDoor
open Go.Proofs.YtbinejcnoogoiaaDoor.Pad Go.Proofs.YtbinejcnoogoiaaDoor.Pad.Route Go.Proofs.YtbinejcnoogoiaaDoor.Pad.Runes Go.Shelf Go.RowKit
theorem lays168 : Lays.n168 Tryd.prog ren := by
  constructor
  all_goals first | kernel_rfl | (intro w; kernel_rfl)
theorem lays169 : Lays.n169 Tryd.prog ren := by
  constructor
  all_goals first | kernel_rfl | (intro w; kernel_rfl)
theorem writeRune (B b : Nat) (bs : List Value) (r : Int) (hr0 : -2147483648 ≤ r) (hr1 : r ≤ 2147483647) (w : World) (h : Lib.IsBuilderF 49 5 B b bs w) (hlen : bs.length + 4 ≤ 140737488355328) (hBw : B ≤ w.heap.size) :
    Calls Tryd.prog 26 #[.pointer (some ⟨b, 0, none⟩), .int .i32 r] w fun e w' => e = .returned (.tuple #[.int .i64 (Lib.runeCells r).length, .nilIface]) ∧ (Lib.BuilderAtF 49 5 B b (.pointer (some ⟨b, 0, none⟩)) (bs ++ Lib.runeCells r) w' ∧ Below B w w' ∧ Lib.OthersKept 5 (some b) w w') :=
  Any.Builder_WriteRune_k lays168 extra B b bs r hr0 hr1 w h hlen hBw
theorem builderString (B b : Nat) (l : List UInt8) (w : World) (h : Lib.IsBuilderF 49 5 B b (Lib.byteCells l) w) (hBw : B ≤ w.heap.size) :
    Calls Tryd.prog 27 #[.pointer (some ⟨b, 0, none⟩)] w fun e w' => e = .returned (.string ⟨l.toArray⟩) ∧ (Lib.IsBuilderF 49 5 B b (Lib.byteCells l) w' ∧ Below B w w' ∧ Lib.OthersKept 5 (some b) w w') :=
  Any.Builder_String_any_k lays169 extra B b l w h hBw
theorem kept (t : Int × List UInt8) (ts : List (Int × List UInt8)) : ((t :: ts).filter (okc ·.1)).flatMap (·.2) = (if okc t.1 = true then t.2 else []) ++ (ts.filter (okc ·.1)).flatMap (·.2) := by
  rw [List.filter_cons]
  split <;> simp [*]
theorem nx_bad (l : List UInt8) (i : Nat) (h : (nx l i).1 < 0) : (nx l i).2 = 1 := by
  revert h
  unfold nx
  repeat' split
  all_goals (simp; try omega)
/-- One character, as the model has it. -/
theorem step_tok (l : List UInt8) (pos : Nat) (hp : pos < l.length) : ∃ c n : Nat, dec l pos = (c, n) ∧ 1 ≤ n ∧ pos + n ≤ l.length ∧ n ≤ 4 ∧ c ≤ 1114111 ∧
    ((toks (l.drop pos)).filter (okc ·.1)).flatMap (·.2) = (if okc (c : Int) = true then Lib.encodeRune (c : Int) else []) ++ ((toks (l.drop (pos + n))).filter (okc ·.1)).flatMap (·.2) := by
  have h1 := nx_pos l pos
  have h2 := nx_le l pos hp
  have h3 := nx_hi l pos
  have h5 := nx_four l pos
  rw [toks_at l pos hp, kept, dec_nx]
  by_cases hb : (nx l pos).1 < 0
  · have h6 := nx_bad l pos hb
    refine ⟨65533, 1, by rw [if_pos hb], by omega, by omega, by omega, by omega, ?_⟩
    have : okc (nx l pos).1 = false := by
      cases hh : okc (nx l pos).1
      · rfl
      · have := okc_lo hh; omega
    rw [this, h6]
    rfl
  · refine ⟨(nx l pos).1.toNat, (nx l pos).2, by rw [if_neg hb], h1, h2, h5, by omega, ?_⟩
    rw [Int.toNat_of_nonneg (by omega)]
    cases hh : okc (nx l pos).1
    · rfl
    · rw [if_pos rfl, if_pos rfl, enc_tok l pos hp hh]
set_option maxHeartbeats 4000000 in
set_option maxRecDepth 1000000 in
theorem clean_walk (l : List UInt8) (w : World) (hl : l.length ≤ 1000000) :
    Calls Tryd.prog 16 #[.string ⟨l.toArray⟩] w fun e w' => e = .returned (.string ⟨(cleanL l).toArray⟩) ∧ Below w.heap.size w w' := by
  generalize hs : ByteArray.mk l.toArray = s
  have hsz : s.size = l.length := by subst hs; simp [ByteArray.size]
  have hdec : ∀ pos, Utf8.decode s pos = dec l pos := fun pos => by subst hs; rfl
  go_enter Tryd.func16, Tryd.ntmps16
  go_wp2
  go_loopw [] (fun wr => ∃ (pos : Nat) (acc : List UInt8), Lib.IsBuilderF 49 5 w.heap.size w.heap.size (Lib.byteCells acc) wr ∧ wr.heap[w.heap.size + 1]? = some (.stringIter s pos) ∧ Below w.heap.size w wr ∧ acc ++ ((toks (l.drop pos)).filter (okc ·.1)).flatMap (·.2) = cleanL l ∧ pos ≤ l.length ∧ acc.length ≤ 4 * pos) (fun wr => s.size - wr.iterPos (w.heap.size + 1))
  case atStart =>
    refine ⟨0, [], (Lib.IsBuilderF.of (Lib.fresh_isBuilder 49 5 w)).alloc _, ?_, ((Below.refl _ w).alloc (Nat.le_refl _) _).alloc (by simp) _, rfl, by omega, by simp⟩
    have := World.iter_heap (w.alloc (.cells #[.pointer none, .slice none 0 0] 49)) s 0
    simpa using this
  case round =>
    obtain ⟨pos, acc, hI, hit, hbw, hacc, hle, hal⟩ := hrel
    have hsz1 : w.heap.size + 1 < wr.heap.size := (Array.getElem?_eq_some_iff.1 hit).1
    by_cases hp : pos < s.size
    · have hpl : pos < l.length := by omega
      obtain ⟨c, n, hE, hn1, hn2, hn4, hc1, hrest⟩ := step_tok l pos hpl
      have hE' : Utf8.decode s pos = (c, n) := by rw [hdec, hE]
      have hnx := fun ty => Lib.run_next_any_at (P := Tryd.prog) wr (w.heap.size + 1) s pos ty hit hp
      rw [hE'] at hnx
      simp only at hnx
      have hI2 := hI.iterAt hit (pos + n)
      have hit2 := Lib.iterAt_heap wr (w.heap.size + 1) s pos (pos + n) hit
      have hbw2 := Lib.below_iterAt hbw (k := w.heap.size + 1) (by omega) s (pos + n)
      have hsz2 : w.heap.size ≤ (wr.iterAt (w.heap.size + 1) s (pos + n)).heap.size := by rw [Lib.iterAt_size]; omega
      have hacc2 := hacc
      rw [hrest] at hacc2
      clear hrest hE hE' hdec
      cases hok : okc (c : Int)
      · have hrc : ∀ w', Calls Tryd.prog 8 #[.int .i32 c] w' fun e w'' => e = .returned (.bool false) ∧ w'' = w' := fun w' => by
          have := rune_calls c w' (by omega) (by omega); rwa [hok] at this
        go_wp2_with (first
          | (go_at_call 8; refine (hrc _).mono ?_; rintro e W0 ⟨rfl, rfl⟩))
        go_roundw
        case rel =>
          refine ⟨pos + n, acc, hI2, hit2, hbw2, ?_, by omega, by omega⟩
          rw [hok] at hacc2
          simpa using hacc2
        case measure =>
          simp only [World.iterPos, hit2, hit]
          omega
      · have hrc : ∀ w', Calls Tryd.prog 8 #[.int .i32 c] w' fun e w'' => e = .returned (.bool true) ∧ w'' = w' := fun w' => by
          have := rune_calls c w' (by omega) (by omega); rwa [hok] at this
        go_wp2_with (first
          | (go_at_call 8; refine (hrc _).mono ?_; rintro e W0 ⟨rfl, rfl⟩)
          | (go_at_call 26; refine (writeRune w.heap.size w.heap.size _ _ (by omega) (by omega) _ hI2 (by rw [Lib.byteCells_length]; omega) hsz2).mono ?_))
        rintro e W1 ⟨rfl, h1, b1, k1⟩
        go_wp2
        go_roundw
        case rel =>
          have hl4 := Lib.runeCells_le (c : Int)
          rw [Lib.runeCells_length] at hl4
          refine ⟨pos + n, acc ++ Lib.encodeRune c, ?_, k1.iter hit2 (by omega), hbw2.trans b1, ?_, by omega, by simp; omega⟩
          · rw [Lib.byteCells_append, Lib.byteCells_encodeRune]; exact Or.inr h1
          · rw [hok] at hacc2
            simpa using hacc2
        case measure =>
          simp only [World.iterPos, k1.iter hit2 (by omega), hit]
          omega
    · have hnx : ∀ ty, (Instr.next (.pointer (some ⟨w.heap.size + 1, 0, none⟩)) true ty).run Tryd.prog wr = _ := fun ty => Lib.run_next_end_at wr (w.heap.size + 1) s pos ty hit hp
      go_wp2_with (go_at_call 27; refine (builderString w.heap.size w.heap.size acc _ hI (by omega)).mono ?_)
      rintro e W1 ⟨rfl, _, b1, _⟩
      go_wp2
      go_ret
      rw [List.drop_eq_nil_of_le (by omega), toks_nil] at hacc
      simp only [List.filter_nil, List.flatMap_nil, List.append_nil] at hacc
      subst hacc
      exact ⟨rfl, hbw.trans b1⟩
theorem clean_pf (l : List UInt8) (h : l.length ≤ 1000000) : PFx Tryd.prog 16 [.str l] (.str (cleanL l)) := pf_of_str fun w => clean_walk l w h
noncomputable def T16 : Tab := tabAdd T30 16 (fun z : (List UInt8) => z.length ≤ 1000000) (fun z => [.str z]) (fun z => .str (cleanL z))
@[simp] theorem T16_eq (l : List UInt8) (h : l.length ≤ 1000000) : T16 16 [.str l] = some (.str (cleanL l)) := tabAdd_eq (a := l) (by simp +contextual [Int.natCast_inj]) h rfl
@[simp] theorem T16_ne {g : Nat} {xs : List AV} (h : g ≠ 16) : T16 g xs = T30 g xs := tabAdd_ne h
theorem T16_ok : Sound Tryd.prog T16 := tabAdd_sound T30_ok fun z h => clean_pf z h
end Go.Proofs.YtbinejcnoogoiaaDoor

