/- Join, Seal, Open, of crc and of the document. -/
import Derived.Test.YtpphhgaeoljioaaC1
import Derived.Shelf.Pu.Clone
namespace Go.Proofs.Ytpphhgaeoljioaa
open Go.Proofs.Ytpphhgaeoljioaa.Pad Go.Proofs.Ytpphhgaeoljioaa.Pad.Crc Go.Shelf Go.RowKit
/-- strings.Clone -/
def rc26 : RC :=
  (.seq
   (.reg false [⟨(some 2), .mov (.c (.str [])), none⟩] [0])
   (.seq
    (.reg false [⟨(some 3), .mov (.t 0), none⟩,
      ⟨(some 4), .call 27 [(false, (.t 3))], none⟩,
      ⟨(some 2), .mov (.t 4), none⟩] [2])
    .ret))
def rs26 : List RS := [.tmp 2]
def ren : Ren := { f := fun n => if n = 25 then 27 else n, t := fun n => match n with | 37 => 40 | 47 => 49 | n => n, g := fun n => n }
theorem lays : LaysPu.n25 Try.prog ren := by
  constructor
  all_goals first | kernel_rfl | (intro w; kernel_rfl)
theorem cloneIn_pf (l : List UInt8) (h : l.length ≤ 1000000) : PFx Try.prog 27 [.str l] (.str l) :=
  pf_of_str fun w => AnyPu.stringslite_Clone lays ⟨l.toArray⟩ w (by show l.toArray.size ≤ _; simp; omega)
noncomputable def T27 : Tab := tabAdd T16 27 (fun z : (List UInt8) => z.length ≤ 1000000) (fun z => [.str z]) (fun z => .str z)
@[simp] theorem T27_eq (l : List UInt8) (h : l.length ≤ 1000000) : T27 27 [.str l] = some (.str l) := tabAdd_eq (a := l) (by simp +contextual) h rfl
@[simp] theorem T27_ne {g : Nat} {xs : List AV} (h : g ≠ 27) : T27 g xs = T16 g xs := tabAdd_ne h
theorem T27_ok : Sound Try.prog T27 := tabAdd_sound T16_ok fun z h => cloneIn_pf z h
theorem clone_pf (l : List UInt8) (h : l.length ≤ 1000000) : PFx Try.prog 26 [.str l] (.str l) := by
  refine PFx_of_W (rc := rc26) (rs := rs26) Try.func26 rfl T27_ok hm (by kernel_rfl) (by kernel_rfl) (by simp [Try.ntmps26]) ?_
  simp [rc26, rs26, h]
noncomputable def T26 : Tab := tabAdd T27 26 (fun z : (List UInt8) => z.length ≤ 1000000) (fun z => [.str z]) (fun z => .str z)
@[simp] theorem T26_eq (l : List UInt8) (h : l.length ≤ 1000000) : T26 26 [.str l] = some (.str l) := tabAdd_eq (a := l) (by simp +contextual) h rfl
@[simp] theorem T26_ne {g : Nat} {xs : List AV} (h : g ≠ 26) : T26 g xs = T27 g xs := tabAdd_ne h
theorem T26_ok : Sound Try.prog T26 := tabAdd_sound T27_ok fun z h => clone_pf z h
theorem join_pf (a b : B) (n : Int) : PFx Try.prog 21 [.int .u32 (rg a), .int .u32 (rg b), .int .i64 n] (.int .u32 (rg (skipN (skipC n) a ^^^ b))) := by
  refine PFx_of_W (rc := rc21) (rs := rs21) Try.func21 rfl T26_ok hm (by kernel_rfl) (by kernel_rfl) (by simp [Try.ntmps21]) ?_
  simp [rc21, rs21, bx_xor]
noncomputable def T21 : Tab := tabAdd T26 21 (fun _ : B × B × Int => True) (fun z => [.int .u32 (rg z.1), .int .u32 (rg z.2.1), .int .i64 z.2.2]) (fun z => .int .u32 (rg (skipN (skipC z.2.2) z.1 ^^^ z.2.1)))
@[simp] theorem T21_eq (a : B) (b : B) (n : Int)  : T21 21 [.int .u32 (rg a), .int .u32 (rg b), .int .i64 n] = some (.int .u32 (rg (skipN (skipC n) a ^^^ b))) := tabAdd_eq (a := (a, b, n)) (by simp +contextual) trivial rfl
@[simp] theorem T21_ne {g : Nat} {xs : List AV} (h : g ≠ 21) : T21 g xs = T26 g xs := tabAdd_ne h
theorem T21_ok : Sound Try.prog T21 := tabAdd_sound T26_ok fun z _ => join_pf z.1 z.2.1 z.2.2 
/-- A byte of a sum. -/
def bt (x : B) (k : Nat) : Int := rg x / 256 ^ k % 256
theorem bt_shr (x : B) (k : Nat) : IntKind.u8.wrap ((rg x).fdiv (256 ^ k)) = bt x k := by
  rw [u8_wrap, Int.fdiv_eq_ediv_of_nonneg _ (by exact Int.natCast_nonneg (256 ^ k))]; rfl
theorem bt0 (x : B) : IntKind.u8.wrap (rg x) = bt x 0 := by rw [u8_wrap]; simp [bt]
theorem bt3 (x : B) : IntKind.u8.wrap ((rg x).fdiv 16777216) = bt x 3 := bt_shr x 3
theorem bt2 (x : B) : IntKind.u8.wrap ((rg x).fdiv 65536) = bt x 2 := bt_shr x 2
theorem bt1 (x : B) : IntKind.u8.wrap ((rg x).fdiv 256) = bt x 1 := bt_shr x 1
theorem qt (x : B) (m : Int) (hm : 1 ≤ m) : IntKind.u32.wrap ((rg x).tdiv m) = rg x / m := by
  have h1 := rg_lo x; have h2 := rg_hi x
  rw [u32_wrap, Int.tdiv_eq_ediv_of_nonneg h1]
  have h3 : 0 ≤ rg x / m := Int.ediv_nonneg h1 (by omega)
  have h4 : rg x / m ≤ rg x := Int.ediv_le_self _ h1
  omega
theorem rt3 (x : B) : IntKind.u8.wrap (IntKind.u32.wrap ((rg x).tdiv 16777216)) = bt x 3 := by rw [qt x _ (by decide), u8_wrap]; rfl
theorem rtm (y : Int) (h : 0 ≤ y) : IntKind.u8.wrap (y.tmod 256) = y % 256 := by rw [u8_wrap, Int.tmod_eq_emod_of_nonneg h]; omega
theorem rt2 (x : B) : IntKind.u8.wrap ((IntKind.u32.wrap ((rg x).tdiv 65536)).tmod 256) = bt x 2 := by
  have h1 := rg_lo x
  rw [qt x _ (by decide), rtm _ (by omega)]; rfl
theorem rt1 (x : B) : IntKind.u8.wrap ((IntKind.u32.wrap ((rg x).tdiv 256)).tmod 256) = bt x 1 := by
  have h1 := rg_lo x
  rw [qt x _ (by decide), rtm _ (by omega)]; rfl
theorem rt0 (x : B) : IntKind.u8.wrap ((rg x).tmod 256) = bt x 0 := by
  rw [rtm _ (rg_lo x)]; simp [bt]
/-- A sum as bytes. -/
def sumB (x : B) : List UInt8 := [UInt8.ofNat (bt x 3).toNat, UInt8.ofNat (bt x 2).toNat, UInt8.ofNat (bt x 1).toNat, UInt8.ofNat (bt x 0).toNat]
@[simp] theorem sumB_len (x : B) : (sumB x).length = 4 := rfl
theorem sumOf_pf (l : List UInt8) (h : l.length ≤ 1000000) : PFx Try.prog 25 [.str l] (.str (sumB (sum l))) := by
  refine PFx_of_W (rc := rc25) (rs := rs25) Try.func25 rfl T21_ok hm (by kernel_rfl) (by kernel_rfl) (by simp [Try.ntmps25]) ?_
  simp [rc25, rs25, h, IntKind.bits, bt3, bt2, bt1, bt0, sumB]
noncomputable def T25 : Tab := tabAdd T21 25 (fun z : (List UInt8) => z.length ≤ 1000000) (fun z => [.str z]) (fun z => .str (sumB (sum z)))
@[simp] theorem T25_eq (l : List UInt8) (h : l.length ≤ 1000000) : T25 25 [.str l] = some (.str (sumB (sum l))) := tabAdd_eq (a := l) (by simp +contextual) h rfl
@[simp] theorem T25_ne {g : Nat} {xs : List AV} (h : g ≠ 25) : T25 g xs = T21 g xs := tabAdd_ne h
theorem T25_ok : Sound Try.prog T25 := tabAdd_sound T21_ok fun z h => sumOf_pf z h
def sealB (l : List UInt8) : List UInt8 := l ++ sumB (sum l)
@[simp] theorem sealB_len (l : List UInt8) : (sealB l).length = l.length + 4 := by simp [sealB]
theorem seal_pf (l : List UInt8) (h : l.length ≤ 1000000) : PFx Try.prog 19 [.str l] (.str (sealB l)) := by
  refine PFx_of_W (rc := rc19) (rs := rs19) Try.func19 rfl T25_ok hm (by kernel_rfl) (by kernel_rfl) (by simp [Try.ntmps19]) ?_
  simp [rc19, rs19, h, sealB]
  omega
noncomputable def T19 : Tab := tabAdd T25 19 (fun z : (List UInt8) => z.length ≤ 1000000) (fun z => [.str z]) (fun z => .str (sealB z))
@[simp] theorem T19_eq (l : List UInt8) (h : l.length ≤ 1000000) : T19 19 [.str l] = some (.str (sealB l)) := tabAdd_eq (a := l) (by simp +contextual) h rfl
@[simp] theorem T19_ne {g : Nat} {xs : List AV} (h : g ≠ 19) : T19 g xs = T25 g xs := tabAdd_ne h
theorem T19_ok : Sound Try.prog T19 := tabAdd_sound T25_ok fun z h => seal_pf z h
theorem rseal_pf (l : List UInt8) (h : l.length ≤ 1000000) : PFx Try.prog 20 [.str l] (.str (sealB l)) := by
  refine PFx_of_W (rc := rc20) (rs := rs20) Try.func20 rfl T19_ok hm (by kernel_rfl) (by kernel_rfl) (by simp [Try.ntmps20]) ?_
  simp [rc20, rs20, h, rt3, rt2, rt1, rt0, sealB, sumB]
  omega
noncomputable def T20 : Tab := tabAdd T19 20 (fun z : (List UInt8) => z.length ≤ 1000000) (fun z => [.str z]) (fun z => .str (sealB z))
@[simp] theorem T20_eq (l : List UInt8) (h : l.length ≤ 1000000) : T20 20 [.str l] = some (.str (sealB l)) := tabAdd_eq (a := l) (by simp +contextual) h rfl
@[simp] theorem T20_ne {g : Nat} {xs : List AV} (h : g ≠ 20) : T20 g xs = T19 g xs := tabAdd_ne h
theorem T20_ok : Sound Try.prog T20 := tabAdd_sound T19_ok fun z h => rseal_pf z h
/-- What is sealed in bytes, or why nothing is. -/
def openB (l : List UInt8) : List UInt8 × Int :=
  if l.length < 4 then ([], 3) else if sealB (l.take (l.length - 4)) = l then (l.take (l.length - 4), 0) else ([], 10)
theorem split4 (l : List UInt8) : sealB (l.take (l.length - 4)) = l ↔ sumB (sum (l.take (l.length - 4))) = l.drop (l.length - 4) := by
  constructor
  · intro h
    have h' : l.take (l.length - 4) ++ sumB (sum (l.take (l.length - 4))) = l.take (l.length - 4) ++ l.drop (l.length - 4) := by rw [List.take_append_drop]; exact h
    exact List.append_cancel_left h'
  · intro h
    unfold sealB
    rw [h, List.take_append_drop]
theorem open_pf (l : List UInt8) (h : l.length ≤ 1000000) : PFx Try.prog 17 [.str l] (.tup [.str (openB l).1, .int .i64 (openB l).2]) := by
  refine PFx_of_W (rc := rc17) (rs := rs17) Try.func17 rfl T20_ok hm (by kernel_rfl) (by kernel_rfl) (by simp [Try.ntmps17]) ?_
  by_cases h4 : l.length < 4
  · have h4' : (l.length : Int) < 4 := by omega
    simp [rc17, rs17, h4', openB, h4]
  · have h4' : ¬ (l.length : Int) < 4 := by omega
    have e1 : (l.length : Int) - 4 = ((l.length - 4 : Nat) : Int) := by omega
    have e2 : (l.take (l.length - 4)).length ≤ 1000000 := by simp; omega
    have e3 := T25_eq _ e2
    have e4 := T26_eq _ e2
    by_cases hs : sumB (sum (l.take (l.length - 4))) = l.drop (l.length - 4)
    · simp [rc17, rs17, h4', openB, h4, e1, e3, e4, split4, hs]

      omega
    · simp [rc17, rs17, h4', openB, h4, e1, e3, e4, split4, hs]
      omega
noncomputable def T17 : Tab := tabAdd T20 17 (fun z : (List UInt8) => z.length ≤ 1000000) (fun z => [.str z]) (fun z => .tup [.str (openB z).1, .int .i64 (openB z).2])
@[simp] theorem T17_eq (l : List UInt8) (h : l.length ≤ 1000000) : T17 17 [.str l] = some (.tup [.str (openB l).1, .int .i64 (openB l).2]) := tabAdd_eq (a := l) (by simp +contextual) h rfl
@[simp] theorem T17_ne {g : Nat} {xs : List AV} (h : g ≠ 17) : T17 g xs = T20 g xs := tabAdd_ne h
theorem T17_ok : Sound Try.prog T17 := tabAdd_sound T20_ok fun z h => open_pf z h
theorem ropen_pf (l : List UInt8) (h : l.length ≤ 1000000) : PFx Try.prog 18 [.str l] (.tup [.str (openB l).1, .int .i64 (openB l).2]) := by
  refine PFx_of_W (rc := rc18) (rs := rs18) Try.func18 rfl T17_ok hm (by kernel_rfl) (by kernel_rfl) (by simp [Try.ntmps18]) ?_
  by_cases h4 : l.length < 4
  · have h4' : (l.length : Int) < 4 := by omega
    simp [rc18, rs18, h4', openB, h4]
  · have h4' : ¬ (l.length : Int) < 4 := by omega
    have e1 : (l.length : Int) - 4 = ((l.length - 4 : Nat) : Int) := by omega
    have e2 : (l.take (l.length - 4)).length ≤ 1000000 := by simp; omega
    have e3 := T20_eq _ e2
    by_cases hs : sealB (l.take (l.length - 4)) = l
    · simp [rc18, rs18, h4', openB, h4, e1, e3, hs]
      omega
    · simp [rc18, rs18, h4', openB, h4, e1, e3, hs]
      omega
noncomputable def T18 : Tab := tabAdd T17 18 (fun z : (List UInt8) => z.length ≤ 1000000) (fun z => [.str z]) (fun z => .tup [.str (openB z).1, .int .i64 (openB z).2])
@[simp] theorem T18_eq (l : List UInt8) (h : l.length ≤ 1000000) : T18 18 [.str l] = some (.tup [.str (openB l).1, .int .i64 (openB l).2]) := tabAdd_eq (a := l) (by simp +contextual) h rfl
@[simp] theorem T18_ne {g : Nat} {xs : List AV} (h : g ≠ 18) : T18 g xs = T17 g xs := tabAdd_ne h
theorem T18_ok : Sound Try.prog T18 := tabAdd_sound T17_ok fun z h => ropen_pf z h
theorem openB_sealB (l : List UInt8) : openB (sealB l) = (l, 0) := by
  have h : (sealB l).length = l.length + 4 := sealB_len l
  have ht : (sealB l).take l.length = l := by simp [sealB]
  unfold openB
  rw [if_neg (by omega), h, Nat.add_sub_cancel, ht, if_pos rfl]
theorem sum_c : rg (sum [49, 50, 51, 52, 53, 54, 55, 56, 57]) = 3421780262 := by decide +kernel
theorem sum_n : rg (sum []) = 0 := by decide +kernel
theorem open5 : openB [97, 98, 99, 100, 101] = ([], 10) := by decide +kernel
theorem open3 : openB [97, 98, 99] = ([], 3) := by decide +kernel
theorem skip5 : ∀ x, skipN (skipC (-1)) x = x := fun _ => rfl
theorem awake_pf : PFx Try.prog 8 [] (.bool true) := by
  refine PFx_of_W (rc := rc8) (rs := rs8) Try.func8 rfl T18_ok hm (by kernel_rfl) (by kernel_rfl) (by simp [Try.ntmps8]) ?_
  have e1 : T17 17 [.str (sealB [97, 98])] = some (.tup [.str [97, 98], .int .i64 0]) := by
    have := T17_eq (sealB [97, 98]) (by simp)
    rwa [openB_sealB] at this
  have e2 : T15 15 [.int .u32 5, .int .i64 (-1)] = some (.int .u32 5) := T15_eq 5#32 (-1)
  have e3 : T21 21 [.int .u32 (rg (sum [97])), .int .u32 (rg (sum [98])), .int .i64 1] = some (.int .u32 (rg (sum [97, 98]))) := by
    have := T21_eq (sum [97]) (sum [98]) 1
    rwa [show skipN (skipC 1) (sum [97]) ^^^ sum [98] = sum [97, 98] from join_sum [97] [98]] at this
  simp [rc8, rs8, e1, e2, e3, open5, open3, sum_c, sum_n]
noncomputable def T8 : Tab := tabAdd T18 8 (fun _ : Unit => True) (fun _ => []) (fun _ => .bool true)
@[simp] theorem T8_eq   : T8 8 [] = some (.bool true) := tabAdd_eq (a := ()) (by simp +contextual) trivial rfl
@[simp] theorem T8_ne {g : Nat} {xs : List AV} (h : g ≠ 8) : T8 g xs = T18 g xs := tabAdd_ne h
theorem T8_ok : Sound Try.prog T8 := tabAdd_sound T18_ok fun _ _ => awake_pf  
end Go.Proofs.Ytpphhgaeoljioaa
