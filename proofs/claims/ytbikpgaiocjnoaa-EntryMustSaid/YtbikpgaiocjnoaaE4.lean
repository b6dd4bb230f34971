/- The operations, one by one: what is run, and what comes of it. -/
import Derived.Test.YtbikpgaiocjnoaaE3
import Derived.Laws.Cover1
import Derived.Laws.StructEq
import Derived.ChangeKeysEq
import Derived.WideLaws
set_option linter.unusedVariables false
set_option linter.unusedSimpArgs false
namespace Go.Proofs.Ytbikpgaiocjnoaa.Pad

theorem beq_dec {α : Type} [BEq α] [LawfulBEq α] [DecidableEq α] (a b : α) : (a == b) = decide (a = b) := by
  rw [Bool.eq_iff_iff]; simp

theorem size_mk (l : List UInt8) : (ByteArray.mk l.toArray).size = l.length := by simp [ByteArray.size]

theorem strIs_iff {P : Program} {t : Nat} (h : strIs P t = true) : P.underlying t = some .string := by
  unfold strIs at h; split at h
  · assumption
  · cases h
theorem isSl_iff {P : Program} {t : Nat} (h : isSl P t = true) : ∃ e, P.underlying t = some (.slice e) := by
  unfold isSl at h; split at h
  · exact ⟨_, by assumption⟩
  · cases h
theorem slIs_iff {P : Program} {t sz : Nat} (h : slIs P t sz = true) : ∃ e i, P.underlying t = some (.slice e) ∧ P.info? e = some i ∧ i.size = sz := by
  unfold slIs at h; split at h
  · rename_i e he
    unfold szIs at h; split at h
    · rename_i i hi; exact ⟨e, i, he, hi, by simpa using h⟩
    · cases h
  · cases h
theorem u8sIs_iff {P : Program} {t : Nat} (h : u8sIs P t = true) : ∃ e, P.underlying t = some (.slice e) ∧ P.underlying e = some (.int .u8) := by
  unfold u8sIs at h; split at h
  · rename_i e he
    unfold intIs at h; split at h
    · rename_i k hk; exact ⟨e, he, by rw [hk]; simp at h; rw [h]⟩
    · cases h
  · cases h
theorem szIs_iff {P : Program} {t n : Nat} (h : szIs P t n = true) : ∃ i, P.info? t = some i ∧ i.size = n := by
  unfold szIs at h; split at h
  · rename_i i hi; exact ⟨i, hi, by simpa using h⟩
  · cases h
theorem bytesIs_iff {P : Program} {t n : Nat} (h : bytesIs P t n = true) : ∃ i, P.info? t = some i ∧ i.bytes = n := by
  unfold bytesIs at h; split at h
  · rename_i i hi; exact ⟨i, hi, by simpa using h⟩
  · cases h

theorem wrap_inK {k : IntKind} {n : Int} (h : inK k n) : k.wrap n = n := by
  cases k <;> simp only [inK] at h <;> simp [IntKind.wrap, IntKind.bits, IntKind.signed] <;> (try split) <;> omega

theorem wr_run (ex : Bool) (k : IntKind) (n : Int) (h : ex = true → inK k n) : k.wrap n = wr ex k n := by
  unfold wr; cases ex
  · rfl
  · rw [if_pos rfl, wrap_inK (h rfl)]

section
variable {P : Program} {w : World} {F : Fp}

theorem run_bin (op : BinOp) (ex : Bool) (t : TypeId) (ox oy : Operand) : ∀ {x y : AV} {vx vy : Value}, Rep w F x vx → Rep w F y vy → dBin op ex x y →
    ∃ v, (do eqGuard op t ox oy vx vy; binOp op t vx vy : Sem Value).run P w = .ok v w ∧ Rep w F (aBin op ex x y) v := by
  intro x y vx vy hx hy hd
  cases x <;> cases y <;> simp only [dBin] at hd
  case int.int k a k' b =>
    simp only [Rep] at hx hy
    subst hx; subst hy
    simp only [eqGuard_at_int, pure_bind, aBin]
    cases op <;> simp only [dInt] at hd <;> simp only [aInt, Rep]
    case add => obtain ⟨rfl, h⟩ := hd; exact ⟨_, by simp [binOp, Op.intArith, wr_run ex k _ h], rfl⟩
    case sub => obtain ⟨rfl, h⟩ := hd; exact ⟨_, by simp [binOp, Op.intArith, wr_run ex k _ h], rfl⟩
    case mul => obtain ⟨rfl, h⟩ := hd; exact ⟨_, by simp [binOp, Op.intArith, wr_run ex k _ h], rfl⟩
    case quo => obtain ⟨rfl, h0, h⟩ := hd; exact ⟨_, by simp [binOp, Op.intDiv, h0, wr_run ex k _ h], rfl⟩
    case rem => obtain ⟨rfl, h0⟩ := hd; exact ⟨_, by simp [binOp, Op.intDiv, h0], rfl⟩
    case shl => exact ⟨_, by simp [binOp, Op.shift, show ¬ b < 0 by omega, wr_run ex k _ hd.2], rfl⟩
    case shr => exact ⟨_, by simp [binOp, Op.shift, show ¬ b < 0 by omega], rfl⟩
    case and => subst hd; exact ⟨_, by rw [binOp_and, intBits_and]; rfl, rfl⟩
    case or => subst hd; exact ⟨_, by rw [binOp_or, intBits_or]; rfl, rfl⟩
    case xor => subst hd; exact ⟨_, by rw [binOp_xor, intBits_xor]; rfl, rfl⟩
    case andNot => subst hd; exact ⟨_, by rw [binOp_andNot, intBits_andNot]; rfl, rfl⟩
    case eql => subst hd; exact ⟨_, by rw [binOp_eql]; rfl, by simp [BEq.beq]⟩
    case neq => subst hd; exact ⟨_, by rw [binOp_neq]; rfl, by simp [bne, BEq.beq]⟩
    case lss => subst hd; exact ⟨_, by rw [binOp_lss]; rfl, rfl⟩
    case leq => subst hd; exact ⟨_, by rw [binOp_leq]; rfl, rfl⟩
    case gtr => subst hd; exact ⟨_, by rw [binOp_gtr]; rfl, rfl⟩
    case geq => subst hd; exact ⟨_, by rw [binOp_geq]; rfl, rfl⟩
  case str.str a b =>
    simp only [Rep] at hx hy
    subst hx; subst hy
    simp only [eqGuard_at_string, pure_bind, aBin]
    cases op <;> simp only [dStr] at hd <;> simp only [aStr, Rep]
    case add => exact ⟨_, by rw [binOp_string_add, run_string_add_sum w _ _ (by rw [size_mk, size_mk]; exact hd)], by rw [ByteArray.mk_append_mk]⟩
    case eql => exact ⟨_, by rw [binOp_string_eql]; rfl, by simp [beq_dec]⟩
    case neq => exact ⟨_, by rw [binOp_string_neq]; rfl, by simp [beq_dec]⟩
    case lss => exact ⟨_, by rw [binOp_string_lss]; rfl, by simp⟩
    case leq => exact ⟨_, by rw [binOp_string_leq]; rfl, by simp [beq_dec]⟩
    case gtr => exact ⟨_, by rw [binOp_string_gtr]; rfl, by simp [beq_dec]⟩
    case geq => exact ⟨_, by rw [binOp_string_geq]; rfl, by simp⟩

theorem run_un (op : UnOp) : ∀ {x : AV} {vx : Value}, Rep w F x vx → dUn op x → ∃ v, (Op.unary op vx).run P w = .ok v w ∧ Rep w F (aUn op x) v := by
  intro x vx hx hd
  cases x <;> simp only [dUn] at hd <;> simp only [Rep] at hx <;> subst hx
  case bool b => subst hd; exact ⟨_, by rw [unary_not]; rfl, by simp [aUn, Rep]⟩
  case int k n =>
    rcases hd with rfl | rfl
    · exact ⟨_, by rw [unary_neg]; rfl, by simp [aUn, Rep]⟩
    · exact ⟨_, by rw [unary_xor, intBits_xor]; rfl, by simp [aUn, Rep]⟩

theorem run_conv (ex : Bool) (k : IntKind) (src dst : TypeId) (hs : (P.underlying src).isSome = true) (hd' : intIs P dst k = true) : ∀ {x : AV} {vx : Value}, Rep w F x vx → dConv ex k x →
    ∃ v, (convert src dst vx).run P w = .ok v w ∧ Rep w F (aConv ex k x) v := by
  intro x vx hx hd
  cases x <;> simp only [dConv] at hd <;> simp only [Rep] at hx <;> subst hx
  rename_i k' n
  have hu : P.underlying dst = some (.int k) := by
    unfold intIs at hd'
    split at hd'
    · rename_i h; rw [h]; simp at hd'; rw [hd']
    · cases hd'
  obtain ⟨d, hds⟩ := Option.isSome_iff_exists.1 hs
  refine ⟨.int k (k.wrap n), ?_, by simp only [aConv, Rep]; rw [wr_run ex k n hd]⟩
  simp [convert, run_underlying hds, run_underlying hu, Conv.intToInt]

theorem run_len (t ty : TypeId) (str : Bool) (ht : (if str then strIs P t else isSl P t) = true) : ∀ {x : AV} {vx : Value}, Rep w F x vx → dLen str x →
    ∃ v, (Builtin.len_ #[t] ty #[vx]).run P w = .ok v w ∧ Rep w F (aLen x) v := by
  intro x vx hx hd
  cases str <;> cases x <;> simp only [dLen] at hd <;> simp only [Rep] at hx
  · obtain ⟨ao, c, rfl, _⟩ := hx
    obtain ⟨e, he⟩ := isSl_iff (by simpa using ht)
    exact ⟨_, by simp [Builtin.len_, run_underlying he]; rfl, by simp only [aLen, Rep]; rfl⟩
  · subst hx
    have he := strIs_iff (by simpa using ht)
    exact ⟨_, by simp [Builtin.len_, run_underlying he]; rfl, by simp only [aLen, Rep, size_mk]; rfl⟩

theorem run_sidx (t : TypeId) (ht : strIs P t = true) : ∀ {x y : AV} {vx vy : Value}, Rep w F x vx → Rep w F y vy → dSidx x y →
    ∃ v, (Instr.index t vx vy).run P w = .ok v w ∧ Rep w F (aSidx x y) v := by
  intro x y vx vy hx hy hd
  cases x <;> cases y <;> simp only [dSidx] at hd
  rename_i l k i
  simp only [Rep] at hx hy
  subst hx; subst hy
  have h1 : i.toNat < (ByteArray.mk l.toArray).size := by rw [size_mk]; omega
  refine ⟨.int .u8 (l.getD i.toNat 0).toNat, ?_, by simp only [aSidx, Rep]⟩
  have h2 : l.getD i.toNat 0 = (ByteArray.mk l.toArray)[i.toNat] := by
    show _ = (l.toArray)[i.toNat]
    have : i.toNat < l.length := by omega
    simp [List.getD, this]
  rw [h2]
  simp [Instr.index, asIntOf, run_underlying (strIs_iff ht), hd.1, ByteArray.getElem?_lt' _ _ h1]

theorem rep_sl_inv {xs : List AV} {n : Nat} {v : Value} (h : Rep w F (.sl xs n) v) : ∃ ao c, v = .slice ao n c ∧ n ≤ c ∧ c ≤ maxLen ∧ ((xs = [] ∧ n = 0) ∨ ∃ b o, ao = some ⟨b, o, none⟩ ∧ RepAt w F xs b o) := by
  simpa only [Rep] using h

theorem repAt_drop : ∀ (xs : List AV) (b o k : Nat), RepAt w F xs b o → RepAt w F (xs.drop k) b (o + k)
  | xs, b, o, 0, h => by simpa using h
  | [], b, o, k + 1, _ => by simp only [List.drop_nil, RepAt]
  | x :: xs, b, o, k + 1, h => by
    simp only [RepAt] at h
    have := repAt_drop xs b (o + 1) k h.2.2
    rw [List.drop_succ_cons, show o + (k + 1) = o + 1 + k by omega]
    exact this
theorem repAt_take : ∀ (xs : List AV) (b o k : Nat), RepAt w F xs b o → RepAt w F (xs.take k) b o
  | xs, b, o, 0, _ => by simp only [List.take_zero, RepAt]
  | [], b, o, k + 1, _ => by simp only [List.take_nil, RepAt]
  | x :: xs, b, o, k + 1, h => by
    simp only [RepAt, List.take_succ_cons] at h ⊢
    exact ⟨h.1, h.2.1, repAt_take xs b (o + 1) k h.2.2⟩
theorem repAt_append : ∀ (xs ys : List AV) (b o : Nat), RepAt w F (xs ++ ys) b o ↔ RepAt w F xs b o ∧ RepAt w F ys b (o + xs.length)
  | [], ys, b, o => by simp [RepAt]
  | x :: xs, ys, b, o => by
    simp only [List.cons_append, RepAt, List.length_cons]
    rw [repAt_append xs ys b (o + 1), show o + (xs.length + 1) = o + 1 + xs.length by omega]
    constructor
    · rintro ⟨a, b, c, d⟩; exact ⟨⟨a, b, c⟩, d⟩
    · rintro ⟨⟨a, b, c⟩, d⟩; exact ⟨a, b, c, d⟩
theorem repAt_get : ∀ (xs : List AV) (b o i : Nat) (h : i < xs.length), RepAt w F xs b o → ∃ v, w.cell? ⟨b, o + i, none⟩ = some v ∧ xs[i].one = true ∧ Rep w F xs[i] v
  | x :: xs, b, o, 0, _, h => by simp only [RepAt] at h; simpa using h.1
  | x :: xs, b, o, i + 1, hi, h => by
    simp only [RepAt] at h
    have := repAt_get xs b (o + 1) i (by simpa using hi) h.2.2
    simpa [show o + (i + 1) = o + 1 + i by omega] using this
/-- A row of cells, as it is loaded. -/
theorem repAt_list : ∀ (xs : List AV) (b o : Nat), RepAt w F xs b o → ∃ vs : List Value, RepL w F true xs vs ∧ vs.length = xs.length ∧ ∀ j v, vs[j]? = some v → w.cell? ⟨b, o + j, none⟩ = some v
  | [], b, o, _ => ⟨[], by simp only [RepL], rfl, fun j v h => by simp at h⟩
  | x :: xs, b, o, h => by
    simp only [RepAt] at h
    obtain ⟨⟨v, h1, h2, h3⟩, _, h5⟩ := h
    obtain ⟨vs, k1, k2, k3⟩ := repAt_list xs b (o + 1) h5
    refine ⟨v :: vs, by simp only [RepL]; exact ⟨v, vs, rfl, fun _ => h2, h3, k1⟩, by simp [k2], fun j u hj => ?_⟩
    cases j with
    | zero => simp at hj; subst hj; simpa using h1
    | succ j => have := k3 j u (by simpa using hj); rwa [show o + (j + 1) = o + 1 + j by omega]
theorem one_value : ∀ {x : AV} {v : Value}, x.one = true → Rep w F x v → v.oneCell' = true ∧ v.cells = #[v]
  | .int .., v, _, h => by simp only [Rep] at h; subst h; exact ⟨rfl, rfl⟩
  | .bool _, v, _, h => by simp only [Rep] at h; subst h; exact ⟨rfl, rfl⟩
  | .str _, v, _, h => by simp only [Rep] at h; subst h; exact ⟨rfl, rfl⟩
  | .sl .., v, _, h => by obtain ⟨ao, c, rfl, _⟩ := rep_sl_inv h; exact ⟨rfl, rfl⟩
  | .ptr _, v, _, h => by simp only [Rep] at h; obtain ⟨b, o, rfl, _⟩ := h; exact ⟨rfl, rfl⟩
  | .fn .., v, _, h => by simp only [Rep] at h; obtain ⟨cs, ds, rfl, _⟩ := h; exact ⟨rfl, rfl⟩
  | .ifc .., v, _, h => by simp only [Rep] at h; obtain ⟨u, rfl, _⟩ := h; exact ⟨rfl, rfl⟩
  | .nilI, v, _, h => by simp only [Rep] at h; subst h; exact ⟨rfl, rfl⟩
  | .nilP, v, _, h => by simp only [Rep] at h; subst h; exact ⟨rfl, rfl⟩
  | .nilF, v, _, h => by simp only [Rep] at h; subst h; exact ⟨rfl, rfl⟩
  | .nilS _, v, _, h => by simp only [Rep] at h; subst h; exact ⟨rfl, rfl⟩
  | .obox _, _, h, _ => by simp [AV.one] at h
  | .row .., _, h, _ => by simp [AV.one] at h
  | .agg _, _, h, _ => by simp [AV.one] at h
  | .tup _, _, h, _ => by simp [AV.one] at h
  | .box _, _, h, _ => by simp [AV.one] at h
  | .ref .., _, h, _ => by simp [AV.one] at h
  | .bad, _, h, _ => by simp [AV.one] at h
theorem repL_length : ∀ {one : Bool} (xs : List AV) (vs : List Value), RepL w F one xs vs → vs.length = xs.length
  | _, [], vs, h => by simp only [RepL] at h; simp [h]
  | _, x :: xs, vs, h => by
    simp only [RepL] at h
    obtain ⟨v, vs', rfl, _, _, h⟩ := h
    simp [repL_length xs vs' h]
theorem repL_get : ∀ {one : Bool} (xs : List AV) (vs : List Value) (i : Nat) (hi : i < xs.length), RepL w F one xs vs → ∃ v, vs[i]? = some v ∧ (one = true → xs[i].one = true) ∧ Rep w F xs[i] v
  | _, x :: xs, vs, 0, _, h => by
    simp only [RepL] at h
    obtain ⟨v, vs', rfl, h1, h2, _⟩ := h
    exact ⟨v, rfl, h1, h2⟩
  | _, x :: xs, vs, i + 1, hi, h => by
    simp only [RepL] at h
    obtain ⟨v, vs', rfl, _, _, h⟩ := h
    exact repL_get xs vs' i (by simpa using hi) h
theorem repL_drop : ∀ {one : Bool} (xs : List AV) (vs : List Value) (k : Nat), RepL w F one xs vs → RepL w F one (xs.drop k) (vs.drop k)
  | _, xs, vs, 0, h => by simpa using h
  | _, [], vs, k + 1, h => by simp only [RepL] at h; subst h; simp only [List.drop_nil, RepL]
  | _, x :: xs, vs, k + 1, h => by
    simp only [RepL] at h
    obtain ⟨v, vs', rfl, _, _, h⟩ := h
    simpa using repL_drop xs vs' k h
theorem repL_take : ∀ {one : Bool} (xs : List AV) (vs : List Value) (k : Nat), RepL w F one xs vs → RepL w F one (xs.take k) (vs.take k)
  | _, xs, vs, 0, _ => by simp only [List.take_zero, RepL]
  | _, [], vs, k + 1, h => by simp only [RepL] at h; subst h; simp only [List.take_nil, RepL]
  | _, x :: xs, vs, k + 1, h => by
    simp only [RepL] at h
    obtain ⟨v, vs', rfl, h1, h2, h⟩ := h
    simp only [List.take_succ_cons, RepL]
    exact ⟨v, _, rfl, h1, h2, repL_take xs vs' k h⟩
theorem repL_append : ∀ {one : Bool} (xs ys : List AV) (vs us : List Value), RepL w F one xs vs → RepL w F one ys us → RepL w F one (xs ++ ys) (vs ++ us)
  | _, [], ys, vs, us, h, h' => by simp only [RepL] at h; subst h; simpa using h'
  | _, x :: xs, ys, vs, us, h, h' => by
    simp only [RepL] at h
    obtain ⟨v, vs', rfl, h1, h2, h⟩ := h
    simp only [List.cons_append, RepL]
    exact ⟨v, _, rfl, h1, h2, repL_append xs ys vs' us h h'⟩
theorem repL_one : ∀ (xs : List AV) (vs : List Value), RepL w F true xs vs → ∀ v ∈ vs, v.oneCell' = true
  | [], vs, h => by simp only [RepL] at h; subst h; simp
  | x :: xs, vs, h => by
    simp only [RepL] at h
    obtain ⟨v, vs', rfl, h1, h2, h⟩ := h
    intro u hu
    rcases List.mem_cons.1 hu with rfl | hu
    · exact (one_value (by simpa using h1) h2).1
    · exact repL_one xs vs' h u hu

theorem repL_u8 : ∀ (xs : List AV) (vs : List Value), RepL w F true xs vs → (∀ x ∈ xs, x.isU8) → ∃ ns : List Int, vs = ns.map (Value.int .u8) ∧ xs.map AV.byte = ns.map fun n => UInt8.ofNat n.toNat
  | [], vs, h, _ => by simp only [RepL] at h; subst h; exact ⟨[], rfl, rfl⟩
  | x :: xs, vs, h, hu => by
    simp only [RepL] at h
    obtain ⟨v, vs', rfl, _, h2, h⟩ := h
    obtain ⟨ns, e1, e2⟩ := repL_u8 xs vs' h fun y hy => hu y (List.mem_cons_of_mem _ hy)
    have hx := hu x (List.mem_cons_self ..)
    match x, hx, h2 with
    | .int .u8 n, _, h2 =>
      simp only [Rep] at h2
      subst h2
      exact ⟨n :: ns, by rw [e1]; rfl, by simp only [List.map_cons, e2, AV.byte]⟩

theorem load_list {xs : List AV} {b o : Nat} (h : RepAt w F xs b o) : ∃ vs : List Value, RepL w F true xs vs ∧ vs.length = xs.length ∧ (loadCells ⟨b, o, none⟩ xs.length).run P w = .ok vs.toArray w := by
  obtain ⟨vs, h1, h2, h3⟩ := repAt_list xs b o h
  refine ⟨vs, h1, h2, ?_⟩
  rw [← h2]
  exact run_loadCells_list w _ vs fun j v hj => by rw [Addr.add_lit]; exact h3 j v hj

theorem run_b2s (src dst : TypeId) (hs : u8sIs P src = true) (hd' : strIs P dst = true) : ∀ {x : AV} {vx : Value}, Rep w F x vx → dB2s x →
    ∃ v, (convert src dst vx).run P w = .ok v w ∧ Rep w F (aB2s x) v := by
  intro x vx hx hd
  cases x <;> simp only [dB2s] at hd
  rename_i xs n
  obtain ⟨hn, hu⟩ := hd
  subst hn
  obtain ⟨e, he, he8⟩ := u8sIs_iff hs
  obtain ⟨ao, c, rfl, _, _, hc⟩ := rep_sl_inv hx
  refine ⟨.string ⟨(xs.map AV.byte).toArray⟩, ?_, by simp only [aB2s, Rep]⟩
  rw [run_convert_bytes_string w src dst e ao _ c he he8 (strIs_iff hd')]
  rcases hc with ⟨rfl, _⟩ | ⟨b, o, rfl, hat⟩
  · cases ao with
    | none => simp [Conv.bytesToString]; rfl
    | some a => simp [Conv.bytesToString, loadCells, loadCellsFrom]; rfl
  · obtain ⟨vs, h1, h2, h3⟩ := load_list (P := P) hat
    obtain ⟨ns, e1, e2⟩ := repL_u8 xs vs h1 hu
    subst e1
    rw [run_bytesToString w _ _ c ns h3, foldl_push_bytes, e2]
    simp [ByteArray.empty, ByteArray.emptyWithCapacity]
    rfl

theorem int_run {x : AV} {v : Value} (h : Rep w F x v) (hi : x.isI) : ∃ k, v = .int k x.toI := by
  cases x <;> simp only [AV.isI] at hi
  simp only [Rep] at h
  exact ⟨_, h⟩

/-- The bounds, as they are run. -/
theorem run_bounds (isSl : Bool) (len cap : Nat) (lo hi : Option Value) (l h : Int) (hlo : match lo with | none => l = 0 | some v => ∃ k, v = .int k l) (hhi : match hi with | none => h = len | some v => ∃ k, v = .int k h)
    (h0 : 0 ≤ l) (h1 : l ≤ h) (h2 : h ≤ len) (h3 : len ≤ cap) : (Instr.sliceBounds isSl len cap lo hi none).run P w = .ok (l.toNat, h.toNat, cap) w := by
  have e1 : ((h.toNat : Nat) : Int) = h := Int.toNat_of_nonneg (by omega)
  cases lo <;> cases hi <;> simp only at hlo hhi
  · subst hlo; subst hhi; simp [Instr.sliceBounds]
  · obtain ⟨k, rfl⟩ := hhi
    subst hlo
    simp [Instr.sliceBounds, Instr.sliceBound, asIntOf, show 0 ≤ h by omega, show h ≤ cap by omega]
  · obtain ⟨k, rfl⟩ := hlo
    subst hhi
    simp [Instr.sliceBounds, Instr.sliceBound, asIntOf, h0, h1]
  · obtain ⟨k, rfl⟩ := hlo
    obtain ⟨k', rfl⟩ := hhi
    simp [Instr.sliceBounds, Instr.sliceBound, asIntOf, h0, h1, show 0 ≤ h by omega, show h ≤ cap by omega, e1]

theorem run_ssl (t : TypeId) (ht : strIs P t = true) (lo hi : Option Value) (l h : Int) : ∀ {x : AV} {vx : Value}, Rep w F x vx → dSsl x l h → (match lo with | none => l = 0 | some v => ∃ k, v = .int k l) → (match hi with | none => h = x.size | some v => ∃ k, v = .int k h) →
    ∃ v, (Instr.sliceAt t vx lo hi none).run P w = .ok v w ∧ Rep w F (aSsl x l h) v := by
  intro x vx hx hd hlo hhi
  cases x <;> simp only [dSsl] at hd
  rename_i s
  simp only [Rep] at hx
  subst hx
  have hb := run_bounds (P := P) (w := w) false s.length s.length lo hi l h hlo hhi hd.1 hd.2.1 hd.2.2 (Nat.le_refl _)
  rw [← size_mk s] at hb
  refine ⟨.string ((ByteArray.mk s.toArray).extract l.toNat h.toNat), ?_, ?_⟩
  · simp [Instr.sliceAt, Instr.slice, run_underlying (strIs_iff ht), hb]
  · simp only [aSsl, Rep]
    rw [ByteArray.extract_mk, List.drop_take]

theorem run_slsl (t : TypeId) (sz : Nat) (ht : slIs P t sz = true) (lo hi : Option Value) (l h : Int) : ∀ {x : AV} {vx : Value}, Rep w F x vx → dSlsl sz x l h → (match lo with | none => l = 0 | some v => ∃ k, v = .int k l) → (match hi with | none => h = x.size | some v => ∃ k, v = .int k h) →
    ∃ v, (Instr.sliceAt t vx lo hi none).run P w = .ok v w ∧ Rep w F (aSlsl sz x l h) v := by
  intro x vx hx hd hlo hhi
  cases x <;> simp only [dSlsl] at hd
  rename_i xs n
  obtain ⟨e, i, he, hi', hsz⟩ := slIs_iff ht
  obtain ⟨ao, c, rfl, hnc, hcm, hc⟩ := rep_sl_inv hx
  have hb := run_bounds (P := P) (w := w) true n c lo hi l h hlo hhi hd.1 hd.2.1 hd.2.2.1 hnc
  refine ⟨_, by simp [Instr.sliceAt, Instr.slice, run_underlying he, hb, sizeOf, typeInfo, hi', hsz]; rfl, ?_⟩
  have h2 := hd.2.2.1
  have h3 := hd.2.1
  have h4 := hd.1
  simp only [aSlsl, Rep]
  refine ⟨_, _, rfl, by omega, by omega, ?_⟩
  rcases hc with ⟨rfl, rfl⟩ | ⟨b, o, rfl, hat⟩
  · left
    have e1 : h = 0 := by omega
    have e2 : l = 0 := by omega
    subst e1; subst e2
    simp
  · right
    by_cases hcl : c = l.toNat
    · have : (xs.take (h.toNat * sz)).drop (l.toNat * sz) = [] := by
        have : h.toNat = l.toNat := by omega
        rw [this]
        apply List.drop_eq_nil_of_le
        simp; omega
      rw [this, if_pos hcl]
      exact ⟨b, o, rfl, by simp only [RepAt]⟩
    · rw [if_neg hcl]
      refine ⟨b, o + l.toNat * sz, by simp [Addr.add_lit], ?_⟩
      exact repAt_drop _ _ _ _ (repAt_take _ _ _ _ hat)

theorem run_idxA (t : TypeId) (sz : Nat) (ht : slIs P t sz = true) : ∀ {x y : AV} {vx vy : Value}, Rep w F x vx → Rep w F y vy → dIdxA sz x y →
    ∃ v, (Instr.indexAt t vx vy).run P w = .ok v w ∧ Rep w F (aIdxA sz x y) v := by
  intro x y vx vy hx hy hd
  cases x <;> cases y <;> simp only [dIdxA] at hd
  rename_i xs n k i
  simp only [Rep] at hy
  subst hy
  obtain ⟨e, j, he, hi', hsz⟩ := slIs_iff ht
  obtain ⟨ao, c, rfl, hnc, hcm, hc⟩ := rep_sl_inv hx
  rcases hc with ⟨rfl, rfl⟩ | ⟨b, o, rfl, hat⟩
  · omega
  · refine ⟨.pointer (some ⟨b, o + i.toNat * sz, none⟩), ?_, ?_⟩
    · simp [Instr.indexAt, asIntOf, run_underlying he, hd.1, hd.2.1, sizeOf, typeInfo, hi', hsz, Addr.add_lit]
    · simp only [aIdxA, Rep]
      exact ⟨b, _, rfl, repAt_drop _ _ _ _ hat⟩

theorem fieldIs_run {s f off : Nat} (h : fieldIs P s f off = true) (b o : Nat) : (Instr.fieldAt s (.pointer (some ⟨b, o, none⟩)) f).run P w = .ok (.pointer (some ⟨b, o + off, none⟩)) w := by
  unfold fieldIs at h
  split at h
  · rename_i fields hu
    split at h
    · rename_i fl hf
      split at h
      · rename_i j hj
        simp at h
        simp [Instr.fieldAt, run_underlying hu, hf, Instr.sureAddr, fieldPlace, sizeOf, typeInfo, hj, h.2, Addr.add_lit, h.1]
      · simp at h
    · cases h
  · cases h

theorem run_fldP {s f off : Nat} (h : fieldIs P s f off = true) : ∀ {x : AV} {vx : Value}, Rep w F x vx → dFldP off x → ∃ v, (Instr.fieldAt s vx f).run P w = .ok v w ∧ Rep w F (aFldP off x) v := by
  intro x vx hx hd
  cases x <;> simp only [dFldP] at hd
  rename_i xs
  simp only [Rep] at hx
  obtain ⟨b, o, rfl, hat⟩ := hx
  exact ⟨_, fieldIs_run h b o, by simp only [aFldP, Rep]; exact ⟨b, _, rfl, repAt_drop _ _ _ _ hat⟩⟩

theorem agg_run {t : TypeId} {b : Bool} (h : aggIs P t b = true) : (isAgg t).run P w = .ok b w := by
  unfold aggIs at h
  unfold isAgg
  cases hu : P.underlying t with
  | none => simp [hu] at h
  | some d =>
    rw [hu] at h
    cases d <;> simp at h <;> subst h <;> simp [run_underlying hu]

/-- Cells that are known, loaded as a thing of the type. -/
theorem run_loadVar_at (t : TypeId) (n : Nat) (agg : Bool) (hs : szIs P t n = true) (ha : aggIs P t agg = true) (xs : List AV) (b o : Nat) (hat : ∃ vs : List Value, RepL w F true xs vs ∧ ∀ j v, vs[j]? = some v → w.cell? ⟨b, o + j, none⟩ = some v)
    (hd : dPart 0 n agg xs) : ∃ v, (loadVar t ⟨b, o, none⟩).run P w = .ok v w ∧ Rep w F (aPart 0 n agg xs) v := by
  obtain ⟨vs, h1, h2⟩ := hat
  have hl := repL_length _ _ h1
  obtain ⟨i, hi, hsz⟩ := szIs_iff hs
  cases agg
  · simp only [dPart, Bool.false_eq_true, if_false] at hd
    obtain ⟨v, k1, k2, k3⟩ := repL_get xs vs 0 hd h1
    have hc := h2 0 v k1
    simp at hc
    refine ⟨v, ?_, ?_⟩
    · simp [loadVar, agg_run ha, hc]
    · simp only [aPart, Bool.false_eq_true, if_false]
      rw [List.getD_eq_getElem?_getD, List.getElem?_eq_getElem hd]
      exact k3
  · simp only [dPart, if_true, Nat.zero_add] at hd
    refine ⟨.agg (vs.take n).toArray, ?_, ?_⟩
    · have := run_loadCells_list (P := P) w ⟨b, o, none⟩ (vs.take n) fun j v hj => by
        rw [List.getElem?_take] at hj
        split at hj
        · rw [Addr.add_lit]; exact h2 j v hj
        · cases hj
      rw [List.length_take, Nat.min_eq_left (by omega)] at this
      simp [loadVar, agg_run ha, sizeOf, typeInfo, hi, hsz, this]
    · simp only [aPart, if_true, List.drop_zero, Rep]
      exact ⟨_, rfl, by simpa using repL_take xs vs n h1⟩

theorem run_part (t : TypeId) (n : Nat) (agg : Bool) (hs : szIs P t n = true) (ha : aggIs P t agg = true) (xs : List AV) (cs : Array Value) (h : RepL w F true xs cs.toList) (off : Nat) (hd : dPart off n agg xs) :
    ∃ v, (part t cs off).run P w = .ok v w ∧ Rep w F (aPart off n agg xs) v := by
  obtain ⟨i, hi, hsz⟩ := szIs_iff hs
  cases agg
  · simp only [dPart, Bool.false_eq_true, if_false] at hd
    obtain ⟨v, k1, k2, k3⟩ := repL_get xs cs.toList off hd h
    have k1' : cs[off]? = some v := by simpa using k1
    refine ⟨v, by simp [part, agg_run ha, k1'], ?_⟩
    simp only [aPart, Bool.false_eq_true, if_false]
    rw [List.getD_eq_getElem?_getD, List.getElem?_eq_getElem hd]
    exact k3
  · refine ⟨_, by simp [part, agg_run ha, sizeOf, typeInfo, hi, hsz]; rfl, ?_⟩
    simp only [aPart, if_true, Rep]
    refine ⟨_, rfl, ?_⟩
    have := repL_take _ _ n (repL_drop _ _ off h)
    have e : (cs.extract off (off + n)).toList = (cs.toList.drop off).take n := by
      simp [Array.toList_extract, List.extract, Nat.add_sub_cancel_left]
    rw [e]; exact this

theorem lies_good {x : AV} (h : x.lies) : x.good := by cases x <;> simp_all [AV.lies, AV.one, AV.good]
theorem cells_rep {x : AV} {v : Value} (h : Rep w F x v) (hl : x.lies) : RepL w F true x.cells v.cells.toList := by
  by_cases ha : x.isAgg
  · cases x <;> simp only [AV.isAgg] at ha
    simp only [Rep] at h
    obtain ⟨cs, rfl, h⟩ := h
    exact h
  · have hone : x.one = true ∧ x.cells = [x] := by cases x <;> simp_all [AV.lies, AV.one, AV.cells, AV.isAgg]
    rw [hone.2, (one_value hone.1 h).2]
    simp only [RepL]
    exact ⟨v, [], rfl, fun _ => hone.1, h, rfl⟩

theorem fold_set (off : Nat) : ∀ (vs : List Value) (k : Nat) (cs : Array Value), off + k + vs.length ≤ cs.size →
    ((vs.zipIdx k).foldl (fun cs (p : Value × Nat) => cs.setIfInBounds (off + p.2) p.1) cs).toList = cs.toList.take (off + k) ++ vs ++ cs.toList.drop (off + k + vs.length)
  | [], k, cs, _ => by simp
  | v :: vs, k, cs, h => by
    simp only [List.length_cons] at h
    rw [List.zipIdx_cons, List.foldl_cons, fold_set off vs (k + 1) _ (by simp; omega)]
    simp only [Array.toList_setIfInBounds, List.length_cons]
    have e1 : (cs.toList.set (off + k) v).take (off + (k + 1)) = cs.toList.take (off + k) ++ [v] := by
      have hlt : off + k < cs.toList.length := by simp; omega
      rw [List.take_set, show off + (k + 1) = off + k + 1 by omega, List.take_succ_eq_append_getElem hlt]
      rw [List.set_append_right _ _ (by simp; omega)]
      have hz : off + k - (cs.toList.take (off + k)).length = 0 := by rw [List.length_take]; omega
      rw [hz]; rfl
    have e2 : (cs.toList.set (off + k) v).drop (off + (k + 1) + vs.length) = cs.toList.drop (off + k + (vs.length + 1)) := by
      rw [List.drop_set_of_lt (by omega)]
      congr 1; omega
    rw [e1, e2]; simp

theorem splice_rep {xs ys : List AV} {vs us : List Value} (h : RepL w F true xs vs) (h' : RepL w F true ys us) (off : Nat) : RepL w F true (splice xs off ys) (vs.take off ++ us ++ vs.drop (off + us.length)) := by
  unfold splice
  rw [← repL_length _ _ h']
  exact repL_append _ _ _ _ (repL_append _ _ _ _ (repL_take _ _ _ h) h') (repL_drop _ _ _ h)

theorem fill_ok (place : Nat → Option (Nat × Nat)) (s : St) (a : Act) (hrd : ∀ o x, chkV o x = true → s.ok x → (s.rd x).good → Rep w F (s.rd x) (a.eval o)) :
    ∀ (ps : List (Nat × Operand)) (qs : List (Nat × Nat × RV)) (xs : List AV) (cs : Array Value), chkParts place ps qs = true → okParts s cs.size qs → RepL w F true xs cs.toList →
      ∃ cs', Instr.fill place cs (ps.map fun p => (p.1, a.eval p.2)) = some cs' ∧ RepL w F true (fillAV s xs qs) cs'.toList ∧ cs'.size = cs.size
  | [], [], xs, cs, _, _, h => ⟨cs, rfl, h, rfl⟩
  | [], _ :: _, _, _, h, _, _ => by simp [chkParts] at h
  | _ :: _, [], _, _, h, _, _ => by simp [chkParts] at h
  | (i, o) :: ps, (off, n, x) :: qs, xs, cs, hc, hok, h => by
    simp only [chkParts, Bool.and_eq_true] at hc
    obtain ⟨⟨h1, h2⟩, h3⟩ := hc
    simp only [okParts] at hok
    obtain ⟨k1, k2, k3, k4, k5⟩ := hok
    have hr := hrd o x h1 k1 (lies_good k2)
    have hcells := cells_rep hr k2
    have hlen := repL_length _ _ hcells
    have hpl : place i = some (off, n) := by simpa using h2
    have hsz : (a.eval o).cells.size = n := by rw [← k3, ← hlen]; simp
    have hf := fold_set off (a.eval o).cells.toList 0 cs (by simp [hsz]; omega)
    have hrep : RepL w F true (splice xs off (s.rd x).cells) (((a.eval o).cells.toList.zipIdx 0).foldl (fun cs (p : Value × Nat) => cs.setIfInBounds (off + p.2) p.1) cs).toList := by
      rw [hf]; simpa using splice_rep h hcells off
    have hsize : (((a.eval o).cells.toList.zipIdx 0).foldl (fun cs (p : Value × Nat) => cs.setIfInBounds (off + p.2) p.1) cs).size = cs.size := by
      rw [← Array.length_toList, hf]; simp [hsz]; omega
    obtain ⟨cs', e1, e2, e3⟩ := fill_ok place s a hrd ps qs _ _ h3 (by rw [hsize]; exact k5) hrep
    refine ⟨cs', ?_, by simpa only [fillAV] using e2, e3.trans hsize⟩
    simp only [List.map_cons, Instr.fill, hpl]
    rw [if_neg (by simp [hsz]; omega)]
    rw [← e1]
    congr 1
    rw [← Array.foldl_toList, Array.toList_zipIdx]

theorem mapM_places (fields : Array Field) (h : fields.all (fun f => (P.info? f.type).isSome) = true) :
    (fields.mapM fun f => do pure (f.offset, ← sizeOf f.type) : Sem (Array (Nat × Nat))).run P w = .ok (fields.map fun f => (f.offset, P.cellsOf f.type)) w := by
  have key : ∀ (l : List Field), (∀ f ∈ l, (P.info? f.type).isSome = true) → (l.mapM fun f => (do pure (f.offset, ← sizeOf f.type) : Sem (Nat × Nat))).run P w = .ok (l.map fun f => (f.offset, P.cellsOf f.type)) w := by
    intro l
    induction l with
    | nil => intro _; rfl
    | cons f l ih =>
      intro hl
      obtain ⟨i, hi⟩ := Option.isSome_iff_exists.1 (hl f (List.mem_cons_self ..))
      rw [List.mapM_cons]
      simp [sizeOf, typeInfo, hi, Program.cellsOf]
      have := ih fun g hg => hl g (List.mem_cons_of_mem _ hg)
      simp [sizeOf, typeInfo] at this
      rw [this]
      simp [Program.cellsOf]
  rw [Array.mapM_eq_mapM_toList]
  rw [Sem.run_map, key _ (fun f hf => by have := Array.all_eq_true.1 h; obtain ⟨i, hi, e⟩ := Array.mem_iff_getElem.1 (Array.mem_toList_iff.1 hf); rw [← e]; exact this i hi)]
  simp [← Array.toList_map]

theorem cAVs_len : ∀ {xs : List AV} {vs : List Value}, cAVs xs vs = true → xs.length = vs.length
  | [], [], _ => rfl
  | [], _ :: _, h => by simp [cAVs] at h
  | _ :: _, [], h => by simp [cAVs] at h
  | x :: xs, v :: vs, h => by
    simp only [cAVs, Bool.and_eq_true] at h
    simp [cAVs_len h.2]
theorem cAV_row {sz : Nat} {xs : List AV} {n : Nat} {v : Value} (h : cAV (.row sz xs n) v = true) : xs = [] ∧ n = 0 ∧ v = .slice none 0 0 := by
  unfold cAV at h
  split at h <;> simp_all
theorem cAV_sl {xs : List AV} {n : Nat} {v : Value} (h : cAV (.sl xs n) v = true) : xs = [] ∧ n = 0 ∧ v = .slice none 0 0 := by
  unfold cAV at h
  split at h <;> simp_all
theorem nil_rep : Rep w F (.sl [] 0) (.slice none 0 0) := by
  simp only [Rep]
  exact ⟨none, 0, rfl, Nat.le_refl _, Nat.zero_le _, .inl (by simp)⟩
mutual
theorem cAV_rep : ∀ {x : AV} {v : Value}, cAV x v = true → Rep w F x.share v
  | .int k n, v, h => by
    cases v <;> simp [cAV] at h
    simp only [AV.share, Rep]; rw [h.1, h.2]
  | .bool b, v, h => by
    cases v <;> simp [cAV] at h
    simp only [AV.share, Rep]; rw [h]
  | .str l, v, h => by
    cases v <;> simp [cAV] at h
    rename_i s
    simp only [AV.share, Rep]
    rw [← h]
  | .row sz xs n, v, h => by
    obtain ⟨rfl, rfl, rfl⟩ := cAV_row h
    exact nil_rep
  | .sl xs n, v, h => by
    obtain ⟨rfl, rfl, rfl⟩ := cAV_sl h
    exact nil_rep
  | .agg xs, v, h => by
    cases v <;> simp [cAV] at h
    rename_i cs
    simp only [AV.share, Rep]
    exact ⟨cs, rfl, cAVs_rep h⟩
  | .nilI, v, h => by cases v <;> simp [cAV] at h; simp only [AV.share, Rep]
  | .nilP, v, h => by
    have : v = .pointer none := by unfold cAV at h; split at h <;> simp_all
    subst this; simp only [AV.share, Rep]
  | .nilF, v, h => by cases v <;> simp [cAV] at h; simp only [AV.share, Rep]
  | .anyB, v, h => by cases v <;> simp [cAV] at h
  | .ifc _ _, v, h => by cases v <;> simp [cAV] at h
  | .nilS _, v, h => by
    have : v = .slice none 0 0 := by unfold cAV at h; split at h <;> simp_all
    subst this; simp only [AV.share, Rep]
  | .obox _, v, h => by cases v <;> simp [cAV] at h
  | .tup _, v, h => by cases v <;> simp [cAV] at h
  | .ptr _, v, h => by cases v <;> simp [cAV] at h
  | .box _, v, h => by cases v <;> simp [cAV] at h
  | .ref .., v, h => by cases v <;> simp [cAV] at h
  | .bad, v, h => by cases v <;> simp [cAV] at h
theorem cAVs_rep : ∀ {xs : List AV} {vs : List Value}, cAVs xs vs = true → RepL w F true xs vs
  | [], [], _ => by simp only [RepL]
  | [], _ :: _, h => by simp [cAVs] at h
  | _ :: _, [], h => by simp [cAVs] at h
  | x :: xs, v :: vs, h => by
    simp only [cAVs, Bool.and_eq_true] at h
    simp only [RepL]
    have := cAV_rep h.1.2
    have hs : x.share = x := by have := h.1.1; cases x <;> simp_all [AV.one, AV.share]
    rw [hs] at this
    exact ⟨v, vs, rfl, fun _ => h.1.1, this, cAVs_rep h.2⟩
end

theorem run_makeI {t : Nat} {x : Value} (h : concIs P t = true) : (Instr.makeInterface t x).run P w = .ok (.iface t x) w := by
  unfold concIs at h
  unfold Instr.makeInterface
  cases hu : P.underlying t with
  | none => rw [hu] at h; cases h
  | some d =>
    rw [hu] at h
    rw [Sem.run_bind, run_underlying hu]
    cases d <;> first | rfl | cases h
theorem nilOf_iff {t : Nat} {p : Bool} {y : Operand} (h : nilOf P t p y = true) : (p = false ∧ y = .const .nilIface ∧ ∃ ms, P.underlying t = some (.interface ms)) ∨ (p = true ∧ y = .const (.pointer none) ∧ ∃ e, P.underlying t = some (.pointer e)) := by
  unfold nilOf at h
  split at h
  · simp only [Bool.and_eq_true, Bool.not_eq_true'] at h
    obtain ⟨h0, h⟩ := h
    unfold ifcIs at h; split at h
    · exact .inl ⟨h0, rfl, _, by assumption⟩
    · cases h
  · simp only [Bool.and_eq_true] at h
    obtain ⟨h0, h⟩ := h
    unfold ptrIs at h; split at h
    · exact .inr ⟨h0, rfl, _, by assumption⟩
    · cases h
  · cases h
theorem run_equalIn_ptr_nil (d : Nat) (t e : TypeId) (b : Addr) (h : P.underlying t = some (.pointer e)) : (Op.equalIn (d + 1) t (.pointer (some b)) (.pointer none)).run P w = .ok false w := by
  simp [Op.equalIn, run_underlying h]
theorem run_equalIn_nilP (d : Nat) (t e : TypeId) (h : P.underlying t = some (.pointer e)) : (Op.equalIn (d + 1) t (.pointer none) (.pointer none)).run P w = .ok true w := by
  simp [Op.equalIn, run_underlying h]
theorem run_equal_ptr_nil (t e : TypeId) (b : Addr) (h : P.underlying t = some (.pointer e)) : (Op.equal t (.pointer (some b)) (.pointer none)).run P w = .ok false w := run_equalIn_ptr_nil 9999 t e b h
theorem run_equal_nilP (t e : TypeId) (h : P.underlying t = some (.pointer e)) : (Op.equal t (.pointer none) (.pointer none)).run P w = .ok true w := run_equalIn_nilP 9999 t e h
theorem run_isNil {a : Act} (p ne : Bool) {t : Nat} {y : Operand} (ht : nilOf P t p y = true) (x : Operand) {av : AV} (hr : Rep w F av (a.eval x)) (hd : dIsNil p av) :
    ∃ v, (do eqGuard (if ne then .neq else .eql) t x y (a.eval x) (a.eval y); binOp (if ne then .neq else .eql) t (a.eval x) (a.eval y) : Sem Value).run P w = .ok v w ∧ Rep w F (aIsNil ne av) v := by
  rcases nilOf_iff ht with ⟨rfl, rfl, ms, hu⟩ | ⟨rfl, rfl, e, hu⟩
  · have hm : P.underlying t = some (.interface (P.methodsAt t)) := by simp only [Program.methodsAt, hu]
    have hy : a.eval (.const .nilIface) = .nilIface := rfl
    cases av <;> simp only [dIsNil] at hd <;> simp only [Rep] at hr
    · obtain ⟨u, hv, _⟩ := hr
      refine ⟨.bool ne, ?_, by simp only [aIsNil, Rep]⟩
      rw [hv, hy, Sem.run_bind]
      cases ne
      · exact run_eql_held_nil w t _ u hm
      · exact run_neq_held_nil w t _ u hm
    · refine ⟨.bool (!ne), ?_, by simp only [aIsNil, Rep]⟩
      rw [hr, hy, Sem.run_bind]
      have he : ∀ op, (eqGuard op t x (.const .nilIface) .nilIface .nilIface).run P w = .ok () w := fun op => by
        unfold eqGuard; cases op <;> simp
      rw [he]
      cases ne
      · exact run_eql_nil_nil w t hm
      · exact run_neq_nil_nil w t hm
  · have hy : a.eval (.const (.pointer none)) = .pointer none := rfl
    cases av <;> simp only [dIsNil] at hd <;> simp only [Rep] at hr
    · obtain ⟨b, o, hv, _⟩ := hr
      refine ⟨.bool ne, ?_, by simp only [aIsNil, Rep]⟩
      rw [hv, hy, Sem.run_bind]
      cases ne
      · show (binOp .eql t (.pointer (some ⟨b, o, none⟩)) (.pointer none)).run P w = _
        simp only [binOp]; rw [Sem.run_bind, run_equal_ptr_nil t e _ hu]; rfl
      · show (binOp .neq t (.pointer (some ⟨b, o, none⟩)) (.pointer none)).run P w = _
        simp only [binOp]; rw [Sem.run_bind, run_equal_ptr_nil t e _ hu]; rfl
    · refine ⟨.bool (!ne), ?_, by simp only [aIsNil, Rep]⟩
      rw [hr, hy, Sem.run_bind]
      cases ne
      · show (binOp .eql t (.pointer none) (.pointer none)).run P w = _
        simp only [binOp]; rw [Sem.run_bind, run_equal_nilP t e hu]; rfl
      · show (binOp .neq t (.pointer none) (.pointer none)).run P w = _
        simp only [binOp]; rw [Sem.run_bind, run_equal_nilP t e hu]; rfl
theorem run_equalIn_sl (d : Nat) (t e : TypeId) (ao : Option Addr) (n c : Nat) (h : P.underlying t = some (.slice e)) : (Op.equalIn (d + 1) t (.slice ao n c) (.slice none 0 0)).run P w = .ok ao.isNone w := by
  cases ao <;> simp [Op.equalIn, run_underlying h]
theorem run_equal_sl (t e : TypeId) (ao : Option Addr) (n c : Nat) (h : P.underlying t = some (.slice e)) : (Op.equal t (.slice ao n c) (.slice none 0 0)).run P w = .ok ao.isNone w := run_equalIn_sl 9999 t e ao n c h
theorem run_isNilS {a : Act} (ne : Bool) {t e : Nat} (hu : P.underlying t = some (.slice e)) (x : Operand) {av : AV} (hr : Rep w F av (a.eval x)) (hd : dNilS av) :
    ∃ v, (do eqGuard (if ne then .neq else .eql) t x (.const (.slice none 0 0)) (a.eval x) (a.eval (.const (.slice none 0 0))); binOp (if ne then .neq else .eql) t (a.eval x) (a.eval (.const (.slice none 0 0))) : Sem Value).run P w = .ok v w ∧ Rep w F (aNilS ne av) v := by
  have key : ∀ ao n c, a.eval x = .slice ao n c → (do eqGuard (if ne then .neq else .eql) t x (.const (.slice none 0 0)) (a.eval x) (a.eval (.const (.slice none 0 0))); binOp (if ne then .neq else .eql) t (a.eval x) (a.eval (.const (.slice none 0 0))) : Sem Value).run P w = .ok (.bool (if ne then !ao.isNone else ao.isNone)) w := fun ao n c hx => by
    have hy : a.eval (.const (.slice none 0 0)) = .slice none 0 0 := rfl
    have he : ∀ op, (eqGuard op t x (.const (.slice none 0 0)) (.slice ao n c) (.slice none 0 0)).run P w = .ok () w := fun op => by
      unfold eqGuard; cases op <;> simp
    rw [hx, hy, Sem.run_bind, he]
    cases ne
    · show (binOp .eql t (.slice ao n c) (.slice none 0 0)).run P w = _
      simp only [binOp]; rw [Sem.run_bind, run_equal_sl t e ao n c hu]; rfl
    · show (binOp .neq t (.slice ao n c) (.slice none 0 0)).run P w = _
      simp only [binOp]; rw [Sem.run_bind, run_equal_sl t e ao n c hu]; rfl
  cases av <;> simp only [dNilS] at hd
  · simp only [Rep] at hr
    obtain ⟨ao, c, hx, _, _, h⟩ := hr
    refine ⟨_, key _ _ _ hx, ?_⟩
    simp only [aNilS]
    split
    · simp only [Rep]; exact ⟨_, rfl⟩
    · rename_i hn
      rcases h with ⟨_, h⟩ | ⟨b, o, rfl, _⟩
      · exact (hn h).elim
      · simp only [Rep]; cases ne <;> rfl
  · simp only [Rep] at hr
    refine ⟨_, key _ _ _ hr, ?_⟩
    simp only [aNilS, Rep]; cases ne <;> rfl
theorem zero1_iff {t : Nat} {z : AV} (h : zero1 P t z = true) : ∃ i v, P.info? t = some i ∧ i.zero = some v ∧ cAV z v = true := by
  unfold zero1 at h
  split at h
  · rename_i i hi
    split at h
    · rename_i v hv; exact ⟨i, v, hi, hv, h⟩
    · cases h
  · cases h
theorem run_asI (ok : Bool) (u : Nat) {t : Nat} {z : AV} (hc : concIs P t = true) (hz : zero1 P t z = true) {av : AV} {v : Value} (hr : Rep w F av v) (hd : dAsI t ok av) :
    ∃ v', (Instr.typeAssert v u t ok).run P w = .ok v' w ∧ Rep w F (aAsI t ok z.share av) v' := by
  obtain ⟨i, zv, hi, hzv, hzr⟩ := zero1_iff hz
  have hzrep : Rep w F z.share zv := cAV_rep hzr
  unfold concIs at hc
  have hpair : ∀ (x : AV) (v : Value) (b : Bool), Rep w F x v → Rep w F (.tup [x, .bool b]) (.tuple #[v, .bool b]) := fun x v b h => by
    simp only [Rep, RepL]
    exact ⟨_, rfl, _, _, rfl, by simp, h, _, _, rfl, by simp, rfl, rfl⟩
  cases hu : P.underlying t with
  | none => rw [hu] at hc; cases hc
  | some d =>
    rw [hu] at hc
    have key : (∀ t' x, v = .iface t' x → (Instr.typeAssert v u t ok).run P w = ((if t' = t then pure (if ok then .tuple #[x, .bool true] else x) else (if ok then (do pure (.tuple #[← zeroValue t, .bool false])) else runtimePanic (.typeAssertion (some u) (some t') t ""))) : Sem Value).run P w) ∧
        (v = .nilIface → (Instr.typeAssert v u t ok).run P w = ((if ok then (do pure (.tuple #[← zeroValue t, .bool false])) else runtimePanic (.typeAssertion (some u) none t "")) : Sem Value).run P w) := by
      constructor
      · rintro t' x rfl
        unfold Instr.typeAssert
        rw [Sem.run_bind, run_underlying hu]
        cases d <;> first | rfl | cases hc
      · rintro rfl
        unfold Instr.typeAssert
        rw [Sem.run_bind, run_underlying hu]
        cases d <;> first | rfl | cases hc
    have hzrun : (zeroValue t).run P w = .ok zv w := by simp [zeroValue, typeInfo, hi, hzv]
    cases av <;> simp only [dAsI] at hd <;> simp only [Rep] at hr
    · rename_i t' x
      obtain ⟨xv, rfl, hx⟩ := hr
      rw [key.1 t' xv rfl]
      cases ok
      · have e : t' = t := by simpa using hd
        refine ⟨xv, by simp [e], by simp only [aAsI]; exact hx⟩
      · by_cases e : t' = t
        · exact ⟨.tuple #[xv, .bool true], by simp [e], by simp only [aAsI, e, if_true]; exact hpair _ _ _ hx⟩
        · exact ⟨.tuple #[zv, .bool false], by simp [e, hzrun], by simp only [aAsI, e, if_true, if_false]; exact hpair _ _ _ hzrep⟩
    · subst hd
      rw [key.2 hr]
      exact ⟨.tuple #[zv, .bool false], by simp [hzrun], by simp only [aAsI]; exact hpair _ _ _ hzrep⟩
theorem zeroIs_iff {t : Nat} {zs : List AV} (h : zeroIs P t zs = true) : ∃ i z, P.info? t = some i ∧ i.zero = some z ∧ cAVs zs z.cells.toList = true := by
  unfold zeroIs at h
  split at h
  · rename_i i hi
    split at h
    · rename_i z hz; exact ⟨i, z, hi, hz, h⟩
    · cases h
  · cases h
theorem fit_cons {c : Sc} {l : List Sc} {xs ys : List AV} (h : fitS (c :: l) xs ys) : ∃ x xs' y ys', xs = x :: xs' ∧ ys = y :: ys' ∧ fitS l xs' ys' ∧ match c with
    | .i => ∃ k a b, x = .int k a ∧ y = .int k b
    | .b => ∃ a b, x = .bool a ∧ y = .bool b
    | .s => ∃ a b, x = .str a ∧ y = .str b := by
  cases c <;> cases xs with
  | nil => simp [fitS] at h
  | cons x xs => cases ys with
    | nil => cases x <;> simp [fitS] at h
    | cons y ys =>
      cases x <;> cases y <;> simp [fitS] at h
      all_goals first
        | (obtain ⟨rfl, h⟩ := h; exact ⟨_, _, _, _, rfl, rfl, h, _, _, _, rfl, rfl⟩)
        | exact ⟨_, _, _, _, rfl, rfl, h, _, _, rfl, rfl⟩
theorem fit_nil {xs ys : List AV} (h : fitS [] xs ys) : xs = [] ∧ ys = [] := by
  cases xs <;> cases ys <;> simp [fitS] at h ⊢
theorem sc_i {u : Option TypeDesc} (h : scTy u .i = true) : ∃ k, u = some (.int k) := by
  cases u with
  | none => simp [scTy] at h
  | some d => cases d <;> first | exact ⟨_, rfl⟩ | (simp [scTy] at h)
theorem sc_b {u : Option TypeDesc} (h : scTy u .b = true) : u = some .bool := by
  cases u with
  | none => simp [scTy] at h
  | some d => cases d <;> first | rfl | (simp [scTy] at h)
theorem sc_s {u : Option TypeDesc} (h : scTy u .s = true) : u = some .string := by
  cases u with
  | none => simp [scTy] at h
  | some d => cases d <;> first | rfl | (simp [scTy] at h)
theorem fit_len : ∀ (l : List Sc) {xs ys : List AV}, fitS l xs ys → xs.length = l.length ∧ ys.length = l.length
  | [], xs, ys, h => by obtain ⟨rfl, rfl⟩ := fit_nil h; exact ⟨rfl, rfl⟩
  | c :: l, xs, ys, h => by
    obtain ⟨x, xs', y, ys', rfl, rfl, h1, _⟩ := fit_cons h
    obtain ⟨q1, q2⟩ := fit_len l h1
    simp [q1, q2]
theorem fit_split : ∀ (n : Nat) (l : List Sc) {xs ys : List AV}, fitS l xs ys → fitS (l.take n) (xs.take n) (ys.take n) ∧ fitS (l.drop n) (xs.drop n) (ys.drop n) ∧ eqAVs xs ys = (eqAVs (xs.take n) (ys.take n) && eqAVs (xs.drop n) (ys.drop n))
  | 0, l, xs, ys, h => by simpa [fitS, eqAVs] using h
  | n + 1, [], xs, ys, h => by obtain ⟨rfl, rfl⟩ := fit_nil h; simp [fitS, eqAVs]
  | n + 1, c :: l, xs, ys, h => by
    obtain ⟨x, xs', y, ys', rfl, rfl, h1, h2⟩ := fit_cons h
    obtain ⟨q1, q2, q3⟩ := fit_split n l h1
    cases c
    · obtain ⟨k, a, b, rfl, rfl⟩ := h2
      simp [fitS, eqAVs, q1, q2, q3, Bool.and_assoc]
    · obtain ⟨a, b, rfl, rfl⟩ := h2
      simp [fitS, eqAVs, q1, q2, q3, Bool.and_assoc]
    · obtain ⟨a, b, rfl, rfl⟩ := h2
      simp [fitS, eqAVs, q1, q2, q3, Bool.and_assoc]
/-- Parts of this type, anywhere in two values, are compared cell by cell. -/
def PartEq (P : Program) (w : World) (F : Fp) (D t : Nat) (l : List Sc) : Prop := ∀ (xs ys : List AV) (cs ds : Array Value) (off : Nat), RepL w F true xs cs.toList → RepL w F true ys ds.toList → off + l.length ≤ xs.length → off + l.length ≤ ys.length →
  fitS l ((xs.drop off).take l.length) ((ys.drop off).take l.length) → ∃ vx vy, (part t cs off).run P w = .ok vx w ∧ (part t ds off).run P w = .ok vy w ∧ (Op.equalIn D t vx vy).run P w = .ok (eqAVs ((xs.drop off).take l.length) ((ys.drop off).take l.length)) w
theorem fields_eq (f : Nat → List Sc → Bool) (D : Nat) (hf : ∀ t l, f t l = true → PartEq P w F D t l) {xs ys : List AV} {cs ds : Array Value} (hx : RepL w F true xs cs.toList) (hy : RepL w F true ys ds.toList) : ∀ (fs : List Field) (l : List Sc) (off : Nat), scFlds f P off fs l = true → fitS l (xs.drop off) (ys.drop off) →
    (Op.eqFields D cs ds fs).run P w = .ok (eqAVs (xs.drop off) (ys.drop off)) w
  | [], l, off, h, hfit => by
    simp only [scFlds, List.isEmpty_iff] at h
    subst h
    obtain ⟨h1, h2⟩ := fit_nil hfit
    rw [h1, h2]; rfl
  | fl :: fs, l, off, h, hfit => by
    simp only [scFlds] at h
    split at h
    · rename_i i hi
      simp only [Bool.and_eq_true, bne_iff_ne, beq_iff_eq, decide_eq_true_eq] at h
      obtain ⟨⟨⟨⟨h1, h2⟩, h3⟩, h4⟩, h5⟩ := h
      obtain ⟨q1, q2, q3⟩ := fit_split i.size l hfit
      obtain ⟨l1, l2⟩ := fit_len l hfit
      rw [List.length_drop] at l1 l2
      have hl : (l.take i.size).length = i.size := by rw [List.length_take]; omega
      obtain ⟨vx, vy, r1, r2, r3⟩ := hf _ _ h4 xs ys cs ds off hx hy (by rw [hl]; omega) (by rw [hl]; omega) (by rw [hl]; exact q1)
      rw [hl] at r3
      rw [List.drop_drop, List.drop_drop] at q2 q3
      have ih := fields_eq f D hf hx hy fs (l.drop i.size) (off + i.size) h5 q2
      rw [q3]
      subst h2
      simp only [Op.eqFields, if_pos h1, Sem.run_bind, r1, r2, r3, Result.andThen_ok]
      cases eqAVs ((xs.drop fl.offset).take i.size) ((ys.drop fl.offset).take i.size)
      · simp
      · simpa using ih
    · cases h
theorem items_eq (D e : Nat) (le : List Sc) (c : Nat) (hc : c = le.length) (h0 : 0 < c) (he : PartEq P w F D e le) {xs ys : List AV} {cs ds : Array Value} (hx : RepL w F true xs cs.toList) (hy : RepL w F true ys ds.toList) : ∀ (m j : Nat), fitS ((List.replicate m le).flatten) (xs.drop (j * c)) (ys.drop (j * c)) →
    (Op.eqItems D e c cs ds (List.range' j m)).run P w = .ok (eqAVs (xs.drop (j * c)) (ys.drop (j * c))) w
  | 0, j, h => by
    simp only [List.replicate_zero, List.flatten_nil] at h
    obtain ⟨h1, h2⟩ := fit_nil h
    rw [h1, h2]; rfl
  | m + 1, j, h => by
    rw [List.replicate_succ, List.flatten_cons] at h
    obtain ⟨q1, q2, q3⟩ := fit_split c _ h
    obtain ⟨l1, l2⟩ := fit_len _ h
    rw [List.length_drop, List.length_append, ← hc] at l1 l2
    rw [List.take_left' hc.symm] at q1
    rw [List.drop_left' hc.symm, List.drop_drop, List.drop_drop, ← Nat.succ_mul] at q2
    rw [List.drop_drop, List.drop_drop, ← Nat.succ_mul] at q3
    obtain ⟨vx, vy, r1, r2, r3⟩ := he xs ys cs ds (j * c) hx hy (by rw [← hc]; omega) (by rw [← hc]; omega) (by rw [← hc]; exact q1)
    rw [← hc] at r3
    have ih := items_eq D e le c hc h0 he hx hy m (j + 1) q2
    rw [q3, List.range'_succ]
    simp only [Op.eqItems, Sem.run_bind, r1, r2, r3, Result.andThen_ok]
    cases eqAVs ((xs.drop (j * c)).take c) ((ys.drop (j * c)).take c)
    · simp
    · simpa using ih
theorem whole_eq (d D t : Nat) (l : List Sc) (h : scIs P (d + 1) t l = true) (hA : aggIs P t true = true) (hd : ∀ t l, scIs P d t l = true → PartEq P w F D t l) {xs ys : List AV} {cs ds : Array Value} (hx : RepL w F true xs cs.toList) (hy : RepL w F true ys ds.toList) (hf : fitS l xs ys) :
    (Op.equalIn (D + 1) t (.agg cs) (.agg ds)).run P w = .ok (eqAVs xs ys) w := by
  simp only [scIs, Bool.and_eq_true] at h
  obtain ⟨hs, h⟩ := h
  split at h
  · rename_i fs hu
    simp only [Bool.and_eq_true, Bool.not_eq_true'] at h
    have hfs : P.fieldsOf t = fs := by simp only [Program.fieldsOf, hu]
    have e := fields_eq (scIs P d) D hd hx hy fs.toList l 0 h.2 (by simpa using hf)
    have e2 := run_equalIn_agg (P := P) w D t cs ds (by rw [hu, hfs]) h.1
    rw [hfs, e] at e2
    simpa using e2
  · rename_i n e hu
    split at h
    · rename_i i hi
      simp only [Bool.and_eq_true, decide_eq_true_eq] at h
      obtain ⟨⟨h1, h2, h3⟩, h4⟩ := h
      have hl : (l.take i.size).length = i.size := by rw [List.length_take]; omega
      have hci : P.cellsOf e = i.size := by simp [Program.cellsOf, hi]
      have e1 := items_eq D e (l.take i.size) i.size hl.symm h2 (hd _ _ h4) hx hy n 0 (by rw [← h1]; simpa using hf)
      rw [run_equalIn_array w D cs ds hu hi, hci, List.range_eq_range', e1]
      simp
    · cases h
  · rename_i u h1 h2
    exfalso
    unfold aggIs at hA
    split at hA <;> first | (rename_i hu; first | exact h1 _ hu | exact h2 _ _ hu) | (simp at hA; done) | cases hA
theorem part_eq (D : Nat) : ∀ (d t : Nat) (l : List Sc), scIs P d t l = true → PartEq P w F (d + D) t l
  | 0, t, l, h => by simp [scIs] at h
  | d + 1, t, l, h => fun xs ys cs ds off hx hy bx yb hf => by
    have hs : szIs P t l.length = true := by simp only [scIs, Bool.and_eq_true] at h; exact h.1
    cases hA : aggIs P t true
    · have hN : aggIs P t false = true := by
        unfold aggIs at hA ⊢
        simp only [scIs, Bool.and_eq_true] at h
        cases hu : P.underlying t with
        | none =>
          rw [hu] at h
          have := h.2
          cases l with
          | nil => cases this
          | cons c l => cases l <;> cases c <;> simp [scTy] at this
        | some u => rw [hu] at hA; cases u <;> simp_all
      simp only [scIs, Bool.and_eq_true] at h
      have h2 := h.2
      have h3 : ∃ c, l = [c] ∧ scTy (P.underlying t) c = true := by
        unfold aggIs at hN
        split at h2
        · rename_i hu; rw [hu] at hN; cases hN
        · rename_i hu; rw [hu] at hN; cases hN
        · split at h2
          · exact ⟨_, rfl, h2⟩
          · cases h2
      obtain ⟨c, rfl, hc⟩ := h3
      have lx : off < xs.length := Nat.lt_of_lt_of_le (Nat.lt_succ_self _) bx
      have ly : off < ys.length := Nat.lt_of_lt_of_le (Nat.lt_succ_self _) yb
      obtain ⟨vx, rx, qx⟩ := run_part (P := P) t 1 false hs hN xs cs hx off (by simpa [dPart] using lx)
      obtain ⟨vy, ry, qy⟩ := run_part (P := P) t 1 false hs hN ys ds hy off (by simpa [dPart] using ly)
      rw [show [c].length = 1 from rfl, List.drop_eq_getElem_cons lx, List.drop_eq_getElem_cons ly, List.take_succ_cons, List.take_succ_cons, List.take_zero, List.take_zero] at hf ⊢
      obtain ⟨x, xs', y, ys', ex, ey, _, hc2⟩ := fit_cons hf
      obtain ⟨rfl, rfl⟩ := List.cons.inj ex
      obtain ⟨rfl, rfl⟩ := List.cons.inj ey
      have gx : aPart off 1 false xs = xs[off] := by
        simp only [aPart, Bool.false_eq_true, if_false, List.getD_eq_getElem?_getD, List.getElem?_eq_getElem lx, Option.getD_some]
      have gy : aPart off 1 false ys = ys[off] := by
        simp only [aPart, Bool.false_eq_true, if_false, List.getD_eq_getElem?_getD, List.getElem?_eq_getElem ly, Option.getD_some]
      rw [gx] at qx
      rw [gy] at qy
      refine ⟨vx, vy, rx, ry, ?_⟩
      rw [show d + 1 + D = (d + D) + 1 by omega]
      cases c
      · obtain ⟨k, a, b, e1, e2⟩ := hc2
        rw [e1] at qx ⊢; rw [e2] at qy ⊢
        simp only [Rep] at qx qy
        subst qx qy
        obtain ⟨_, hu⟩ := sc_i hc
        rw [run_equalIn_int w (d + D) _ k _ a b hu]; simp [eqAVs, beq_dec]
      · obtain ⟨a, b, e1, e2⟩ := hc2
        rw [e1] at qx ⊢; rw [e2] at qy ⊢
        simp only [Rep] at qx qy
        subst qx qy
        rw [run_equalIn_bool' w (d + D) _ a b (sc_b hc)]; simp [eqAVs, beq_dec]
      · obtain ⟨a, b, e1, e2⟩ := hc2
        rw [e1] at qx ⊢; rw [e2] at qy ⊢
        simp only [Rep] at qx qy
        subst qx qy
        rw [run_equalIn_string w (d + D) _ _ _ (sc_s hc)]; simp [eqAVs, beq_dec, ByteArray.toList_eq]
    · obtain ⟨vx, rx, qx⟩ := run_part (P := P) t l.length true hs hA xs cs hx off (by simpa [dPart] using bx)
      obtain ⟨vy, ry, qy⟩ := run_part (P := P) t l.length true hs hA ys ds hy off (by simpa [dPart] using yb)
      simp only [aPart, if_true, Rep] at qx qy
      obtain ⟨cs', rfl, qx⟩ := qx
      obtain ⟨ds', rfl, qy⟩ := qy
      refine ⟨_, _, rx, ry, ?_⟩
      rw [show d + 1 + D = (d + D) + 1 by omega]
      exact whole_eq d (d + D) t l h hA (fun t l h => part_eq D d t l h) qx qy hf
theorem run_beq (ne : Bool) (sh : Option (List Sc)) (t : TypeId) (ht : eqTy P t sh = true) (op : BinOp) (hop : op = if ne then .neq else .eql) (ox oy : Operand) : ∀ {x y : AV} {vx vy : Value}, Rep w F x vx → Rep w F y vy → dBeq sh x y →
    ∃ v, (do eqGuard op t ox oy vx vy; binOp op t vx vy : Sem Value).run P w = .ok v w ∧ Rep w F (aBeq ne x y) v := by
  intro x y vx vy hx hy hd
  cases sh with
  | none =>
    have ht : P.underlying t = some .bool := by
      simp only [eqTy] at ht
      split at ht
      · assumption
      · cases ht
    cases x <;> cases y <;> simp only [dBeq] at hd
    simp only [Rep] at hx hy
    subst hx; subst hy
    cases ne <;> simp at hop <;> subst hop <;> simp only [eqGuard_at_bool, pure_bind, aBeq, Rep]
    · exact ⟨_, run_eql_bool w t _ _ ht, by simp⟩
    · exact ⟨_, run_neq_bool w t _ _ ht, by simp⟩
  | some l =>
    simp only [eqTy, Bool.and_eq_true, Bool.not_eq_true'] at ht
    obtain ⟨⟨h1, h2⟩, h3⟩ := ht
    cases x <;> cases y <;> simp only [dBeq] at hd
    rename_i xs ys
    simp only [Rep] at hx hy
    obtain ⟨cs, rfl, hx⟩ := hx
    obtain ⟨ds, rfl, hy⟩ := hy
    have e2 := whole_eq (P := P) 7 9999 t l h1 h2 (fun t l h => part_eq 9992 7 t l h) hx hy hd
    have hg : ∀ op, (eqGuard op t ox oy (.agg cs) (.agg ds)).run P w = .ok () w := fun op => run_eqGuard_agg w op t ox oy cs ds h3
    cases ne <;> simp at hop <;> subst hop
    · refine ⟨_, by rw [Sem.run_bind, hg, Result.andThen_ok, run_eql_struct, e2, Result.andThen_ok], ?_⟩
      simp [aBeq, Rep]
    · refine ⟨_, by rw [Sem.run_bind, hg, Result.andThen_ok, run_neq_struct, e2, Result.andThen_ok], ?_⟩
      simp [aBeq, Rep]
end

end Go.Proofs.Ytbikpgaiocjnoaa.Pad
