/- The operations that make or write memory. -/
import Derived.Test.YtbikpgaiocjnoaaE4
import Derived.Laws.IdiomCopy
import Derived.Lib.AppendStr
set_option linter.unusedVariables false
set_option linter.unusedSimpArgs false
namespace Go.Proofs.Ytbikpgaiocjnoaa.Pad

section
variable {P : Program} {w : World} {F : Fp}

theorem chg_alloc (S : Fp) (w : World) (o : Obj) : Chg S w (w.alloc o) :=
  ⟨rfl, rfl, rfl, by simp, fun k hk _ => heap_alloc_old w o hk, fun k c e f h => ⟨c, by rw [heap_alloc_old w o (lt_of_heap h)]; exact h, rfl, fun _ _ => rfl⟩, fun k hk hn c e f => by rw [heap_alloc_old w o hk]; exact hn c e f⟩
theorem chg_drew (S : Fp) (w : World) : Chg S w w.drew := ⟨rfl, rfl, rfl, Nat.le_refl _, fun _ _ _ => rfl, fun _ c _ _ h => ⟨c, h, rfl, fun _ _ => rfl⟩, fun _ _ h => h⟩

/-- Cells of one block, set one by one. -/
theorem setCells_heap (g : Nat) : ∀ (vs : List Value) (o : Nat) (w : World) (cur : Array Value) (e : TypeId) (f : Nat × Nat), w.heap[g]? = some (.cells cur e f) →
    ∃ cur', (w.setCells g o vs).heap[g]? = some (.cells cur' e f) ∧ cur'.size = cur.size ∧ (∀ i, (i < o ∨ o + vs.length ≤ i) → cur'[i]? = cur[i]?)
  | [], o, w, cur, e, f, h => ⟨cur, h, rfl, fun _ _ => rfl⟩
  | v :: r, o, w, cur, e, f, h => by
    have h1 : (w.setCell ⟨g, o, none⟩ v).heap[g]? = some (.cells (cur.setIfInBounds o v) e f) := by
      simp [World.setCell, Array.getElem?_modify, h]
    obtain ⟨cur', k1, k2, k3⟩ := setCells_heap g r (o + 1) _ _ e f h1
    refine ⟨cur', k1, by rw [k2]; simp, fun i hi => ?_⟩
    simp only [List.length_cons] at hi
    rw [k3 i (by omega)]
    rw [Array.getElem?_setIfInBounds]
    rw [if_neg (by omega)]
theorem setCells_frame (g : Nat) : ∀ (vs : List Value) (o : Nat) (w : World), (w.setCells g o vs).os = w.os ∧ (w.setCells g o vs).tape = w.tape ∧ (w.setCells g o vs).output = w.output ∧ (w.setCells g o vs).heap.size = w.heap.size ∧ ∀ k, k ≠ g → (w.setCells g o vs).heap[k]? = w.heap[k]?
  | [], _, _ => ⟨rfl, rfl, rfl, rfl, fun _ _ => rfl⟩
  | v :: r, o, w => by
    obtain ⟨h1, h2, h3, h4, h5⟩ := setCells_frame g r (o + 1) (w.setCell ⟨g, o, none⟩ v)
    refine ⟨h1, h2, h3, by rw [World.setCells, h4]; simp, fun k hk => ?_⟩
    rw [World.setCells, h5 k hk]
    simp only [World.setCell, Array.getElem?_modify]
    rw [if_neg (Ne.symm hk)]
theorem chg_setCells {S : Fp} {g o : Nat} {vs : List Value} {cur : Array Value} {e : TypeId} {f : Nat × Nat} (h : w.heap[g]? = some (.cells cur e f)) (hS : ∀ i, o ≤ i → S g i) : Chg S w (w.setCells g o vs) := by
  obtain ⟨h1, h2, h3, h4, h5⟩ := setCells_frame g vs o w
  obtain ⟨cur', k1, k2, k3⟩ := setCells_heap g vs o w cur e f h
  refine ⟨h1, h2, h3, by omega, fun k hk hn => ?_, fun k c e' f' hc => ?_, fun k hk hn => ?_⟩
  · by_cases hkg : k = g
    · subst hkg
      exact (hn o (hS o (Nat.le_refl _))).elim
    · exact h5 k hkg
  · by_cases hkg : k = g
    · subst hkg
      rw [h] at hc
      cases hc
      refine ⟨cur', k1, k2, fun i hi => k3 i (.inl ?_)⟩
      rcases Nat.lt_or_ge i o with hlt | hge
      · exact hlt
      · exact (hi (hS i hge)).elim
    · exact ⟨c, by rw [h5 k hkg]; exact hc, rfl, fun _ _ => rfl⟩
  · by_cases hkg : k = g
    · subst hkg; exact (hn _ _ _ h).elim
    · intro c e f; rw [h5 k hkg]; exact hn c e f

/-- Cells that hold what they should are what they should stand for. -/
theorem repAt_of_list {F' : Fp} : ∀ (xs : List AV) (vs : List Value) (b o : Nat), RepL w F' true xs vs → (∀ j v, vs[j]? = some v → w.cell? ⟨b, o + j, none⟩ = some v) → (∀ j, j < xs.length → F' b (o + j)) → RepAt w F' xs b o
  | [], _, _, _, _, _, _ => by simp only [RepAt]
  | x :: xs, vs, b, o, h, hc, hF => by
    simp only [RepL] at h
    obtain ⟨v, vs', rfl, h1, h2, h3⟩ := h
    simp only [RepAt]
    refine ⟨⟨v, by simpa using hc 0 v (by simp), by simpa using h1, h2⟩, by simpa using hF 0 (by simp), ?_⟩
    refine repAt_of_list xs vs' b (o + 1) h3 (fun j u hj => ?_) (fun j hj => ?_)
    · rw [show o + 1 + j = o + (j + 1) by omega]; exact hc (j + 1) u (by simpa using hj)
    · rw [show o + 1 + j = o + (j + 1) by omega]; exact hF (j + 1) (by simp; omega)

/-- What may be appended: so many things, of these cells. -/
structure Src (P : Program) (w : World) (size m : Nat) (x : Value) (news : List Value) : Prop where
  len : (Builtin.lenOf x).run P w = .ok m w
  here : (Builtin.firstCells size m x).run P w = .ok news.toArray w
  later : (Builtin.firstCells size m x).run P w.drew = .ok news.toArray w.drew
  size : news.length = m * size

theorem run_app_grow (t u ty e : TypeId) (i : TypeInfo) (z : Value) (d : TypeDesc) (ht : P.underlying t = some (.slice e)) (hu : P.underlying u = some d) (hd : d = .string ∨ ∃ e', d = .slice e') (hi : P.info? e = some i) (hz : i.zero = some z)
    (base : Option Addr) (sLen sCap : Nat) (olds : List Value) (ho : (Builtin.firstCells i.size sLen (.slice base sLen sCap)).run P w.drew = .ok olds.toArray w.drew)
    (x : Value) (m : Nat) (news : List Value) (hx : Src P w i.size m x news) (hg : sCap < sLen + m) (h63 : sLen + m ≤ 9223372036854775807) (hfit : (sLen + m) * i.bytes ≤ 140737488355328) :
    (Builtin.append_ #[t, u] ty #[.slice base sLen sCap, x]).run P w =
      .ok (.slice (some ⟨w.heap.size, 0, none⟩) (sLen + m) (grownCap w (sLen + m) sCap e))
        (w.drew.alloc (.cells (olds.toArray ++ news.toArray ++ Builtin.zeroCells z.cells (grownCap w (sLen + m) sCap e - (sLen + m))) e)) := by
  have hn : ¬ (sLen + m ≤ sCap) := by omega
  have h63' : ¬ (9223372036854775807 < ((sLen : Int) + (m : Int))) := by omega
  have h48' : ¬ (281474976710656 < Builtin.nextslicecap (sLen + m) sCap * i.bytes) := by have := growslice_fits hg hfit; omega
  have hlen := hx.len
  have hlat := hx.later
  have ho' := ho
  rcases hd with rfl | ⟨e', rfl⟩ <;>
  · simp [Builtin.append_, run_underlying ht, run_underlying hu, sizeOf, typeInfo, zeroValue, hi, hz, hlen, hn, h63', h48', Question.forced, newRow, grownCap]
    rw [ho]
    simp only [Result.andThen_ok]
    rw [hlat]
    simp only [Result.andThen_ok]
    rw [← List.append_toArray, Array.append_assoc]
    rfl

theorem run_app_room (t u ty e : TypeId) (i : TypeInfo) (d : TypeDesc) (ht : P.underlying t = some (.slice e)) (hu : P.underlying u = some d) (hd : d = .string ∨ ∃ e', d = .slice e') (hi : P.info? e = some i)
    (g sLen sCap : Nat) (x : Value) (m : Nat) (news : List Value) (hx : Src P w i.size m x news) (hr : sLen + m ≤ sCap)
    (cur : Array Value) (e' : TypeId) (lo hi' : Nat) (hg : w.heap[g]? = some (.cells cur e' (lo, hi'))) (hs : cur.size = sCap * i.size) (hf : hi' ≤ lo ∨ sCap * i.size ≤ lo) (h1 : ∀ v ∈ news, v.oneCell' = true) :
    (Builtin.append_ #[t, u] ty #[.slice (some ⟨g, 0, none⟩) sLen sCap, x]).run P w = .ok (.slice (some ⟨g, 0, none⟩) (sLen + m) sCap) (w.setCells g (sLen * i.size) news) := by
  have hlen := hx.len
  have hh := hx.here
  have hsz := hx.size
  have hmul : (sLen + m) * i.size ≤ sCap * i.size := Nat.mul_le_mul_right _ hr
  rw [Nat.add_mul] at hmul
  have hst := run_storeCells_cells (P := P) g (sLen * i.size) news 0 w (fun j hj => by
      rw [cell_of_heap hg]
      have : sLen * i.size + j < cur.size := by rw [hs]; omega
      simp [this]) (fun j hj => by
      simp only [World.frozen?, hg]
      rcases hf with hf | hf
      · simp; omega
      · simp; omega) h1
  rw [Nat.add_zero] at hst
  rcases hd with rfl | ⟨e'', rfl⟩ <;>
  simp [Builtin.append_, run_underlying ht, run_underlying hu, sizeOf, typeInfo, hi, hlen, hr, hh, Addr.add_lit, hst]

theorem src_str (s : List UInt8) : Src P w 1 s.length (.string ⟨s.toArray⟩) (s.map fun b => Value.int .u8 b.toNat) := by
  have hx : ∀ w', (Builtin.firstCells 1 s.length (.string ⟨s.toArray⟩)).run P w' = .ok ((s.map fun b => Value.int .u8 b.toNat).toArray) w' := fun w' => by
    have := Lib.run_firstCells_string (P := P) (w := w') 1 ⟨s.toArray⟩
    rw [size_mk] at this
    rw [this]; rfl
  exact ⟨by simp [Builtin.lenOf, size_mk], hx w, hx w.drew, by simp⟩
theorem repL_bytes : ∀ (s : List UInt8), RepL w F true (bytesAV s) (s.map fun b => Value.int .u8 b.toNat)
  | [] => by simp only [bytesAV, List.map_nil, RepL]
  | b :: s => by
    simp only [bytesAV, List.map_cons, RepL]
    exact ⟨_, _, rfl, fun _ => rfl, by simp only [Rep], repL_bytes s⟩
theorem src_sl {xs : List AV} {m sz : Nat} {v : Value} (h : Rep w F (.sl xs m) v) (hl : xs.length = m * sz) : ∃ news, Src P w sz m v news ∧ RepL w F true xs news := by
  obtain ⟨ao, c, rfl, _, _, hc⟩ := rep_sl_inv h
  rcases hc with ⟨rfl, rfl⟩ | ⟨b, o, rfl, hat⟩
  · refine ⟨[], ⟨by simp [Builtin.lenOf], ?_, ?_, by simp⟩, by simp only [RepL]⟩ <;> cases ao <;> simp [Builtin.firstCells, loadCells, loadCellsFrom]
  · obtain ⟨vs, h1, h2, h3⟩ := repAt_list xs b o hat
    have hk : ∀ w' : World, w'.heap = w.heap → (Builtin.firstCells sz m (.slice (some ⟨b, o, none⟩) m c)).run P w' = .ok vs.toArray w' := fun w' hw => by
      refine run_firstCells_some (P := P) w' sz m ⟨b, o, none⟩ m c vs (by rw [h2, hl]) fun j v hj => ?_
      rw [Addr.add_lit]
      have := h3 j v hj
      unfold World.cell? at this ⊢
      rw [hw]; exact this
    exact ⟨vs, ⟨by simp [Builtin.lenOf], hk w rfl, hk w.drew rfl, by rw [h2, hl]⟩, h1⟩

/-- The first k of what may be copied. -/
theorem first_sl {xs : List AV} {m sz k : Nat} {v : Value} (h : Rep w F (.sl xs m) v) (hl : xs.length = m * sz) (hk : k ≤ m) : (Builtin.lenOf v).run P w = .ok m w ∧ ∃ news, (Builtin.firstCells sz k v).run P w = .ok news.toArray w ∧ RepL w F true (xs.take (k * sz)) news ∧ news.length = k * sz := by
  obtain ⟨ao, c, rfl, _, _, hc⟩ := rep_sl_inv h
  refine ⟨by simp [Builtin.lenOf], ?_⟩
  have hks : k * sz ≤ m * sz := Nat.mul_le_mul_right _ hk
  rcases hc with ⟨rfl, rfl⟩ | ⟨b, o, rfl, hat⟩
  · obtain rfl : k = 0 := by omega
    exact ⟨[], by cases ao <;> simp [Builtin.firstCells, loadCells, loadCellsFrom], by simp [RepL], by simp⟩
  · obtain ⟨vs, h1, h2, h3⟩ := repAt_list xs b o hat
    refine ⟨vs.take (k * sz), ?_, repL_take _ _ _ h1, by rw [List.length_take, h2]; omega⟩
    refine run_firstCells_some (P := P) w sz k ⟨b, o, none⟩ m c _ (by rw [List.length_take, h2]; omega) fun j v hj => ?_
    rw [Addr.add_lit]
    rw [List.getElem?_take] at hj
    split at hj
    · exact h3 j v hj
    · cases hj
theorem first_str (l : List UInt8) {k : Nat} (hk : k ≤ l.length) : (Builtin.lenOf (.string ⟨l.toArray⟩)).run P w = .ok l.length w ∧ ∃ news, (Builtin.firstCells 1 k (.string ⟨l.toArray⟩)).run P w = .ok news.toArray w ∧ RepL w F true ((bytesAV l).take k) news ∧ news.length = k := by
  refine ⟨by simp [Builtin.lenOf, size_mk], (l.take k).map fun b => Value.int .u8 b.toNat, ?_, ?_, by simp; omega⟩
  · have e : (ByteArray.mk l.toArray).extract 0 k = ⟨(l.take k).toArray⟩ := by
      rw [ByteArray.extract_mk, List.drop_zero, Nat.sub_zero]
    simp [Builtin.firstCells, e]
  · have := repL_bytes (w := w) (F := F) (l.take k)
    simpa [bytesAV] using this
end

def newUsed (F : Fp) (g k : Nat) : Fp := fun b o => F b o ∨ (b = g ∧ o < k)
def spare (g k : Nat) : Fp := fun b o => b = g ∧ k ≤ o

theorem agree_new {w w' : World} {S F : Fp} (hc : Chg S w w') (g k : Nat) (hF : ∀ b o, F b o → b < w.heap.size ∧ ¬ S b o) : Agree F (newUsed F g k) w w' :=
  fun b o h => ⟨.inl h, hc.cell (hF b o h).1 (hF b o h).2⟩

/-- A row in a new block. -/
theorem RR.freshRow {nt : Nat} {w0 : World} {S0 F0 F : Fp} {O : Nat → Fp} {β : Nat → Nat} {s : St} {a : Act} {w : World} (h : RR nt w0 S0 F0 F O β s a w) {d : Nat} (hd : d < nt)
    {w' : World} (hc : Chg NoFp w w') (hgw' : w.heap.size < w'.heap.size) (sz n c : Nat) (cur : Array Value) (e : TypeId) (lo hi : Nat) (hg : w'.heap[w.heap.size]? = some (.cells cur e (lo, hi))) (hnc : n ≤ c) (hcm : c ≤ maxLen) (hcs : cur.size = c * sz)
    (hf : hi ≤ lo ∨ c * sz ≤ lo) (xs : List AV) (vs : List Value) (hx : RepL w F true xs vs) (hl : xs.length = n * sz) (ht : ∀ (j : Nat) (v : Value), vs[j]? = some v → cur[j]? = some v) :
    RR nt w0 S0 F0 (newUsed F w.heap.size (n * sz)) (off1 O d (spare w.heap.size (n * sz))) β (s.set d (.row sz xs n) True true) (a.put (some d) (.slice (some ⟨w.heap.size, 0, none⟩) n c)) w' := by
  have hA : Agree F (newUsed F w.heap.size (n * sz)) w w' := agree_new hc _ _ fun b o hb => ⟨h.inF b o hb, id⟩
  have hm := h.move (S := NoFp) (F' := newUsed F w.heap.size (n * sz)) hc (fun _ _ _ hn => hn.elim) (fun _ _ hn => hn.elim) (fun _ => False) (fun _ _ _ _ _ hn => hn) (fun b o hb => .inl hb)
    (fun b o hb => hb.elim .inl fun hb => .inr (.inl (by omega))) (fun b o hb => hb.elim (fun hb => Nat.lt_of_lt_of_le (h.inF b o hb) hc.size) (fun hb => by omega))
    (fun t b o ho hb => hb.elim (h.sep t b o ho) (fun hb => by have := h.inO t b o ho; omega)) (fun _ hu => hu.elim)
  refine hm.putS hd _ _ True (spare w.heap.size (n * sz)) (fun _ => ?_) (fun _ _ => rfl) (fun hn => (hn trivial).elim) (fun b o ho hb => ?_) (fun t b o _ ho ht => ?_) (fun b o ho => by rw [ho.1]; exact hgw') (fun b o ho => by rw [ho.1]; exact .inl h.chg.size)
  · simp only [RepTop]
    refine .inr ⟨w.heap.size, c, cur, e, lo, hi, rfl, hg, hnc, hcm, hcs, hl, ?_, fun o ho => ⟨rfl, ho⟩, hf⟩
    refine repAt_of_list xs vs _ _ (RepL.agree hA _ _ _ hx) (fun j v hj => ?_) (fun j hj => .inr ⟨rfl, by omega⟩)
    rw [cell_of_heap hg]; simpa using ht j v hj
  · rcases hb with hb | hb
    · have := h.inF b o hb; have := ho.1; omega
    · have := ho.2; omega
  · have := h.inO t b o ht; have := ho.1; omega

/-- What is appended to a row, in whichever way. -/
theorem RR.append {P : Program} {nt : Nat} {w0 : World} {S0 F0 F : Fp} {O : Nat → Fp} {β : Nat → Nat} {s : St} {a : Act} {w : World} (h : RR nt w0 S0 F0 F O β s a w) {d : Nat} (hd : d < nt)
    (t u ty e : TypeId) (i : TypeInfo) (z : Value) (td : TypeDesc) (ht : P.underlying t = some (.slice e)) (hu : P.underlying u = some td) (htd : td = .string ∨ ∃ e', td = .slice e') (hi : P.info? e = some i) (hz : i.zero = some z) (hzs : z.cells.size = i.size) (hpos : 0 < i.size)
    (Ob : Fp) (β' : Nat → Nat) (tb : Nat) (xs : List AV) (n : Nat) (vb : Value) (hb : RepTop w F Ob β' tb (.row i.size xs n) vb) (hbF : ∀ b o, Ob b o → ¬ F b o) (hbO : ∀ t b o, Ob b o → ¬ O t b o) (hbI : ∀ b o, Ob b o → b < w.heap.size) (hbW : ∀ b o, Ob b o → w0.heap.size ≤ b ∨ S0 b o)
    (x : Value) (m : Nat) (ys : List AV) (news : List Value) (hx : Src P w i.size m x news) (hy : RepL w F true ys news) (hbytes : (n + m) * i.bytes ≤ 140737488355328) (h63 : n + m ≤ 4611686018427387904) :
    ∃ v w' F' Od, (Builtin.append_ #[t, u] ty #[vb, x]).run P w = .ok v w' ∧ RR nt w0 S0 F0 F' (off1 O d Od) β (s.set d (.row i.size (xs ++ ys) (n + m)) True true) (a.put (some d) v) w' := by
  have hnl := repL_length _ _ hy
  have hsz := hx.size
  have one := repL_one _ _ hy
  have grow : ∀ (base : Option Addr) (sCap : Nat) (olds : List Value), vb = .slice base n sCap → RepL w F true xs olds → olds.length = n * i.size → (Builtin.firstCells i.size n (.slice base n sCap)).run P w.drew = .ok olds.toArray w.drew → sCap < n + m →
      ∃ v w' F' Od, (Builtin.append_ #[t, u] ty #[vb, x]).run P w = .ok v w' ∧ RR nt w0 S0 F0 F' (off1 O d Od) β (s.set d (.row i.size (xs ++ ys) (n + m)) True true) (a.put (some d) v) w' := by
    intro base sCap olds hv ho hol hof hlt
    subst hv
    have hr := run_app_grow (P := P) t u ty e i z td ht hu htd hi hz base n sCap olds hof x m news hx hlt (by omega) hbytes
    have hge := grownCap_ge w (n + m) sCap e
    have hcm : grownCap w (n + m) sCap e ≤ maxLen := grownCap_le_maxLen w (n + m) sCap e (by unfold maxLen; omega)
    refine ⟨_, _, _, _, hr, h.freshRow hd (w' := w.drew.alloc _) ((chg_drew NoFp w).trans (chg_alloc NoFp w.drew _) (fun _ _ _ hn => hn)) (by simp) i.size (n + m) _ _ e 0 0 (heap_alloc_new w.drew _) hge hcm ?_ (.inl (Nat.le_refl _)) (xs ++ ys) (olds ++ news) (repL_append _ _ _ _ ho hy) ?_ ?_⟩
    · simp only [Array.size_append, List.size_toArray, size_zeroCells, hzs, hol, hsz, ← Nat.add_mul]
      congr 1; omega
    · rw [List.length_append, ← hnl, ← repL_length _ _ ho, hol, hsz, Nat.add_mul]
    · intro j v hj
      have hlt := (List.getElem?_eq_some_iff.1 hj).1
      rw [Array.getElem?_append_left (by simpa using hlt)]
      simpa using hj
  simp only [RepTop] at hb
  rcases hb with ⟨rfl, rfl, rfl⟩ | ⟨g, c, cur, e', lo, hi', rfl, h1, h2, h3, h4, h5, h6, h7, h8⟩
  · by_cases hm : m = 0
    · subst hm
      have hn : news = [] := List.eq_nil_of_length_eq_zero (by rw [hsz]; simp)
      have hys : ys = [] := List.eq_nil_of_length_eq_zero (by rw [← hnl, hn]; rfl)
      subst hn; subst hys
      have hlen := hx.len
      have hh := hx.here
      refine ⟨.slice none 0 0, w, F, NoFp, ?_, ?_⟩
      · rcases htd with rfl | ⟨e', rfl⟩ <;>
        simp [Builtin.append_, run_underlying ht, run_underlying hu, sizeOf, typeInfo, hi, hlen, hh]
      · refine h.put0 hd _ _ True (fun _ => ?_) (fun _ b hb => by simp [AV.isTo] at hb) (fun hn => (hn trivial).elim)
        simp [RepTop]
    · exact grow none 0 [] rfl (by simp only [RepL]) (by simp) (by simp [Builtin.firstCells]) (by omega)
  · obtain ⟨olds, k1, k2, k3⟩ := repAt_list xs g 0 h6
    by_cases hroom : n + m ≤ c
    · have hr := run_app_room (P := P) t u ty e i td ht hu htd hi g n c x m news hx hroom cur e' lo hi' h1 h4 h8 one
      have hS : ∀ k, n * i.size ≤ k → Ob g k := h7
      have hc : Chg (spare g (n * i.size)) w (w.setCells g (n * i.size) news) := chg_setCells h1 fun k hk => ⟨rfl, hk⟩
      have hsub : ∀ b o, spare g (n * i.size) b o → Ob b o := fun b o hs => by rw [hs.1]; exact hS o hs.2
      have hmul : (n + m) * i.size = n * i.size + news.length := by rw [Nat.add_mul, hsz]
      have hA : Agree F (newUsed F g ((n + m) * i.size)) w (w.setCells g (n * i.size) news) := agree_new hc _ _ fun b o hb => ⟨h.inF b o hb, fun hs => hbF b o (hsub b o hs) hb⟩
      have hgw : g < w.heap.size := lt_of_heap h1
      have usedF : ∀ o, o < n * i.size → F g o := by
        intro o ho
        have : ∀ (l : List AV) (b k : Nat), RepAt w F l b k → ∀ j, j < l.length → F b (k + j) := by
          intro l
          induction l with
          | nil => intro b k _ j hj; simp at hj
          | cons y l ih =>
            intro b k hl j hj
            simp only [RepAt] at hl
            cases j with
            | zero => simpa using hl.2.1
            | succ j => have := ih b (k + 1) hl.2.2 j (by simpa using hj); rwa [show k + (j + 1) = k + 1 + j by omega]
        simpa using this xs g 0 h6 o (by rw [h5]; exact ho)
      have hm := h.move (S := spare g (n * i.size)) (F' := newUsed F g ((n + m) * i.size)) hc (fun b o hlt hs => (hbW b o (hsub b o hs)).elim (fun hh => by omega) id) (fun b o hs => hbF b o (hsub b o hs)) (fun _ => False)
        (fun t b o _ ho hs => hbO t b o (hsub b o hs) ho) (fun b o hb => .inl hb)
        (fun b o hb => hb.elim .inl fun hb => by
          by_cases hlt : o < n * i.size
          · left; rw [hb.1]; exact usedF o hlt
          · right; right; rw [hb.1]; exact hbW g o (hS o (by omega)))
        (fun b o hb => by
          have e1 : (w.setCells g (n * i.size) news).heap.size = w.heap.size := (setCells_frame g news _ w).2.2.2.1
          rw [e1]
          exact hb.elim (fun hb => h.inF b o hb) (fun hb => by rw [hb.1]; exact hgw))
        (fun t b o ho hb => hb.elim (h.sep t b o ho) (fun hb => by
          by_cases hlt : o < n * i.size
          · exact h.sep t b o ho (by rw [hb.1]; exact usedF o hlt)
          · exact hbO t b o (by rw [hb.1]; exact hS o (by omega)) ho)) (fun _ hu => hu.elim)
      obtain ⟨cur', q1, q2, q3⟩ := setCells_heap g news (n * i.size) w cur e' (lo, hi') h1
      refine ⟨_, _, _, spare g ((n + m) * i.size), hr, hm.putS hd _ _ True (spare g ((n + m) * i.size)) (fun _ => ?_) (fun _ _ => rfl) (fun hn => (hn trivial).elim) (fun b o ho hb => ?_) (fun t b o _ ho ht' => ?_) (fun b o ho => ?_) (fun b o ho => ?_)⟩
      · simp only [RepTop]
        refine .inr ⟨g, c, cur', e', lo, hi', rfl, q1, hroom, h3, q2.trans h4, by rw [List.length_append, h5, ← hnl, hsz, Nat.add_mul], ?_, fun o ho => ⟨rfl, ho⟩, h8⟩
        rw [repAt_append]
        refine ⟨RepAt.agree hA _ _ _ h6, ?_⟩
        rw [h5, Nat.zero_add]
        have hmul' : (n + m) * i.size ≤ c * i.size := Nat.mul_le_mul_right _ hroom
        refine repAt_of_list ys news _ _ (RepL.agree hA _ _ _ hy) (fun j v hj => ?_) (fun j hj => .inr ⟨rfl, by rw [hmul, hnl]; omega⟩)
        have hjl := (List.getElem?_eq_some_iff.1 hj).1
        rw [World.cell?_setCells_in g news (n * i.size) w (fun j hj => by rw [cell_of_heap h1]; have : n * i.size + j < cur.size := by omega
                                                                          simp [this]) j hjl]
        rw [← hj, List.getElem?_eq_getElem hjl]
      · rcases hb with hb | hb
        · exact hbF b o (by rw [ho.1]; exact hS o (by have := ho.2; omega)) hb
        · have := ho.2; omega
      · exact hbO t b o (by rw [ho.1]; exact hS o (by have := ho.2; omega)) ht'
      · rw [ho.1, (setCells_frame g news _ w).2.2.2.1]; exact hgw
      · exact hbW b o (by rw [ho.1]; exact hS o (by have := ho.2; omega))
    · refine grow (some ⟨g, 0, none⟩) c olds rfl k1 (by rw [k2, h5]) ?_ (by omega)
      refine run_firstCells_some (P := P) w.drew i.size n ⟨g, 0, none⟩ n c olds (by rw [k2, h5]) fun j v hj => ?_
      rw [Addr.add_lit]
      exact k3 j v hj

end Go.Proofs.Ytbikpgaiocjnoaa.Pad
