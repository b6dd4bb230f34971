/- Abstract values, what they stand for in a world, and what a step may change. -/
import Derived.WalkKit
set_option linter.unusedVariables false
set_option linter.unusedSimpArgs false
namespace Go.Proofs.Ytbikpgaiocjnoaa.Pad

inductive AV where
  | int (k : IntKind) (n : Int)
  | bool (b : Bool)
  | str (l : List UInt8)
  | sl (xs : List AV) (n : Nat)
  | row (sz : Nat) (xs : List AV) (n : Nat)
  | agg (xs : List AV)
  | tup (xs : List AV)
  | ptr (xs : List AV)
  | box (xs : List AV)
  | ref (b off : Nat)
  | mrow (sz : Nat) (xs : List AV) (n : Nat)
  | al (b : Nat)
  | iter (l : List UInt8) (pos : Nat)
  | fn (f : Nat) (xs ys : List AV)
  | clo (f : Nat) (xs : List AV)
  | win (b off n : Nat)
  | obox (xs : List AV)
  | otup (xs : List AV)
  | nilS (sz : Nat)
  | ifc (t : Nat) (x : AV)
  | nilI
  | nilP
  | nilF
  | anyB
  | bad
  deriving Inhabited

abbrev Fp := Nat → Nat → Prop

def AV.one : AV → Bool
  | .int .. | .bool _ | .str _ | .sl .. | .ptr _ | .fn .. | .ifc .. | .nilI | .nilP | .nilF | .nilS _ => true
  | _ => false

mutual
def Rep (w : World) (F : Fp) : AV → Value → Prop
  | .int k n, v => v = .int k n
  | .bool b, v => v = .bool b
  | .str l, v => v = .string ⟨l.toArray⟩
  | .sl xs n, v => ∃ ao c, v = .slice ao n c ∧ n ≤ c ∧ c ≤ maxLen ∧
      ((xs = [] ∧ n = 0) ∨ ∃ b o, ao = some ⟨b, o, none⟩ ∧ RepAt w F xs b o)
  | .agg xs, v => ∃ cs, v = .agg cs ∧ RepL w F true xs cs.toList
  | .tup xs, v => ∃ cs, v = .tuple cs ∧ RepL w F false xs cs.toList
  | .ptr xs, v => ∃ b o, v = .pointer (some ⟨b, o, none⟩) ∧ RepAt w F xs b o
  | .fn f xs ys, v => ∃ cs ds, v = .func (.func f) cs ds ∧ RepL w F false xs cs.toList ∧ RepL w F false ys ds.toList
  | .ifc t x, v => ∃ u, v = .iface t u ∧ Rep w F x u
  | .nilI, v => v = .nilIface
  | .nilP, v => v = .pointer none
  | .nilF, v => v = .nilFunc
  | .anyB, v => ∃ b, v = .bool b
  | .nilS _, v => v = .slice none 0 0
  | .obox _, _ => False
  | .otup _, _ => False
  | .row .., _ => False
  | .clo .., _ => False
  | .box _, _ => False
  | .ref .., _ => False
  | .mrow .., _ => False
  | .al _, _ => False
  | .win .., _ => False
  | .iter .., _ => False
  | .bad, _ => False
def RepL (w : World) (F : Fp) (one : Bool) : List AV → List Value → Prop
  | [], vs => vs = []
  | x :: xs, vs => ∃ v vs', vs = v :: vs' ∧ (one = true → x.one = true) ∧ Rep w F x v ∧ RepL w F one xs vs'
def RepAt (w : World) (F : Fp) : List AV → Nat → Nat → Prop
  | [], _, _ => True
  | x :: xs, b, o => (∃ v, w.cell? ⟨b, o, none⟩ = some v ∧ x.one = true ∧ Rep w F x v) ∧ F b o ∧ RepAt w F xs b (o + 1)
end

def Agree (F F' : Fp) (w w' : World) : Prop := ∀ b o, F b o → F' b o ∧ w'.cell? ⟨b, o, none⟩ = w.cell? ⟨b, o, none⟩

mutual
theorem Rep.agree {w w' : World} {F F' : Fp} (h : Agree F F' w w') : ∀ (x : AV) (v : Value), Rep w F x v → Rep w' F' x v
  | .int k n, v, hr => by simpa only [Rep] using hr
  | .bool b, v, hr => by simpa only [Rep] using hr
  | .str l, v, hr => by simpa only [Rep] using hr
  | .sl xs n, v, hr => by
    simp only [Rep] at hr ⊢
    obtain ⟨ao, c, h1, h2, h3, h4⟩ := hr
    refine ⟨ao, c, h1, h2, h3, ?_⟩
    rcases h4 with h4 | ⟨b, o, h5, h6⟩
    · exact .inl h4
    · exact .inr ⟨b, o, h5, RepAt.agree h xs b o h6⟩
  | .agg xs, v, hr => by
    simp only [Rep] at hr ⊢
    obtain ⟨cs, h1, h2⟩ := hr
    exact ⟨cs, h1, RepL.agree h _ xs _ h2⟩
  | .tup xs, v, hr => by
    simp only [Rep] at hr ⊢
    obtain ⟨cs, h1, h2⟩ := hr
    exact ⟨cs, h1, RepL.agree h _ xs _ h2⟩
  | .ptr xs, v, hr => by
    simp only [Rep] at hr ⊢
    obtain ⟨b, o, h1, h2⟩ := hr
    exact ⟨b, o, h1, RepAt.agree h xs b o h2⟩
  | .fn f xs ys, v, hr => by
    simp only [Rep] at hr ⊢
    obtain ⟨cs, ds, h1, h2, h3⟩ := hr
    exact ⟨cs, ds, h1, RepL.agree h _ xs _ h2, RepL.agree h _ ys _ h3⟩
  | .ifc t x, v, hr => by
    simp only [Rep] at hr ⊢
    obtain ⟨u, h1, h2⟩ := hr
    exact ⟨u, h1, Rep.agree h x u h2⟩
  | .nilI, v, hr => by simpa only [Rep] using hr
  | .nilP, v, hr => by simpa only [Rep] using hr
  | .nilF, v, hr => by simpa only [Rep] using hr
  | .anyB, v, hr => by simpa only [Rep] using hr
  | .nilS _, v, hr => by simpa only [Rep] using hr
  | .obox _, v, hr => by simp only [Rep] at hr
  | .otup _, v, hr => by simp only [Rep] at hr
  | .row .., v, hr => by simp only [Rep] at hr
  | .clo .., v, hr => by simp only [Rep] at hr
  | .box _, v, hr => by simp only [Rep] at hr
  | .ref .., v, hr => by simp only [Rep] at hr
  | .mrow .., v, hr => by simp only [Rep] at hr
  | .al _, v, hr => by simp only [Rep] at hr
  | .win .., v, hr => by simp only [Rep] at hr
  | .iter .., v, hr => by simp only [Rep] at hr
  | .bad, v, hr => by simp only [Rep] at hr
theorem RepL.agree {w w' : World} {F F' : Fp} (h : Agree F F' w w') (one : Bool) : ∀ (xs : List AV) (vs : List Value), RepL w F one xs vs → RepL w' F' one xs vs
  | [], vs, hr => by simpa only [RepL] using hr
  | x :: xs, vs, hr => by
    simp only [RepL] at hr ⊢
    obtain ⟨v, vs', h1, h2, h3, h4⟩ := hr
    exact ⟨v, vs', h1, h2, Rep.agree h x v h3, RepL.agree h one xs vs' h4⟩
theorem RepAt.agree {w w' : World} {F F' : Fp} (h : Agree F F' w w') : ∀ (xs : List AV) (b o : Nat), RepAt w F xs b o → RepAt w' F' xs b o
  | [], b, o, hr => by simp only [RepAt]
  | x :: xs, b, o, hr => by
    simp only [RepAt] at hr ⊢
    obtain ⟨⟨v, h1, h2, h3⟩, h4, h5⟩ := hr
    exact ⟨⟨v, by rw [(h b o h4).2]; exact h1, h2, Rep.agree h x v h3⟩, (h b o h4).1, RepAt.agree h xs b (o + 1) h5⟩
end

/-- A row of one's own that lies in a cell. -/
def RowRep (w : World) (F O : Fp) (sz : Nat) (xs : List AV) (n : Nat) (v : Value) : Prop := (v = .slice none 0 0 ∧ xs = [] ∧ n = 0) ∨
  ∃ g c cur e lo hi, v = .slice (some ⟨g, 0, none⟩) n c ∧ w.heap[g]? = some (.cells cur e (lo, hi)) ∧ n ≤ c ∧ c ≤ maxLen ∧ cur.size = c * sz ∧ xs.length = n * sz ∧
    RepAt w F xs g 0 ∧ (∀ o, n * sz ≤ o → O g o) ∧ (hi ≤ lo ∨ c * sz ≤ lo)
mutual
/-- What is owned whole: a thing that may lie in a cell of a box. 'O' has all that it may be written in. -/
def Own (w : World) (F : Fp) : AV → Fp → Value → Prop
  | .row sz xs n, O, v => RowRep w F O sz xs n v
  | .mrow sz xs n, O, v => (v = .slice none 0 0 ∧ xs = [] ∧ n = 0) ∨ ∃ b c cur e lo hi, v = .slice (some ⟨b, 0, none⟩) n c ∧ w.heap[b]? = some (.cells cur e (lo, hi)) ∧
      n ≤ c ∧ c ≤ maxLen ∧ cur.size = c * sz ∧ xs.length = n * sz ∧ RepL w F true xs (cur.toList.take (n * sz)) ∧ (∀ o, O b o) ∧ (hi ≤ lo ∨ c * sz ≤ lo)
  | .obox xs, O, v => ∃ b c e, v = .pointer (some ⟨b, 0, none⟩) ∧ w.heap[b]? = some (.cells c e (0, 0)) ∧ (∀ o, O b o) ∧ OwnL w F xs b O c.toList
  | .bad, _, _ => True
  | .int k n, _, v => Rep w F (.int k n) v
  | .bool b, _, v => Rep w F (.bool b) v
  | .str l, _, v => Rep w F (.str l) v
  | .sl xs n, _, v => Rep w F (.sl xs n) v
  | .ptr xs, _, v => Rep w F (.ptr xs) v
  | .fn f xs ys, _, v => Rep w F (.fn f xs ys) v
  | .ifc t x, _, v => Rep w F (.ifc t x) v
  | .nilI, _, v => Rep w F .nilI v
  | .nilP, _, v => Rep w F .nilP v
  | .nilF, _, v => Rep w F .nilF v
  | .nilS sz, _, v => Rep w F (.nilS sz) v
  | .anyB, _, _ => False
  | .agg _, _, _ => False
  | .tup _, _, _ => False
  | .box _, _, _ => False
  | .otup _, _, _ => False
  | .ref .., _, _ => False
  | .al _, _, _ => False
  | .win .., _, _ => False
  | .iter .., _, _ => False
  | .clo .., _, _ => False
/-- The cells of block bk, each with a part of its own. -/
def OwnL (w : World) (F : Fp) : List AV → Nat → Fp → List Value → Prop
  | [], _, _, us => us = []
  | x :: xs, bk, O, us => ∃ u us' Q R, us = u :: us' ∧ (∀ b o, Q b o → O b o ∧ b ≠ bk) ∧ (∀ b o, R b o → O b o) ∧ (∀ b o, Q b o → ¬ R b o) ∧ Own w F x Q u ∧ OwnL w F xs bk R us'
end
/-- A cell of a box that may have things of its own: one that was moved out is not looked at. -/
abbrev CellO (w : World) (F Q : Fp) (x : AV) (v : Value) : Prop := Own w F x Q v
/-- What is put into a box that may have rows: a nil slice is a row there, or, from 1000 on, one that is written in place. -/
def AV.toO : AV → AV
  | .nilS sz => if sz < 1000 then .row sz [] 0 else .mrow (sz - 1000) [] 0
  | x => x
/-- The cells of such a box, and who owns what the rows have. -/
def CellsO (w : World) (F O : Fp) (bk : Nat) (xs : List AV) (c : Array Value) : Prop := xs.length = c.size ∧ ∃ Q : Nat → Fp, (∀ i b o, Q i b o → O b o ∧ b ≠ bk) ∧ (∀ i j b o, i ≠ j → Q i b o → ¬ Q j b o) ∧
  ∀ i x u, xs[i]? = some x → c[i]? = some u → CellO w F (Q i) x u

/-- Where a thing is owned, what it stands for: rows that may be appended to, and boxes. 'β': the boxes' blocks. -/
def RepTop (w : World) (F O : Fp) (β : Nat → Nat) (t : Nat) : AV → Value → Prop
  | .row sz xs n, v => (v = .slice none 0 0 ∧ xs = [] ∧ n = 0) ∨
      ∃ g c cur e lo hi, v = .slice (some ⟨g, 0, none⟩) n c ∧ w.heap[g]? = some (.cells cur e (lo, hi)) ∧ n ≤ c ∧ c ≤ maxLen ∧ cur.size = c * sz ∧ xs.length = n * sz ∧
        RepAt w F xs g 0 ∧ (∀ o, n * sz ≤ o → O g o) ∧ (hi ≤ lo ∨ c * sz ≤ lo)
  | .box xs, v => v = .pointer (some ⟨β t, 0, none⟩) ∧ ∃ c e, w.heap[β t]? = some (.cells c e (0, 0)) ∧ RepL w F true xs c.toList ∧ ∀ o, O (β t) o
  | .clo f xs, v => v = .func (.func f) #[] #[.pointer (some ⟨β t, 0, none⟩)] ∧ ∃ c e, w.heap[β t]? = some (.cells c e (0, 0)) ∧ RepL w F true xs c.toList ∧ ∀ o, O (β t) o
  | .mrow sz xs n, v => (v = .slice none 0 0 ∧ xs = [] ∧ n = 0) ∨ ∃ c cur e lo hi, v = .slice (some ⟨β t, 0, none⟩) n c ∧ w.heap[β t]? = some (.cells cur e (lo, hi)) ∧ n ≤ c ∧ c ≤ maxLen ∧ cur.size = c * sz ∧ xs.length = n * sz ∧
        RepL w F true xs (cur.toList.take (n * sz)) ∧ (∀ o, O (β t) o) ∧ (hi ≤ lo ∨ c * sz ≤ lo)
  | .iter l pos, v => v = .pointer (some ⟨β t, 0, none⟩) ∧ w.heap[β t]? = some (.stringIter ⟨l.toArray⟩ pos) ∧ ∀ o, O (β t) o
  | .obox xs, v => v = .pointer (some ⟨β t, 0, none⟩) ∧ ∃ c e, w.heap[β t]? = some (.cells c e (0, 0)) ∧ CellsO w F O (β t) xs c ∧ ∀ o, O (β t) o
  | .otup xs, v => ∃ cs : Array Value, v = .tuple cs ∧ xs.length = cs.size ∧ ∃ Q : Nat → Fp, (∀ i b o, Q i b o → O b o) ∧ (∀ i j b o, i ≠ j → Q i b o → ¬ Q j b o) ∧
      ∀ i x u, xs[i]? = some x → cs[i]? = some u → Own w F x (Q i) u ∨ Rep w F x u
  | .ref _ _, _ => True
  | .al _, _ => True
  | .win .., _ => True
  | .int k n, v => Rep w F (.int k n) v
  | .bool b, v => Rep w F (.bool b) v
  | .str l, v => Rep w F (.str l) v
  | .sl xs n, v => Rep w F (.sl xs n) v
  | .agg xs, v => Rep w F (.agg xs) v
  | .tup xs, v => Rep w F (.tup xs) v
  | .ptr xs, v => Rep w F (.ptr xs) v
  | .fn f xs ys, v => Rep w F (.fn f xs ys) v
  | .ifc t x, v => Rep w F (.ifc t x) v
  | .nilI, v => Rep w F .nilI v
  | .nilP, v => Rep w F .nilP v
  | .nilF, v => Rep w F .nilF v
  | .anyB, v => Rep w F .anyB v
  | .nilS sz, v => Rep w F (.nilS sz) v
  | .bad, _ => False

/-- What one reads of a thing that another one may own: a copy of the value, which is not owned. -/
def AV.share : AV → AV
  | .row _ xs n => .sl xs n
  | .box _ | .clo .. | .ref .. | .mrow .. | .al _ | .win .. | .iter .. | .obox _ | .otup _ => .bad
  | x => x

/-- The blocks of a are as they were in b, but for cells in S. -/
structure Chg (S : Fp) (w w' : World) : Prop where
  os : w'.os = w.os
  tape : w'.tape = w.tape
  output : w'.output = w.output
  size : w.heap.size ≤ w'.heap.size
  same : ∀ k, k < w.heap.size → (∀ o, ¬ S k o) → w'.heap[k]? = w.heap[k]?
  cells : ∀ k c e f, w.heap[k]? = some (.cells c e f) → ∃ c', w'.heap[k]? = some (.cells c' e f) ∧ c'.size = c.size ∧ ∀ o, ¬ S k o → c'[o]? = c[o]?
  other : ∀ k, k < w.heap.size → (∀ c e f, w.heap[k]? ≠ some (.cells c e f)) → ∀ c e f, w'.heap[k]? ≠ some (.cells c e f)

theorem Chg.refl (S : Fp) (w : World) : Chg S w w := ⟨rfl, rfl, rfl, Nat.le_refl _, fun _ _ _ => rfl, fun _ c _ _ h => ⟨c, h, rfl, fun _ _ => rfl⟩, fun _ _ h => h⟩

theorem lt_of_heap {w : World} {k : Nat} {o : Obj} (h : w.heap[k]? = some o) : k < w.heap.size := (Array.getElem?_eq_some_iff.1 h).1

theorem Chg.trans {S S' : Fp} {a b c : World} (h : Chg S a b) (k : Chg S' b c) (hs : ∀ k o, k < a.heap.size → S' k o → S k o) : Chg S a c := by
  refine ⟨k.os.trans h.os, k.tape.trans h.tape, k.output.trans h.output, Nat.le_trans h.size k.size, fun i hi hn => ?_, fun i x e f hx => ?_, fun i hi hn => k.other i (Nat.lt_of_lt_of_le hi h.size) (h.other i hi hn)⟩
  · rw [k.same i (Nat.lt_of_lt_of_le hi h.size) (fun o ho => hn o (hs i o hi ho)), h.same i hi hn]
  · obtain ⟨x1, h1, h2, h3⟩ := h.cells i x e f hx
    obtain ⟨x2, k1, k2, k3⟩ := k.cells i x1 e f h1
    exact ⟨x2, k1, k2.trans h2, fun o ho => (k3 o (fun hh => ho (hs i o (lt_of_heap hx) hh))).trans (h3 o ho)⟩

theorem cell_heap {w : World} {b o : Nat} {v : Value} (h : w.cell? ⟨b, o, none⟩ = some v) : ∃ c e f, w.heap[b]? = some (.cells c e f) ∧ c[o]? = some v := by
  unfold World.cell? at h
  split at h
  · rename_i c e f hb
    exact ⟨c, e, f, hb, by simpa using h⟩
  · cases h

theorem cell_of_heap {w : World} {b o : Nat} {c : Array Value} {e : TypeId} {f : Nat × Nat} (h : w.heap[b]? = some (.cells c e f)) : w.cell? ⟨b, o, none⟩ = c[o]? := by
  simp [World.cell?, h]

/-- A cell that may not have been changed reads as it did. -/
theorem Chg.cell {S : Fp} {w w' : World} (h : Chg S w w') {b o : Nat} (hb : b < w.heap.size) (hn : ¬ S b o) : w'.cell? ⟨b, o, none⟩ = w.cell? ⟨b, o, none⟩ := by
  by_cases hc : ∃ c e f, w.heap[b]? = some (.cells c e f)
  · obtain ⟨c, e, f, hc⟩ := hc
    obtain ⟨c', h1, h2, h3⟩ := h.cells b c e f hc
    rw [cell_of_heap hc, cell_of_heap h1, h3 o hn]
  · have e1 : ∀ (u : World), (∀ c e f, u.heap[b]? ≠ some (.cells c e f)) → u.cell? ⟨b, o, none⟩ = none := fun u hu => by
      unfold World.cell?
      split
      · rename_i c e f hh; exact (hu c e f hh).elim
      · rfl
    have hc' : ∀ c e f, w.heap[b]? ≠ some (.cells c e f) := fun c e f hf => hc ⟨c, e, f, hf⟩
    rw [e1 w hc', e1 w' (h.other b hb hc')]

/-- What the variables of the program hold that are only read: block, and what its cells stand for. -/
class Globs (P : Program) where
  G : List (Nat × List AV)
def GlobOk (P : Program) [Globs P] (w : World) (F : Fp) : Prop := ∀ p ∈ Globs.G P, RepAt w F p.2 p.1 0
theorem GlobOk.agree {P : Program} [Globs P] {w w' : World} {F F' : Fp} (h : GlobOk P w F) (hA : Agree F F' w w') : GlobOk P w' F' := fun p hp => RepAt.agree hA _ _ _ (h p hp)
mutual
def eqA : AV → AV → Bool
  | .int k n, .int k' n' => k == k' && n == n'
  | .bool b, .bool b' => b == b'
  | .str l, .str l' => l == l'
  | .sl xs n, .sl ys m => eqAs xs ys && n == m
  | _, _ => false
def eqAs : List AV → List AV → Bool
  | [], [] => true
  | x :: xs, y :: ys => eqA x y && eqAs xs ys
  | _, _ => false
end
mutual
theorem eqA_eq : ∀ (x y : AV), eqA x y = true → x = y
  | .int k n, y, h => by cases y <;> simp [eqA] at h; rw [h.1, h.2]
  | .bool b, y, h => by cases y <;> simp [eqA] at h; rw [h]
  | .str l, y, h => by cases y <;> simp [eqA] at h; rw [h]
  | .sl xs n, y, h => by
    cases y <;> simp [eqA] at h
    rw [eqAs_eq _ _ h.1, h.2]
  | .row .., y, h => by simp [eqA] at h
  | .agg _, y, h => by simp [eqA] at h
  | .tup _, y, h => by simp [eqA] at h
  | .ptr _, y, h => by simp [eqA] at h
  | .box _, y, h => by simp [eqA] at h
  | .clo .., y, h => by simp [eqA] at h
  | .ref .., y, h => by simp [eqA] at h
  | .mrow .., y, h => by simp [eqA] at h
  | .al _, y, h => by simp [eqA] at h
  | .win .., y, h => by simp [eqA] at h
  | .iter .., y, h => by simp [eqA] at h
  | .fn .., y, h => by simp [eqA] at h
  | .ifc .., y, h => by simp [eqA] at h
  | .nilI, y, h => by simp [eqA] at h
  | .nilP, y, h => by simp [eqA] at h
  | .nilF, y, h => by simp [eqA] at h
  | .anyB, y, h => by simp [eqA] at h
  | .nilS _, y, h => by simp [eqA] at h
  | .obox _, y, h => by simp [eqA] at h
  | .otup _, y, h => by simp [eqA] at h
  | .bad, y, h => by simp [eqA] at h
theorem eqAs_eq : ∀ (xs ys : List AV), eqAs xs ys = true → xs = ys
  | [], ys, h => by cases ys <;> simp [eqAs] at h; rfl
  | x :: xs, ys, h => by
    cases ys <;> simp [eqAs] at h
    rw [eqA_eq _ _ h.1, eqAs_eq _ _ h.2]
end
def globIs (P : Program) [Globs P] (g : Nat) (xs : List AV) : Bool := (Globs.G P).any fun p => p.1 == g && eqAs p.2 xs
theorem globIs_rep {P : Program} [Globs P] {g : Nat} {xs : List AV} {w : World} {F : Fp} (h : globIs P g xs = true) (hG : GlobOk P w F) : RepAt w F xs g 0 := by
  simp only [globIs, List.any_eq_true, Bool.and_eq_true, beq_iff_eq] at h
  obtain ⟨p, hp, rfl, h⟩ := h
  rw [← eqAs_eq _ _ h]
  exact hG p hp

end Go.Proofs.Ytbikpgaiocjnoaa.Pad
