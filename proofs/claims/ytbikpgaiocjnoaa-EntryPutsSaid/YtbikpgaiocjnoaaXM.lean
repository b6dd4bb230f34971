/- Values within values: the document's nodes, and those of the program. -/
import Derived.Test.YtbikpgaiocjnoaaE27
import Derived.Test.YtbikpgaiocjnoaaE26
set_option linter.unusedVariables false
set_option linter.unusedSimpArgs false
namespace Go.Proofs.Ytbikpgaiocjnoaa.Pad.En
abbrev Tx := List UInt8
/-- A node of the document. -/
inductive Nd where
  | mk (k : UInt8) (n : BitVec 64) (s : Tx) (kids : List Nd) (names : List Tx)
/-- A value of the program. -/
inductive Vl where
  | nil
  | bool (b : Bool)
  | num (n : BitVec 64)
  | str (s : Tx)
  | list (l : List Vl)
  | pairs (l : List (Tx × Vl))
  | int (n : UInt8)
/-- The numbers of the types. -/
structure Ids where
  (b u s l p i : Nat)
mutual
def Nd.av : Nd → List AV
  | .mk k n s kids names => [.int .u8 k.toNat, .int .u64 (bv n), .str s, .sl (avs kids) kids.length, .sl (names.map .str) names.length]
def avs : List Nd → List AV
  | [] => []
  | x :: xs => x.av ++ avs xs
end
mutual
def Vl.av (t : Ids) : Vl → AV
  | .nil => .nilI
  | .bool b => .ifc t.b (.bool b)
  | .num n => .ifc t.u (.int .u64 (bv n))
  | .str s => .ifc t.s (.str s)
  | .list l => .ifc t.l (.sl (vls t l) l.length)
  | .pairs l => .ifc t.p (.sl (prs t l) l.length)
  | .int n => .ifc t.i (.int .i64 n.toNat)
def vls (t : Ids) : List Vl → List AV
  | [] => []
  | x :: xs => x.av t :: vls t xs
def pr (t : Ids) : Tx × Vl → List AV
  | (s, v) => [.str s, v.av t]
def prs (t : Ids) : List (Tx × Vl) → List AV
  | [] => []
  | x :: xs => pr t x ++ prs t xs
end
theorem map_str_inj {a b : List Tx} (h : a.map AV.str = b.map AV.str) : a = b := (List.map_inj_right (by intro x y e; cases e; rfl)).1 h
@[simp] theorem av_len (x : Nd) : x.av.length = 5 := by cases x; simp [Nd.av]
@[simp] theorem avs_len : ∀ l : List Nd, (avs l).length = l.length * 5
  | [] => rfl
  | x :: l => by simp [avs, avs_len l]; omega
theorem avs_get : ∀ (l : List Nd) (i : Nat) (h : i < l.length), ((avs l).drop (i * 5)).take 5 = l[i].av
  | x :: l, 0, _ => by simp [avs]
  | x :: l, i + 1, h => by
    have := avs_get l i (by simpa using h)
    rw [avs, List.drop_append, List.drop_eq_nil_of_le (by rw [av_len]; omega), List.nil_append, av_len, show (i + 1) * 5 - 5 = i * 5 by omega, this]
    rfl
mutual
theorem av_inj : ∀ (x y : Nd), x.av = y.av → x = y
  | .mk k n s kids names, .mk k' n' s' kids' names', h => by
    simp only [Nd.av, List.cons.injEq, AV.int.injEq, AV.str.injEq, AV.sl.injEq, true_and, and_true, Int.natCast_inj, bv_inj, UInt8.toNat_inj] at h
    obtain ⟨h1, h2, h3, ⟨h4, _⟩, h5, _⟩ := h
    rw [h1, h2, h3, avs_inj _ _ h4, map_str_inj h5]
theorem avs_inj : ∀ (x y : List Nd), avs x = avs y → x = y
  | [], [], _ => rfl
  | [], y :: ys, h => by have := congrArg List.length h; simp [avs] at this; omega
  | x :: xs, [], h => by have := congrArg List.length h; simp [avs] at this
  | x :: xs, y :: ys, h => by
    have h' := List.append_inj h (by rw [av_len, av_len])
    rw [av_inj _ _ h'.1, avs_inj _ _ h'.2]
end
theorem vls_map (t : Ids) : ∀ l, vls t l = l.map (Vl.av t)
  | [] => rfl
  | x :: l => by rw [vls, vls_map t l]; rfl
@[simp] theorem vls_len (t : Ids) (l : List Vl) : (vls t l).length = l.length := by rw [vls_map, List.length_map]
theorem vls_get (t : Ids) (l : List Vl) (i : Nat) (h : i < l.length) : (vls t l)[i]'(by simpa using h) = l[i].av t := by simp [vls_map]
theorem vls_add (t : Ids) (l : List Vl) (x : Vl) : vls t l ++ [x.av t] = vls t (l ++ [x]) := by simp [vls_map]
@[simp] theorem prs_len (t : Ids) : ∀ l : List (Tx × Vl), (prs t l).length = l.length * 2
  | [] => rfl
  | (s, v) :: l => by simp [prs, pr, prs_len t l]; omega
theorem prs_get (t : Ids) : ∀ (l : List (Tx × Vl)) (i : Nat) (h : i < l.length), ((prs t l).drop (i * 2)).take 2 = [.str l[i].1, l[i].2.av t]
  | (s, v) :: l, 0, _ => by simp [prs, pr]
  | (s, v) :: l, i + 1, h => by
    have := prs_get t l i (by simpa using h)
    rw [prs, pr, show (i + 1) * 2 = i * 2 + 1 + 1 by omega]
    simpa using this
theorem prs_add (t : Ids) : ∀ (l : List (Tx × Vl)) (s : Tx) (x : Vl), prs t l ++ [.str s, x.av t] = prs t (l ++ [(s, x)])
  | [], s, x => rfl
  | y :: l, s, x => by rw [prs, List.append_assoc, prs_add t l s x]; rfl
/-- Numbers of types that are apart. -/
def Ids.apart (t : Ids) : Prop := [t.b, t.u, t.s, t.l, t.p, t.i].Nodup
mutual
theorem vav_inj (t : Ids) (ht : t.apart) : ∀ (x y : Vl), x.av t = y.av t → x = y
  | .nil, y, h => by cases y <;> simp [Vl.av] at h ⊢
  | .bool b, y, h => by
    simp [Ids.apart] at ht
    cases y <;> simp [Vl.av] at h ⊢ <;> first | exact h | omega
  | .num n, y, h => by
    simp [Ids.apart] at ht
    cases y <;> simp [Vl.av] at h ⊢ <;> first | exact h | omega
  | .str s, y, h => by
    simp [Ids.apart] at ht
    cases y <;> simp [Vl.av] at h ⊢ <;> first | exact h | omega
  | .list l, y, h => by
    have hl := vls_inj t ht l
    simp [Ids.apart] at ht
    cases y <;> simp [Vl.av] at h ⊢ <;> first | exact hl _ h.1 | omega
  | .pairs l, y, h => by
    have hl := prs_inj t ht l
    simp [Ids.apart] at ht
    cases y <;> simp [Vl.av] at h ⊢ <;> first | exact hl _ h.1 | omega
  | .int n, y, h => by
    simp [Ids.apart] at ht
    cases y <;> simp [Vl.av] at h ⊢ <;> first | exact UInt8.toNat_inj.1 h | omega
theorem vls_inj (t : Ids) (ht : t.apart) : ∀ (x y : List Vl), vls t x = vls t y → x = y
  | [], [], _ => rfl
  | [], y :: ys, h => by simp [vls] at h
  | x :: xs, [], h => by simp [vls] at h
  | x :: xs, y :: ys, h => by
    simp only [vls, List.cons.injEq] at h
    rw [vav_inj t ht x y h.1, vls_inj t ht xs ys h.2]
theorem pr_inj (t : Ids) (ht : t.apart) : ∀ (x y : Tx × Vl), pr t x = pr t y → x = y
  | (s, v), (s', v'), h => by
    simp only [pr, List.cons.injEq, AV.str.injEq, and_true] at h
    rw [h.1, vav_inj t ht v v' h.2]
theorem prs_inj (t : Ids) (ht : t.apart) : ∀ (x y : List (Tx × Vl)), prs t x = prs t y → x = y
  | [], [], _ => rfl
  | [], (s, v) :: ys, h => by simp [prs, pr] at h
  | (s, v) :: xs, [], h => by simp [prs, pr] at h
  | x :: xs, y :: ys, h => by
    have h' := List.append_inj (show pr t x ++ prs t xs = pr t y ++ prs t ys by simpa only [prs] using h) (by obtain ⟨a, b⟩ := x; obtain ⟨c, d⟩ := y; rfl)
    rw [pr_inj t ht _ _ h'.1, prs_inj t ht _ _ h'.2]
end
def Nd.kind : Nd → UInt8 | .mk k _ _ _ _ => k
def Nd.kids : Nd → List Nd | .mk _ _ _ l _ => l
def Nd.names : Nd → List Tx | .mk _ _ _ _ l => l
/-- The name of an item. -/
def nm (names : List Tx) (i : Nat) : Tx := names.getD i []
mutual
/-- Whether a node may be, so deep within others. -/
def chk (deep : Nat) : Nd → Nat
  | .mk k _ s kids names => if 5 < k.toNat then 22 else if k.toNat = 3 ∧ 65535 < s.length then 5 else if k.toNat < 4 then 0 else if 4 ≤ deep then 24 else if 64 < kids.length then 5 else chkL (deep + 1) (decide (k.toNat = 5)) names 0 kids
def chkL (deep : Nat) (p : Bool) (names : List Tx) (i : Nat) : List Nd → Nat
  | [] => 0
  | x :: xs => if p = true ∧ 65535 < (nm names i).length then 5 else if p = true ∧ 0 < i ∧ Op.bytesLess (nm names (i - 1)) (nm names i) = false then 4 else if chk deep x ≠ 0 then chk deep x else chkL deep p names (i + 1) xs
end
mutual
theorem chk_le (deep : Nat) : ∀ x : Nd, chk deep x ≤ 24
  | .mk k _ s kids names => by
    rw [chk]
    have := chkL_le (deep + 1) (decide (k.toNat = 5)) names 0 kids
    repeat' split
    all_goals omega
theorem chkL_le (deep : Nat) (p : Bool) (names : List Tx) (i : Nat) : ∀ l : List Nd, chkL deep p names i l ≤ 24
  | [] => by simp [chkL]
  | x :: xs => by
    rw [chkL]
    have h1 := chk_le deep x
    have h2 := chkL_le deep p names (i + 1) xs
    repeat' split
    all_goals omega
end
theorem drop_eq {α : Type} (l : List α) (i : Nat) (h : i < l.length) : l.drop i = l[i] :: l.drop (i + 1) := (List.drop_eq_getElem_cons h)
noncomputable def Nd.sz (x : Nd) : Nat := SizeOf.sizeOf x
theorem size_kid {k : UInt8} {n : BitVec 64} {s : Tx} {kids : List Nd} {names : List Tx} {i : Nat} (h : i < kids.length) : Nd.sz kids[i] < Nd.sz (.mk k n s kids names) := by
  have := List.sizeOf_lt_of_mem (List.getElem_mem h)
  unfold Nd.sz
  simp only [Nd.mk.sizeOf_spec]; omega
/-- The place of a name. -/
def fnd (names : List Tx) (s : Tx) (i : Nat) : Nat → Int
  | 0 => -1
  | m + 1 => if nm names i = s then i else fnd names s (i + 1) m
def find : Nd → Tx → Int
  | .mk k _ _ kids names, s => if k.toNat = 5 then fnd names s 0 kids.length else -1
/-- How many nodes there are; a thousand, where it is too much to be looked at. -/
def longs (l : List Tx) : Bool := l.any fun s => decide (200 < s.length)
mutual
def ovr (deep : Nat) (left : Int) : Nd → Int
  | .mk _ _ s kids names => if 7 < deep ∨ left < 1 ∨ 200 < s.length ∨ 70 < kids.length ∨ 70 < names.length ∨ longs names = true then 1000 else ovrL (deep + 1) left 1 kids
def ovrL (deep : Nat) (left used : Int) : List Nd → Int
  | [] => used
  | x :: xs => if left < used + ovr deep (left - used) x then 1000 else ovrL deep left (used + ovr deep (left - used) x) xs
end
mutual
theorem ovr_le (deep : Nat) (left : Int) (h : left ≤ 1000) : ∀ x : Nd, 1 ≤ ovr deep left x ∧ ovr deep left x ≤ 1000
  | .mk _ _ s kids names => by
    rw [ovr]
    split
    · omega
    · rename_i hn
      exact ovrL_le (deep + 1) left 1 h (by omega) (by omega) kids
theorem ovrL_le (deep : Nat) (left used : Int) (h : left ≤ 1000) (h1 : 1 ≤ used) (h2 : used ≤ left) : ∀ l : List Nd, 1 ≤ ovrL deep left used l ∧ ovrL deep left used l ≤ 1000
  | [] => by rw [ovrL]; omega
  | x :: xs => by
    have := ovr_le deep (left - used) (by omega) x
    rw [ovrL]
    split
    · omega
    · exact ovrL_le deep left _ h (by omega) (by omega) xs
end
/-! ### Nodes and values -/
def nd9 : Nd := .mk 9 0 [] [] []
mutual
/-- The node of a value. -/
def back (d : Nat) : Vl → Nd
  | .nil => if 8 < d then nd9 else .mk 0 0 [] [] []
  | .bool b => if 8 < d then nd9 else .mk 1 (if b then 1 else 0) [] [] []
  | .num n => if 8 < d then nd9 else .mk 2 n [] [] []
  | .str s => if 8 < d then nd9 else .mk 3 0 s [] []
  | .list l => if 8 < d then nd9 else .mk 4 0 [] (backs (d + 1) l) []
  | .pairs l => if 8 < d then nd9 else .mk 5 0 [] (backP (d + 1) l) (l.map Prod.fst)
  | .int _ => nd9
def backs (d : Nat) : List Vl → List Nd
  | [] => []
  | x :: xs => back d x :: backs d xs
def backQ (d : Nat) : Tx × Vl → Nd
  | (_, v) => back d v
def backP (d : Nat) : List (Tx × Vl) → List Nd
  | [] => []
  | x :: xs => backQ d x :: backP d xs
end
theorem backs_map (d : Nat) : ∀ l, backs d l = l.map (back d)
  | [] => rfl
  | x :: l => by rw [backs, backs_map d l]; rfl
theorem backP_map (d : Nat) : ∀ l, backP d l = l.map fun p => back d p.2
  | [] => rfl
  | (s, v) :: l => by rw [backP, backP_map d l]; rfl
theorem avs_add : ∀ (l : List Nd) (x : Nd), avs l ++ x.av = avs (l ++ [x])
  | [], x => by simp [avs]
  | y :: l, x => by rw [avs, List.append_assoc, avs_add l x]; rfl
mutual
/-- Lists of no more than a million. -/
def Vl.fine : Vl → Prop
  | .list l => l.length ≤ 1000000 ∧ fines l
  | .pairs l => l.length ≤ 1000000 ∧ fineP l
  | _ => True
def fines : List Vl → Prop
  | [] => True
  | x :: xs => x.fine ∧ fines xs
def fineQ : Tx × Vl → Prop
  | (_, v) => v.fine
def fineP : List (Tx × Vl) → Prop
  | [] => True
  | x :: xs => fineQ x ∧ fineP xs
end
theorem fines_get : ∀ (l : List Vl), fines l → ∀ i (h : i < l.length), l[i].fine
  | x :: l, hf, 0, _ => by rw [fines] at hf; exact hf.1
  | x :: l, hf, i + 1, h => by rw [fines] at hf; exact fines_get l hf.2 i (by simpa using h)
theorem fineP_get : ∀ (l : List (Tx × Vl)), fineP l → ∀ i (h : i < l.length), l[i].2.fine
  | (s, v) :: l, hf, 0, _ => by rw [fineP, fineQ] at hf; exact hf.1
  | (s, v) :: l, hf, i + 1, h => by rw [fineP] at hf; exact fineP_get l hf.2 i (by simpa using h)
noncomputable def Vl.sz (x : Vl) : Nat := SizeOf.sizeOf x
theorem size_item {l : List Vl} {i : Nat} (h : i < l.length) : Vl.sz l[i] < Vl.sz (.list l) := by
  have := List.sizeOf_lt_of_mem (List.getElem_mem h)
  unfold Vl.sz
  simp only [Vl.list.sizeOf_spec]; omega
theorem size_pair {l : List (Tx × Vl)} {i : Nat} (h : i < l.length) : Vl.sz l[i].2 < Vl.sz (.pairs l) := by
  have := List.sizeOf_lt_of_mem (List.getElem_mem h)
  have h2 : SizeOf.sizeOf l[i].2 < SizeOf.sizeOf l[i] := by
    obtain ⟨a, b⟩ := l[i]
    simp only [Prod.mk.sizeOf_spec]; omega
  unfold Vl.sz
  simp only [Vl.pairs.sizeOf_spec]; omega
mutual
/-- The value of a node. -/
def own : Nd → Vl
  | .mk k n s kids names => if k.toNat = 0 then .nil else if k.toNat = 1 then .bool (decide (bv n = 1)) else if k.toNat = 2 then .num n else if k.toNat = 3 then .str s else if k.toNat = 4 then .list (owns kids) else if k.toNat = 5 then .pairs (ownP names 0 kids) else .int k
def owns : List Nd → List Vl
  | [] => []
  | x :: xs => own x :: owns xs
def ownP (names : List Tx) (i : Nat) : List Nd → List (Tx × Vl)
  | [] => []
  | x :: xs => (nm names i, own x) :: ownP names (i + 1) xs
end
theorem owns_map : ∀ l, owns l = l.map own
  | [] => rfl
  | x :: l => by rw [owns, owns_map l]; rfl
@[simp] theorem ownP_len (names : List Tx) : ∀ (l : List Nd) (i : Nat), (ownP names i l).length = l.length
  | [], _ => rfl
  | x :: l, i => by rw [ownP, List.length_cons, ownP_len names l]; rfl
theorem ownP_add (names : List Tx) (x : Nd) : ∀ (l : List Nd) (i : Nat), ownP names i (l ++ [x]) = ownP names i l ++ [(nm names (i + l.length), own x)]
  | [], i => rfl
  | y :: l, i => by
    rw [List.cons_append, ownP, ownP, ownP_add names x l (i + 1), List.cons_append, List.length_cons, show i + 1 + l.length = i + (l.length + 1) by omega]
mutual
def Nd.fine : Nd → Prop
  | .mk _ _ _ kids names => kids.length ≤ 1000000 ∧ names.length ≤ 1000000 ∧ ndFine kids
def ndFine : List Nd → Prop
  | [] => True
  | x :: xs => x.fine ∧ ndFine xs
end
theorem ndFine_get : ∀ (l : List Nd), ndFine l → ∀ i (h : i < l.length), l[i].fine
  | x :: l, hf, 0, _ => by rw [ndFine] at hf; exact hf.1
  | x :: l, hf, i + 1, h => by rw [ndFine] at hf; exact ndFine_get l hf.2 i (by simpa using h)
mutual
/-- Are two nodes the same, as far as their kinds count? -/
def same : Nd → Nd → Bool
  | .mk k n s ka na, .mk k' n' s' kb nb => if k.toNat ≠ k'.toNat then false else if k.toNat = 1 then decide (bv n = 1) == decide (bv n' = 1) else if k.toNat = 2 then decide (bv n = bv n') else if k.toNat = 3 then decide (s = s') else if k.toNat < 4 then true
    else if ka.length ≠ kb.length then false else sameL (decide (k.toNat = 5)) na nb 0 ka kb
def sameL (p : Bool) (na nb : List Tx) (i : Nat) : List Nd → List Nd → Bool
  | [], _ => true
  | _ :: _, [] => false
  | x :: xs, y :: ys => if p = true ∧ nm na i ≠ nm nb i then false else if same x y = false then false else sameL p na nb (i + 1) xs ys
end
/-! ### What comes in -/
section
variable {P : Program} {t k u s l m : TypeId} {fs : Array Field}
theorem nodes_of {n : Nat} (ih : ∀ xs, TyC P n t xs → ∃ y : Nd, xs = y.av) : ∀ es : List (List AV), (∀ y ∈ es, TyC P n t y) → ∃ ys : List Nd, es.flatten = avs ys ∧ es.length = ys.length
  | [], _ => ⟨[], rfl, rfl⟩
  | y :: es, h => by
    obtain ⟨a, ha⟩ := ih y (h y (List.mem_cons_self ..))
    obtain ⟨ys, h1, h2⟩ := nodes_of ih es fun z hz => h z (List.mem_cons_of_mem _ hz)
    exact ⟨a :: ys, by rw [List.flatten_cons, ha, h1, avs], by simp [h2]⟩
theorem texts_of {n : Nat} (hs : P.underlying s = some .string) : ∀ es : List (List AV), (∀ y ∈ es, TyC P n s y) → ∃ ys : List Tx, es.flatten = ys.map .str ∧ es.length = ys.length
  | [], _ => ⟨[], rfl, rfl⟩
  | y :: es, h => by
    obtain ⟨a, ha, _⟩ := tyc_str hs (h y (List.mem_cons_self ..))
    obtain ⟨ys, h1, h2⟩ := texts_of hs es fun z hz => h z (List.mem_cons_of_mem _ hz)
    exact ⟨a :: ys, by rw [List.flatten_cons, ha, h1]; rfl, by simp [h2]⟩
/-- A value of the document's type of nodes is a node. -/
theorem nd_of (hu : P.underlying t = some (.struct fs)) (hk : P.underlying k = some (.int .u8)) (hn : P.underlying u = some (.int .u64)) (hs : P.underlying s = some .string) (hl : P.underlying l = some (.slice t)) (hm : P.underlying m = some (.slice s))
    (hc : P.cellsOf t = 5) (hck : P.cellsOf k = 1) (hcu : P.cellsOf u = 1) (hcs : P.cellsOf s = 1) (hcl : P.cellsOf l = 1) (hcm : P.cellsOf m = 1)
    (hf : (fs.toList.map fun f => (f.type, f.offset)) = [(k, 0), (u, 1), (s, 2), (l, 3), (m, 4)]) : ∀ (n : Nat) (xs : List AV), TyC P n t xs → ∃ y : Nd, xs = y.av := by
  intro n
  induction n using Nat.strongRecOn with
  | _ n ih =>
    intro xs h
    cases n with
    | zero => exact h.elim
    | succ n =>
      unfold TyC at h; rw [hu] at h
      obtain ⟨hlen, hx⟩ := h
      rw [hc] at hlen
      have fld : ∀ (ty : TypeId) (off : Nat) (x : AV), (ty, off) ∈ [(k, 0), (u, 1), (s, 2), (l, 3), (m, 4)] → P.cellsOf ty = 1 → xs[off]? = some x → TyC P n ty [x] := fun ty off x hin h1 hg => by
        rw [← hf] at hin
        obtain ⟨f, hf1, hf2⟩ := List.mem_map.1 hin
        simp only [Prod.mk.injEq] at hf2
        obtain ⟨rfl, rfl⟩ := hf2
        exact fld_cell (hx f hf1) h1 hg
      obtain ⟨x0, x1, x2, x3, x4, rfl⟩ : ∃ a b c d e, xs = [a, b, c, d, e] := by
        match xs, hlen with
        | [a, b, c, d, e], _ => exact ⟨a, b, c, d, e, rfl⟩
      obtain ⟨q0, e0, hq0⟩ := tyc_int hk (fld k 0 x0 (by simp) hck rfl)
      obtain ⟨q1, e1, hq1⟩ := tyc_int hn (fld u 1 x1 (by simp) hcu rfl)
      obtain ⟨q2, e2, _⟩ := tyc_str hs (fld s 2 x2 (by simp) hcs rfl)
      have h3 := fld l 3 x3 (by simp) hcl rfl
      have h4 := fld m 4 x4 (by simp) hcm rfl
      cases n with
      | zero => exact h3.elim
      | succ n =>
        unfold TyC at h3 h4
        rw [hl] at h3
        rw [hm] at h4
        obtain ⟨es, e3, _, hes⟩ := h3
        obtain ⟨gs, e4, _, hgs⟩ := h4
        obtain ⟨ys, y1, y2⟩ := nodes_of (ih n (by omega)) es fun y hy => (hes y hy).2
        obtain ⟨zs, z1, z2⟩ := texts_of hs gs fun y hy => (hgs y hy).2
        obtain ⟨b, rfl⟩ := byte_of8 hq0
        obtain ⟨r, rfl⟩ := bv_of64 hq1
        obtain rfl := one_cell e0
        obtain rfl := one_cell e1
        obtain rfl := one_cell e2
        obtain rfl := one_cell e3
        obtain rfl := one_cell e4
        exact ⟨.mk b r q2 ys zs, by simp only [Nd.av]; rw [y1, y2, z1, z2]⟩
theorem ty_node {x : AV} (hu : P.underlying t = some (.struct fs)) (hk : P.underlying k = some (.int .u8)) (hn : P.underlying u = some (.int .u64)) (hs : P.underlying s = some .string) (hl : P.underlying l = some (.slice t)) (hm : P.underlying m = some (.slice s))
    (hc : P.cellsOf t = 5) (hck : P.cellsOf k = 1) (hcu : P.cellsOf u = 1) (hcs : P.cellsOf s = 1) (hcl : P.cellsOf l = 1) (hcm : P.cellsOf m = 1)
    (hf : (fs.toList.map fun f => (f.type, f.offset)) = [(k, 0), (u, 1), (s, 2), (l, 3), (m, 4)]) (h : ArgTy P t x) : ∃ y : Nd, x = .agg y.av := by
  unfold ArgTy at h; rw [hu] at h
  obtain ⟨xs, n, rfl, h⟩ := h
  obtain ⟨y, rfl⟩ := nd_of hu hk hn hs hl hm hc hck hcu hcs hcl hcm hf n xs h
  exact ⟨y, rfl⟩
end
end Go.Proofs.Ytbikpgaiocjnoaa.Pad.En
