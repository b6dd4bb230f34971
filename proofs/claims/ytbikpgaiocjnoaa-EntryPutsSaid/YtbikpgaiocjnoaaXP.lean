/- What a program's ways of looking at values come to: bytes laid one behind the other, values compared, and taken of bytes. No program is in here. -/
import Derived.Test.YtbikpgaiocjnoaaXS
set_option linter.unusedVariables false
set_option linter.unusedSimpArgs false
namespace Go.Proofs.Ytbikpgaiocjnoaa.Pad.En
/-- Whether a name may stand where it does. -/
def nameE (names : List Tx) (i : Nat) : Nat := if 65535 < (nm names i).length then 5 else if 0 < i ∧ Op.bytesLess (nm names (i - 1)) (nm names i) = false then 4 else 0
theorem chkL_step (d : Nat) (names : List Tx) (i : Nat) (x : Nd) (xs : List Nd) : chkL d true names i (x :: xs) = if nameE names i ≠ 0 then nameE names i else if chk d x ≠ 0 then chk d x else chkL d true names (i + 1) xs := by
  rw [chkL]
  unfold nameE
  simp only [true_and]
  by_cases h1 : 65535 < (nm names i).length
  · simp [h1]
  · by_cases h2 : 0 < i ∧ Op.bytesLess (nm names (i - 1)) (nm names i) = false
    · simp [h1, h2]
    · simp only [if_neg h1, if_neg h2]; simp
theorem chkL_stepN (d : Nat) (names : List Tx) (i : Nat) (x : Nd) (xs : List Nd) : chkL d false names i (x :: xs) = if chk d x ≠ 0 then chk d x else chkL d false names (i + 1) xs := by
  rw [chkL]
  simp
theorem less_tot : ∀ a b : Tx, (Op.bytesLess a b || decide (a = b)) = !Op.bytesLess b a
  | [], [] => by simp [Op.bytesLess]
  | [], _ :: _ => by simp [Op.bytesLess]
  | _ :: _, [] => by simp [Op.bytesLess]
  | x :: a, y :: b => by
    have ih := less_tot a b
    rw [Op.bytesLess, Op.bytesLess]
    by_cases h : x = y
    · subst h
      simp only [UInt8.lt_irrefl, decide_false, Bool.false_or, beq_self_eq_true, Bool.true_and, List.cons.injEq, true_and]
      simpa using ih
    · have h' : ¬ y = x := fun e => h e.symm
      have : (x < y) ↔ ¬ (y < x) := by
        have h1 : ¬ x.toNat = y.toNat := fun e => h (UInt8.toNat_inj.1 e)
        rw [UInt8.lt_iff_toNat_lt, UInt8.lt_iff_toNat_lt]; omega
      by_cases hl : x < y <;> simp_all
theorem nodes_len : ∀ l : List Vl, (nodes l).length = l.length
  | [] => rfl
  | x :: l => by rw [nodes, List.length_cons, List.length_cons, nodes_len l]
theorem nodeP_len : ∀ l : List (Tx × Vl), (nodeP l).length = l.length
  | [] => rfl
  | x :: l => by rw [nodeP, List.length_cons, List.length_cons, nodeP_len l]
theorem nodes_drop : ∀ (l : List Vl) (i : Nat) (h : i < l.length), (nodes l).drop i = nodeOf l[i] :: (nodes l).drop (i + 1)
  | x :: l, 0, _ => by simp [nodes]
  | x :: l, i + 1, h => by
    have := nodes_drop l i (by simpa using h)
    simpa [nodes] using this
theorem nodeP_drop : ∀ (l : List (Tx × Vl)) (i : Nat) (h : i < l.length), (nodeP l).drop i = nodeOf l[i].2 :: (nodeP l).drop (i + 1)
  | (s, x) :: l, 0, _ => by simp [nodeP, nodeQ]
  | x :: l, i + 1, h => by
    have := nodeP_drop l i (by simpa using h)
    simpa [nodeP] using this
theorem nm_fst (l : List (Tx × Vl)) (i : Nat) (h : i < l.length) : nm (l.map Prod.fst) i = l[i].1 := by
  simp [nm, List.getD, List.getElem?_map, List.getElem?_eq_getElem h]
/-! ### The same -/
mutual
def eqV : Vl → Vl → Bool
  | .nil, w => match w with | .nil => true | _ => false
  | .int _, w => match w with | .nil => true | _ => false
  | .bool a, w => match w with | .bool b => decide (a = b) | _ => false
  | .num a, w => match w with | .num b => decide (a = b) | _ => false
  | .str a, w => match w with | .str b => decide (a = b) | _ => false
  | .list a, w => match w with | .list b => eqVs a b | _ => false
  | .pairs a, w => match w with | .pairs b => eqPs a b | _ => false
def eqVs : List Vl → List Vl → Bool
  | [], l => l.isEmpty
  | x :: xs, l => match l with | [] => false | y :: ys => eqV x y && eqVs xs ys
def eqQ : Tx × Vl → Tx × Vl → Bool
  | (s, v), y => decide (s = y.1) && eqV v y.2
def eqPs : List (Tx × Vl) → List (Tx × Vl) → Bool
  | [], l => l.isEmpty
  | x :: xs, l => match l with | [] => false | y :: ys => eqQ x y && eqPs xs ys
end
theorem eqVs_len : ∀ a b : List Vl, a.length ≠ b.length → eqVs a b = false
  | [], [], h => (h rfl).elim
  | [], _ :: _, _ => by simp [eqVs]
  | _ :: _, [], _ => by simp [eqVs]
  | x :: xs, y :: ys, h => by simp [eqVs, eqVs_len xs ys (by simpa using h)]
theorem eqPs_len : ∀ a b : List (Tx × Vl), a.length ≠ b.length → eqPs a b = false
  | [], [], h => (h rfl).elim
  | [], _ :: _, _ => by simp [eqPs]
  | _ :: _, [], _ => by simp [eqPs]
  | x :: xs, y :: ys, h => by simp [eqPs, eqPs_len xs ys (by simpa using h)]
theorem eqVs_at (a b : List Vl) (i : Nat) (h : i < a.length) (h' : i < b.length) : eqVs (a.drop i) (b.drop i) = (eqV a[i] b[i] && eqVs (a.drop (i + 1)) (b.drop (i + 1))) := by
  rw [drop_eq a i h, drop_eq b i h']; simp only [eqVs]
theorem eqPs_at (a b : List (Tx × Vl)) (i : Nat) (h : i < a.length) (h' : i < b.length) : eqPs (a.drop i) (b.drop i) = (eqQ a[i] b[i] && eqPs (a.drop (i + 1)) (b.drop (i + 1))) := by
  rw [drop_eq a i h, drop_eq b i h']; simp only [eqPs]
mutual
theorem eqV_iff : ∀ (v w : Vl) (d : Nat), chk d (nodeOf v) = 0 → (eqV v w = true ↔ v = w)
  | .nil, w, d, _ => by cases w <;> simp [eqV]
  | .int n, w, d, h => by simp [nodeOf, nd9, chk] at h
  | .bool a, w, d, _ => by cases w <;> simp [eqV]
  | .num a, w, d, _ => by cases w <;> simp [eqV]
  | .str a, w, d, _ => by cases w <;> simp [eqV]
  | .list a, w, d, h => by
    obtain ⟨_, _, h3⟩ := chk_kind (show chk d (.mk 4 0 [] (nodes a) []) = 0 by simpa only [nodeOf] using h)
    have := (h3 (by decide)).2.2
    cases w <;> simp [eqV]
    exact eqVs_iff a _ (d + 1) _ _ this
  | .pairs a, w, d, h => by
    obtain ⟨_, _, h3⟩ := chk_kind (show chk d (.mk 5 0 [] (nodeP a) (a.map Prod.fst)) = 0 by simpa only [nodeOf] using h)
    have := (h3 (by decide)).2.2
    cases w <;> simp [eqV]
    exact eqPs_iff a _ (d + 1) _ _ _ this
theorem eqVs_iff : ∀ (a b : List Vl) (d : Nat) (names : List Tx) (i : Nat), chkL d (decide ((4 : UInt8).toNat = 5)) names i (nodes a) = 0 → (eqVs a b = true ↔ a = b)
  | [], b, d, names, i, _ => by cases b <;> simp [eqVs]
  | x :: xs, [], d, names, i, _ => by simp [eqVs]
  | x :: xs, y :: ys, d, names, i, h => by
    rw [nodes] at h
    obtain ⟨_, _, h3, h4⟩ := (chkL_cons ..).1 h
    simp only [eqVs, Bool.and_eq_true, List.cons.injEq]
    rw [eqV_iff x y d h3, eqVs_iff xs ys d names (i + 1) h4]
theorem eqQ_iff : ∀ (x y : Tx × Vl) (d : Nat), chk d (nodeQ x) = 0 → (eqQ x y = true ↔ x = y)
  | (s, v), (s', w), d, h => by
    rw [nodeQ] at h
    simp only [eqQ, Bool.and_eq_true, decide_eq_true_eq, Prod.mk.injEq]
    rw [eqV_iff v w d h]
theorem eqPs_iff : ∀ (a b : List (Tx × Vl)) (d : Nat) (p : Bool) (names : List Tx) (i : Nat), chkL d p names i (nodeP a) = 0 → (eqPs a b = true ↔ a = b)
  | [], b, d, p, names, i, _ => by cases b <;> simp [eqPs]
  | x :: xs, [], d, p, names, i, _ => by simp [eqPs]
  | x :: xs, y :: ys, d, p, names, i, h => by
    rw [nodeP] at h
    obtain ⟨_, _, h3, h4⟩ := (chkL_cons ..).1 h
    simp only [eqPs, Bool.and_eq_true, List.cons.injEq]
    rw [eqQ_iff x y d h3, eqPs_iff xs ys d p names (i + 1) h4]
end
mutual
theorem own_node : ∀ (v : Vl) (d : Nat), chk d (nodeOf v) = 0 → own (nodeOf v) = v
  | .nil, d, _ => by simp [nodeOf, own]
  | .int n, d, h => by simp [nodeOf, nd9, chk] at h
  | .bool a, d, _ => by cases a <;> simp [nodeOf, own, bv]
  | .num a, d, _ => by simp [nodeOf, own]
  | .str a, d, _ => by simp [nodeOf, own]
  | .list a, d, h => by
    obtain ⟨_, _, h3⟩ := chk_kind (show chk d (.mk 4 0 [] (nodes a) []) = 0 by simpa only [nodeOf] using h)
    have := own_nodes a (d + 1) _ _ _ (h3 (by decide)).2.2
    simp [nodeOf, own, this]
  | .pairs a, d, h => by
    obtain ⟨_, _, h3⟩ := chk_kind (show chk d (.mk 5 0 [] (nodeP a) (a.map Prod.fst)) = 0 by simpa only [nodeOf] using h)
    have := own_nodeP a (d + 1) _ _ 0 (a.map Prod.fst) 0 (h3 (by decide)).2.2 (fun j hj => by rw [Nat.zero_add]; exact nm_fst a j hj)
    simp [nodeOf, own, this]
theorem own_nodes : ∀ (a : List Vl) (d : Nat) (p : Bool) (names : List Tx) (i : Nat), chkL d p names i (nodes a) = 0 → owns (nodes a) = a
  | [], _, _, _, _, _ => rfl
  | x :: xs, d, p, names, i, h => by
    rw [nodes] at h
    obtain ⟨_, _, h3, h4⟩ := (chkL_cons ..).1 h
    rw [nodes, owns, own_node x d h3, own_nodes xs d p names (i + 1) h4]
theorem own_nodeQ : ∀ (x : Tx × Vl) (d : Nat), chk d (nodeQ x) = 0 → own (nodeQ x) = x.2
  | (s, v), d, h => by rw [nodeQ] at h ⊢; exact own_node v d h
theorem own_nodeP : ∀ (a : List (Tx × Vl)) (d : Nat) (p : Bool) (names : List Tx) (i : Nat) (ns : List Tx) (j : Nat), chkL d p names i (nodeP a) = 0 → (∀ k (h : k < a.length), nm ns (j + k) = a[k].1) → ownP ns j (nodeP a) = a
  | [], _, _, _, _, _, _, _, _ => rfl
  | x :: xs, d, p, names, i, ns, j, h, hn => by
    rw [nodeP] at h
    obtain ⟨_, _, h3, h4⟩ := (chkL_cons ..).1 h
    have h0 := hn 0 (by simp)
    rw [Nat.add_zero] at h0
    rw [nodeP, ownP, own_nodeQ x d h3, h0, own_nodeP xs d p names (i + 1) ns (j + 1) h4 (fun k hk => by
      have := hn (k + 1) (by simpa using hk)
      rw [show j + 1 + k = j + (k + 1) by omega]; simpa using this)]
    rfl
end
/-- Values that may be are the same just if their bytes are. -/
theorem sameV_eq {v w : Vl} (hv : chk 0 (nodeOf v) = 0) (hw : chk 0 (nodeOf w) = 0) : eqV v w = decide (encN (nodeOf v) = encN (nodeOf w)) := by
  have h1 := eqV_iff v w 0 hv
  have h2 : v = w ↔ encN (nodeOf v) = encN (nodeOf w) := by
    constructor
    · rintro rfl; rfl
    · intro e
      have a1 := (tk_enc hv).2
      have a2 := (tk_enc hw).2
      rw [e, a2] at a1
      have b1 : nz (nodeOf v) = nodeOf v := by unfold nz; rw [own_node v 0 hv]
      have b2 : nz (nodeOf w) = nodeOf w := by unfold nz; rw [own_node w 0 hw]
      rw [b1, b2] at a1
      rw [← own_node v 0 hv, ← own_node w 0 hw, a1]
  by_cases h : v = w
  · rw [h1.2 h]; simp [h2.1 h]
  · have e1 : eqV v w = false := by
      cases he : eqV v w
      · rfl
      · exact (h (h1.1 he)).elim
    rw [e1]
    exact (decide_eq_false fun e => h (h2.2 e)).symm
/-! ### Taken of bytes -/
def countP (f : Nat) (t : Tx) (a b : Int) : Nat × Int × Int :=
  if f = 0 then (0, (takeNum t a b 1).2.1, 24) else if 64 < (takeNum t a b 1).1 then (0, (takeNum t a b 1).2.1, 5) else takeNum t a b 1
def itemsP (rec : Tx → Int → Int → Vl × Int × Int) (t : Tx) : Nat → List Vl → Int → Int → List Vl × Int × Int
  | 0, l, a, b => (l, a, b)
  | m + 1, l, a, b => if b ≠ 0 then (l ++ List.replicate (m + 1) .nil, a, b) else itemsP rec t m (l ++ [(rec t a b).1]) (rec t a b).2.1 (rec t a b).2.2
/-- A name, and the Scan behind it. -/
def nameP (l : List (Tx × Vl)) (t : Tx) (a b : Int) : Tx × Int × Int :=
  if (takeRow t a b).2.2 ≠ 0 then ([], (takeRow t a b).2.1, (takeRow t a b).2.2) else ((takeRow t a b).1, (takeRow t a b).2.1, if 0 < l.length ∧ Op.bytesLess (nm (l.map Prod.fst) (l.length - 1)) (takeRow t a b).1 = false then 4 else 0)
def itemsQ (rec : Tx → Int → Int → Vl × Int × Int) (t : Tx) : Nat → List (Tx × Vl) → Int → Int → List (Tx × Vl) × Int × Int
  | 0, l, a, b => (l, a, b)
  | m + 1, l, a, b => if b ≠ 0 then (l ++ List.replicate (m + 1) ([], .nil), a, b) else
    itemsQ rec t m (l ++ [((nameP l t a b).1, (rec t (nameP l t a b).2.1 (nameP l t a b).2.2).1)]) (rec t (nameP l t a b).2.1 (nameP l t a b).2.2).2.1 (rec t (nameP l t a b).2.1 (nameP l t a b).2.2).2.2
def listP (f : Nat) (rec : Tx → Int → Int → Vl × Int × Int) (t : Tx) (a b : Int) : List Vl × Int × Int := itemsP rec t (countP f t a b).1 [] (countP f t a b).2.1 (countP f t a b).2.2
def pairsP (f : Nat) (rec : Tx → Int → Int → Vl × Int × Int) (t : Tx) (a b : Int) : List (Tx × Vl) × Int × Int := itemsQ rec t (countP f t a b).1 [] (countP f t a b).2.1 (countP f t a b).2.2
def oneQ (f : Nat) (rec : Tx → Int → Int → Vl × Int × Int) (t : Tx) (a b : Int) : Vl × Int × Int :=
  if (takeNum t a b 1).2.2 ≠ 0 then (.nil, (takeNum t a b 1).2)
  else if (takeNum t a b 1).1 = 0 then (.nil, (takeNum t a b 1).2)
  else if (takeNum t a b 1).1 = 1 then (.bool false, (takeNum t a b 1).2)
  else if (takeNum t a b 1).1 = 2 then (.bool true, (takeNum t a b 1).2)
  else if (takeNum t a b 1).1 = 3 then (.num (BitVec.ofNat 64 (takeNum t (takeNum t a b 1).2.1 (takeNum t a b 1).2.2 8).1), (takeNum t (takeNum t a b 1).2.1 (takeNum t a b 1).2.2 8).2)
  else if (takeNum t a b 1).1 = 4 then (.str (takeRow t (takeNum t a b 1).2.1 (takeNum t a b 1).2.2).1, (takeRow t (takeNum t a b 1).2.1 (takeNum t a b 1).2.2).2)
  else if (takeNum t a b 1).1 = 5 then (.list (listP f rec t (takeNum t a b 1).2.1 (takeNum t a b 1).2.2).1, (listP f rec t (takeNum t a b 1).2.1 (takeNum t a b 1).2.2).2)
  else if (takeNum t a b 1).1 = 6 then (.pairs (pairsP f rec t (takeNum t a b 1).2.1 (takeNum t a b 1).2.2).1, (pairsP f rec t (takeNum t a b 1).2.1 (takeNum t a b 1).2.2).2)
  else (.nil, (takeNum t a b 1).2.1, 22)
def recP (one : Nat → Tx → Int → Int → Vl × Int × Int) : Nat → Tx → Int → Int → Vl × Int × Int
  | 0 => fun _ a b => (.nil, a, b)
  | f + 1 => one f
def oneP : Nat → Tx → Int → Int → Vl × Int × Int
  | 0 => oneQ 0 fun _ a b => (.nil, a, b)
  | f + 1 => oneQ (f + 1) (oneP f)
theorem oneP_at (f : Nat) : oneP f = oneQ f (recP oneP f) := by cases f <;> rfl
def Rel (p : Vl × Int × Int) (o : Nd × Int × Int) : Prop := p.2.2 = o.2.2 ∧ (o.2.2 = 0 → p.1 = own o.1 ∧ p.2.1 = o.2.1)
theorem items_rel (rec : Tx → Int → Int → Vl × Int × Int) (rec' : Tx → Int → Int → Nd × Int × Int) (t : Tx) (h : ∀ a b, Rel (rec t a b) (rec' t a b)) : ∀ (m : Nat) (l : List Vl) (kids : List Nd) (names : List Tx) (a a' b : Int), (b = 0 → l = owns kids ∧ a = a') →
    Rel (.list (itemsP rec t m l a b).1, (itemsP rec t m l a b).2) (itemsW rec' 5 t m kids names a' b)
  | 0, l, kids, names, a, a', b, hl => by
    refine ⟨rfl, fun hb => ?_⟩
    obtain ⟨h1, h2⟩ := hl hb
    exact ⟨by rw [itemsP, itemsW, h1]; simp [own], h2⟩
  | m + 1, l, kids, names, a, a', b, hl => by
    rw [itemsP, itemsW]
    by_cases hb : b = 0
    · obtain ⟨h1, h2⟩ := hl hb
      subst h1 h2 hb
      rw [if_neg (by simp), if_neg (by simp), if_neg (by decide)]
      obtain ⟨r1, r2⟩ := h a 0
      rw [r1]
      refine items_rel rec rec' t h m _ _ names _ _ _ fun h0 => ?_
      obtain ⟨q1, q2⟩ := r2 h0
      exact ⟨by rw [q1, owns_map, owns_map]; simp, q2⟩
    · rw [if_pos hb, if_pos hb]
      exact ⟨rfl, fun h0 => (hb h0).elim⟩
theorem nm_snoc (l : List Tx) (i : Nat) (h : i < l.length) (x : Tx) : nm (l ++ [x]) i = nm l i := by simp [nm, List.getD, List.getElem?_append_left h]
theorem nm_last (l : List Tx) (x : Tx) : nm (l ++ [x]) l.length = x := by simp [nm, List.getD]
theorem ownP_names (na nb : List Tx) : ∀ (l : List Nd) (i : Nat), (∀ j, j < i + l.length → nm na j = nm nb j) → ownP na i l = ownP nb i l
  | [], _, _ => rfl
  | x :: l, i, h => by rw [ownP, ownP, h i (by simp), ownP_names na nb l (i + 1) (fun j hj => h j (by simp; omega))]
theorem itemsW_bad' (rec : Tx → Int → Int → Nd × Int × Int) (k : Nat) (t : Tx) (m : Nat) (ks : List Nd) (ns : List Tx) (a b : Int) (h : b ≠ 0) : (itemsW rec k t m ks ns a b).2.2 = b := itemsW_bad rec k t m ks ns a b h
theorem itemsQ_bad (rec : Tx → Int → Int → Vl × Int × Int) (t : Tx) (m : Nat) (l : List (Tx × Vl)) (a b : Int) (h : b ≠ 0) : (itemsQ rec t m l a b).2.2 = b := by
  cases m with
  | zero => rfl
  | succ m => rw [itemsQ, if_pos h]
theorem itemsQ_rel (rec : Tx → Int → Int → Vl × Int × Int) (rec' : Tx → Int → Int → Nd × Int × Int) (t : Tx) (h : ∀ a b, Rel (rec t a b) (rec' t a b)) (hbad : ∀ a b, b ≠ 0 → (rec t a b).2.2 = b) : ∀ (m : Nat) (l : List (Tx × Vl)) (kids : List Nd) (names : List Tx) (a a' b : Int), (b = 0 → l = ownP names 0 kids ∧ l.map Prod.fst = names ∧ a = a') →
    Rel (.pairs (itemsQ rec t m l a b).1, (itemsQ rec t m l a b).2) (itemsW rec' 6 t m kids names a' b)
  | 0, l, kids, names, a, a', b, hl => by
    refine ⟨rfl, fun hb => ?_⟩
    obtain ⟨h1, _, h2⟩ := hl hb
    exact ⟨by rw [itemsQ, itemsW, h1]; simp [own], h2⟩
  | m + 1, l, kids, names, a, a', b, hl => by
    rw [itemsQ, itemsW]
    by_cases hb : b = 0
    · obtain ⟨h1, hn, h2⟩ := hl hb
      subst h2 hb
      rw [if_neg (by simp), if_neg (by simp), if_pos rfl]
      have hlen : names.length = l.length := by rw [← hn, List.length_map]
      have hkl : kids.length = l.length := by rw [h1, ownP_len]
      by_cases hr : (takeRow t a 0).2.2 = 0
      · by_cases ho : 0 < l.length ∧ Op.bytesLess (nm (l.map Prod.fst) (l.length - 1)) (takeRow t a 0).1 = false
        · have ho' : 0 < names.length ∧ Op.bytesLess (nm names (names.length - 1)) (takeRow t a 0).1 = false := by rw [hlen, ← hn]; exact ho
          have e : nameP l t a 0 = ((takeRow t a 0).1, (takeRow t a 0).2.1, 4) := by unfold nameP; rw [if_neg (by simp [hr]), if_pos ho]
          have c : (takeRow t a 0).2.2 = 0 ∧ 0 < names.length ∧ Op.bytesLess (nm names (names.length - 1)) (takeRow t a 0).1 = false := ⟨hr, ho'.1, ho'.2⟩
          rw [if_pos c, if_pos (by decide), e]
          have := hbad (takeRow t a 0).2.1 4 (by decide)
          refine ⟨?_, fun h0 => by simp at h0⟩
          show (itemsQ ..).2.2 = 4
          rw [itemsQ_bad _ _ _ _ _ _ (by rw [this]; decide), this]
        · have ho' : ¬ ((takeRow t a 0).2.2 = 0 ∧ 0 < names.length ∧ Op.bytesLess (nm names (names.length - 1)) (takeRow t a 0).1 = false) := by
            rintro ⟨_, p, q⟩; rw [hlen, ← hn] at q; exact ho ⟨by omega, q⟩
          have e : nameP l t a 0 = ((takeRow t a 0).1, (takeRow t a 0).2.1, 0) := by unfold nameP; rw [if_neg (by simp [hr]), if_neg ho]
          rw [if_neg ho', if_neg (by simp [hr]), e]
          obtain ⟨r1, r2⟩ := h (takeRow t a 0).2.1 0
          simp only
          rw [r1]
          refine itemsQ_rel rec rec' t h hbad m _ _ _ _ _ _ fun h0 => ?_
          obtain ⟨q1, q2⟩ := r2 h0
          refine ⟨?_, by simp [hn], q2⟩
          rw [q1, ownP_add, Nat.zero_add, h1]
          have : nm (names ++ [(takeRow t a 0).1]) kids.length = (takeRow t a 0).1 := by rw [hkl, ← hlen, nm_last]
          rw [this]
          congr 1
          exact ownP_names _ _ kids 0 fun j hj => (nm_snoc names j (by omega) _).symm
      · have ho' : ¬ ((takeRow t a 0).2.2 = 0 ∧ 0 < names.length ∧ Op.bytesLess (nm names (names.length - 1)) (takeRow t a 0).1 = false) := fun hh => hr hh.1
        have e : nameP l t a 0 = ([], (takeRow t a 0).2.1, (takeRow t a 0).2.2) := by unfold nameP; rw [if_pos hr]
        rw [if_neg ho', if_pos hr, e]
        have := hbad (takeRow t a 0).2.1 (takeRow t a 0).2.2 hr
        refine ⟨?_, fun h0 => (hr h0).elim⟩
        show (itemsQ ..).2.2 = (takeRow t a 0).2.2
        rw [itemsQ_bad _ _ _ _ _ _ (by rw [this]; exact hr), this]
    · rw [if_pos hb, if_pos hb]
      exact ⟨rfl, fun h0 => (hb h0).elim⟩
theorem num_bad {t : Tx} {a b k : Int} (h : b ≠ 0) : takeNum t a b k = (0, a, b) := by unfold takeNum; rw [if_pos h]
theorem oneP_bad (f : Nat) (t : Tx) (a b : Int) (h : b ≠ 0) : oneP f t a b = (.nil, a, b) := by
  rw [oneP_at]
  unfold oneQ
  rw [num_bad h, if_pos h]
theorem one_rel : ∀ (f : Nat) (t : Tx) (a b : Int), Rel (oneP f t a b) (oneN f t a b) := by
  intro f
  induction f with
  | zero =>
    intro t a b
    rw [oneP_at]
    show Rel (oneQ 0 _ t a b) (oneS _ t a b)
    unfold oneQ oneS
    by_cases h0 : (takeNum t a b 1).2.2 = 0
    · have hz : ¬ (takeNum t a b 1).2.2 ≠ 0 := fun hh => hh h0
      rw [if_neg hz, if_neg hz]
      generalize (takeNum t a b 1).1 = n
      have hc : n = 0 ∨ n = 1 ∨ n = 2 ∨ n = 3 ∨ n = 4 ∨ n = 5 ∨ n = 6 ∨ 6 < n := by omega
      rcases hc with rfl | rfl | rfl | rfl | rfl | rfl | rfl | hc
      · exact ⟨rfl, fun _ => ⟨by simp [nd0, own], rfl⟩⟩
      · exact ⟨rfl, fun _ => ⟨by simp [own, bv], rfl⟩⟩
      · exact ⟨rfl, fun _ => ⟨by simp [own, bv], rfl⟩⟩
      · exact ⟨rfl, fun _ => ⟨by simp [own], rfl⟩⟩
      · exact ⟨rfl, fun _ => ⟨by simp [own], rfl⟩⟩
      · refine ⟨?_, fun hh => ?_⟩
        · simp [listP, countP, itemsP]
        · simp at hh
      · refine ⟨?_, fun hh => ?_⟩
        · simp [pairsP, countP, itemsQ]
        · simp at hh
      · have e : ∀ k, k ≤ 6 → ¬ n = k := fun k hk => by omega
        simp only [e 0 (by decide), e 1 (by decide), e 2 (by decide), e 3 (by decide), e 4 (by decide), e 5 (by decide), e 6 (by decide), if_false, if_pos hc]
        exact ⟨rfl, fun hh => by cases hh⟩
    · rw [if_pos h0, if_pos h0]; exact ⟨rfl, fun hh => (h0 hh).elim⟩
  | succ f ih =>
    intro t a b
    rw [oneP_at]
    show Rel (oneQ (f + 1) (oneP f) t a b) (oneS _ t a b)
    unfold oneQ oneS
    by_cases h0 : (takeNum t a b 1).2.2 = 0
    · have hz : ¬ (takeNum t a b 1).2.2 ≠ 0 := fun hh => hh h0
      rw [if_neg hz, if_neg hz]
      clear hz
      generalize takeNum t a b 1 = q at h0 ⊢
      obtain ⟨n, a1, b1⟩ := q
      dsimp only at h0 ⊢
      have hc : n = 0 ∨ n = 1 ∨ n = 2 ∨ n = 3 ∨ n = 4 ∨ n = 5 ∨ n = 6 ∨ 6 < n := by omega
      rcases hc with rfl | rfl | rfl | rfl | rfl | rfl | rfl | hc
      · exact ⟨rfl, fun _ => ⟨by simp [nd0, own], rfl⟩⟩
      · exact ⟨rfl, fun _ => ⟨by simp [own, bv], rfl⟩⟩
      · exact ⟨rfl, fun _ => ⟨by simp [own, bv], rfl⟩⟩
      · exact ⟨rfl, fun _ => ⟨by simp [own], rfl⟩⟩
      · exact ⟨rfl, fun _ => ⟨by simp [own], rfl⟩⟩
      · show Rel (.list (listP (f + 1) (oneP f) t a1 b1).1, (listP (f + 1) (oneP f) t a1 b1).2) (oneL (oneN f) 5 t a1 b1)
        subst h0
        unfold listP oneL countP
        rw [if_neg (by omega)]
        by_cases h64 : 64 < (takeNum t a1 0 1).1
        · rw [if_pos h64]
          have hz : (takeNum t a1 0 1).2.2 = 0 := by
            by_cases hz : (takeNum t a1 0 1).2.2 = 0
            · exact hz
            · exfalso
              revert hz h64; unfold takeNum; split
              · simp
              · split
                · simp
                · split <;> simp
          rw [if_pos ⟨hz, h64⟩]
          exact ⟨by rw [itemsP, itemsW_bad _ _ _ _ _ _ _ _ (by decide)], fun hh => by rw [itemsW_bad _ _ _ _ _ _ _ _ (by decide)] at hh; cases hh⟩
        · rw [if_neg h64, if_neg (fun hh => h64 hh.2)]
          exact items_rel (oneP f) (oneN f) t (ih t) _ _ _ _ _ _ _ fun _ => ⟨rfl, rfl⟩
      · show Rel (.pairs (pairsP (f + 1) (oneP f) t a1 b1).1, (pairsP (f + 1) (oneP f) t a1 b1).2) (oneL (oneN f) 6 t a1 b1)
        subst h0
        unfold pairsP oneL countP
        rw [if_neg (by omega)]
        by_cases h64 : 64 < (takeNum t a1 0 1).1
        · rw [if_pos h64]
          have hz : (takeNum t a1 0 1).2.2 = 0 := by
            by_cases hz : (takeNum t a1 0 1).2.2 = 0
            · exact hz
            · exfalso
              revert hz h64; unfold takeNum; split
              · simp
              · split
                · simp
                · split <;> simp
          rw [if_pos ⟨hz, h64⟩]
          exact ⟨by rw [itemsQ, itemsW_bad _ _ _ _ _ _ _ _ (by decide)], fun hh => by rw [itemsW_bad _ _ _ _ _ _ _ _ (by decide)] at hh; cases hh⟩
        · rw [if_neg h64, if_neg (fun hh => h64 hh.2)]
          exact itemsQ_rel (oneP f) (oneN f) t (ih t) (fun a b hb => by rw [oneP_bad f t a b hb]) _ _ _ _ _ _ _ fun _ => ⟨rfl, rfl, rfl⟩
      · have e : ∀ k, k ≤ 6 → ¬ n = k := fun k hk => by omega
        simp only [e 0 (by decide), e 1 (by decide), e 2 (by decide), e 3 (by decide), e 4 (by decide), e 5 (by decide), e 6 (by decide), if_false, if_pos hc]
        exact ⟨rfl, fun hh => by cases hh⟩
    · rw [if_pos h0, if_pos h0]; exact ⟨rfl, fun hh => (h0 hh).elim⟩
/-- What Take comes to. -/
theorem take_rel (s : Tx) : endOf s (oneP 4 s 0 0).2.1 (oneP 4 s 0 0).2.2 = tkE s ∧ (tkE s = 0 → (oneP 4 s 0 0).1 = own (tkN s)) := by
  obtain ⟨h1, h2⟩ := one_rel 4 s 0 0
  have e : endOf s (oneP 4 s 0 0).2.1 (oneP 4 s 0 0).2.2 = tkE s := by
    unfold tkE
    by_cases hb : (oneN 4 s 0 0).2.2 = 0
    · rw [h1, (h2 hb).2]
    · unfold endOf; rw [h1, if_pos hb, if_pos hb]
  refine ⟨e, fun h0 => ?_⟩
  unfold tkN
  rw [if_pos h0]
  refine (h2 ?_).1
  by_cases hb : (oneN 4 s 0 0).2.2 = 0
  · exact hb
  · unfold tkE endOf at h0; rw [if_pos hb] at h0; exact h0
/-! ### As loops go -/
theorem itemsP_end (rec : Tx → Int → Int → Vl × Int × Int) (t : Tx) (m : Nat) (l : List Vl) (a b : Int) (h : m = 0 ∨ b ≠ 0) : itemsP rec t m l a b = (l ++ List.replicate m .nil, a, b) := by
  cases m with
  | zero => simp [itemsP]
  | succ m => rw [itemsP, if_pos (h.resolve_left (by omega))]
theorem itemsQ_end (rec : Tx → Int → Int → Vl × Int × Int) (t : Tx) (m : Nat) (l : List (Tx × Vl)) (a b : Int) (h : m = 0 ∨ b ≠ 0) : itemsQ rec t m l a b = (l ++ List.replicate m ([], .nil), a, b) := by
  cases m with
  | zero => simp [itemsQ]
  | succ m => rw [itemsQ, if_pos (h.resolve_left (by omega))]
theorem itemsP_len (rec : Tx → Int → Int → Vl × Int × Int) (t : Tx) : ∀ (m : Nat) (l : List Vl) (a b : Int), (itemsP rec t m l a b).1.length = l.length + m
  | 0, l, a, b => rfl
  | m + 1, l, a, b => by
    rw [itemsP]
    split
    · simp
    · rw [itemsP_len rec t m]; simp; omega
theorem itemsQ_len (rec : Tx → Int → Int → Vl × Int × Int) (t : Tx) : ∀ (m : Nat) (l : List (Tx × Vl)) (a b : Int), (itemsQ rec t m l a b).1.length = l.length + m
  | 0, l, a, b => rfl
  | m + 1, l, a, b => by
    rw [itemsQ]
    split
    · simp
    · rw [itemsQ_len rec t m]; simp; omega
theorem count_le (f : Nat) (t : Tx) (a b : Int) : (countP f t a b).1 ≤ 64 ∧ (f = 0 → (countP f t a b).1 = 0) := by
  unfold countP
  refine ⟨?_, fun h => by rw [if_pos h]⟩
  repeat' split
  all_goals simp_all
theorem vls_set (t : Ids) (l : List Vl) (i : Nat) (h : i < l.length) (v : Vl) : splice (vls t l) i [v.av t] = vls t (l.set i v) := by
  rw [vls_map, vls_map, List.map_set]
  unfold splice
  rw [List.set_eq_take_append_cons_drop, if_pos (by simpa using h)]
  simp
theorem prs_append (t : Ids) : ∀ a b : List (Tx × Vl), prs t (a ++ b) = prs t a ++ prs t b
  | [], b => rfl
  | x :: a, b => by rw [List.cons_append, prs, prs, prs_append t a b, List.append_assoc]
theorem prs_mid (t : Ids) (l r : List (Tx × Vl)) (s s' : Tx) (v : Vl) : splice (prs t (l ++ (s, v) :: r)) (l.length * 2) [.str s'] = prs t (l ++ (s', v) :: r) := by
  rw [prs_append, prs_append, prs, prs, pr, pr]
  unfold splice
  have h : (prs t l).length = l.length * 2 := prs_len t l
  rw [List.take_append_of_le_length (by omega), List.take_of_length_le (by omega), List.drop_append, List.drop_of_length_le (by rw [h]; simp)]
  simp [h]
theorem prs_mid' (t : Ids) (l r : List (Tx × Vl)) (s : Tx) (v v' : Vl) : splice (prs t (l ++ (s, v) :: r)) (l.length * 2 + 1) [v'.av t] = prs t (l ++ (s, v') :: r) := by
  rw [prs_append, prs_append, prs, prs, pr, pr]
  unfold splice
  have h : (prs t l).length = l.length * 2 := prs_len t l
  rw [List.take_append, List.take_of_length_le (by omega), List.drop_append, List.drop_of_length_le (by rw [h]; simp; omega)]
  have e : l.length * 2 + 1 + 1 - l.length * 2 = 2 := by omega
  simp [h, e]
theorem vls_mid (t : Ids) (l r : List Vl) (v v' : Vl) : splice (vls t (l ++ v :: r)) l.length [v'.av t] = vls t (l ++ v' :: r) := by
  rw [vls_set t _ _ (by simp)]; simp
theorem repeat_nil (t : Ids) : ∀ n, repeatAV [.nilI] n = vls t (List.replicate n .nil)
  | 0 => rfl
  | n + 1 => by rw [repeatAV, repeat_nil t n, List.replicate_succ, vls]; rfl
theorem repeat_pair (t : Ids) : ∀ n, repeatAV [.str [], .nilI] n = prs t (List.replicate n ([], .nil))
  | 0 => rfl
  | n + 1 => by rw [repeatAV, repeat_pair t n, List.replicate_succ, prs]; rfl
theorem takeRow_le {t : Tx} {a b : Int} : (takeRow t a b).1.length ≤ 65535 := by
  by_cases h : (takeRow t a b).2.2 = 0
  · have hb := (takeRow_ok h).1
    subst hb
    exact (takeRow_dec h).2.2.1
  · revert h
    unfold takeRow
    repeat' split
    · simp
    · simp
    · rename_i hn _
      exact fun hh => (hn (by simpa using hh)).elim
/-- A name put where it stands. -/
def nameL (l : List (Tx × Vl)) (i : Nat) (t : Tx) (a b : Int) : List (Tx × Vl) := if (takeRow t a b).2.2 ≠ 0 then l else l.set i ((takeRow t a b).1, (l.getD i ([], .nil)).2)
def nameS (l : List (Tx × Vl)) (i : Nat) (t : Tx) (a b : Int) : Int := if (takeRow t a b).2.2 ≠ 0 then (takeRow t a b).2.2 else nameE ((nameL l i t a b).map Prod.fst) i
theorem nameL_at (l : List (Tx × Vl)) (m : Nat) (t : Tx) (a b : Int) : nameL (l ++ List.replicate (m + 1) ([], .nil)) l.length t a b = l ++ ((nameP l t a b).1, .nil) :: List.replicate m ([], .nil) := by
  unfold nameL nameP
  split
  · simp [List.replicate_succ]
  · simp [List.replicate_succ]
theorem nameS_at (l : List (Tx × Vl)) (m : Nat) (t : Tx) (a b : Int) : nameS (l ++ List.replicate (m + 1) ([], .nil)) l.length t a b = (nameP l t a b).2.2 ∧ (takeRow t a b).2.1 = (nameP l t a b).2.1 := by
  unfold nameS
  rw [nameL_at]
  unfold nameP
  by_cases h : (takeRow t a b).2.2 = 0
  · rw [if_neg (by simp [h]), if_neg (by simp [h])]
    refine ⟨?_, rfl⟩
    have hn : nm ((l ++ ((takeRow t a b).1, Vl.nil) :: List.replicate m ([], .nil)).map Prod.fst) l.length = (takeRow t a b).1 := by
      simp [nm, List.getD]
    have hp : 0 < l.length → nm ((l ++ ((takeRow t a b).1, Vl.nil) :: List.replicate m ([], .nil)).map Prod.fst) (l.length - 1) = nm (l.map Prod.fst) (l.length - 1) := fun h0 => by
      simp only [nm, List.getD, List.map_append]
      rw [List.getElem?_append_left (by rw [List.length_map]; omega)]
    have hle := takeRow_le (t := t) (a := a) (b := b)
    unfold nameE
    simp only [hn]
    rw [if_neg (by omega)]
    by_cases h0 : 0 < l.length
    · rw [hp h0]
      by_cases hb : Op.bytesLess (nm (l.map Prod.fst) (l.length - 1)) (takeRow t a b).1 = false
      · rw [if_pos ⟨h0, hb⟩, if_pos ⟨h0, hb⟩]; rfl
      · rw [if_neg (fun hh => hb hh.2), if_neg (fun hh => hb hh.2)]; rfl
    · rw [if_neg (fun hh => h0 hh.1), if_neg (fun hh => h0 hh.1)]; rfl
  · rw [if_pos h, if_pos h]; exact ⟨rfl, rfl⟩
end Go.Proofs.Ytbikpgaiocjnoaa.Pad.En
