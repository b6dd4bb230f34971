/- What a program tells of values. No program is in here. -/
import Derived.Test.YtbikpgaiocjnoaaXT
set_option linter.unusedVariables false
set_option linter.unusedSimpArgs false
namespace Go.Proofs.Ytbikpgaiocjnoaa.Pad.En
theorem vav_form (t : Ids) (v : Vl) : (∃ a b, v.av t = .ifc a b) ∨ v.av t = .nilI := by cases v <;> simp [Vl.av]
def putB (v : Vl) : Tx := if chk 0 (nodeOf v) = 0 then encN (nodeOf v) else []
def tkV (s : Tx) : Vl := if tkE s = 0 then own (tkN s) else .nil
def sameV (v w : Vl) : Bool := decide (chk 0 (nodeOf v) = 0 ∧ chk 0 (nodeOf w) = 0 ∧ encN (nodeOf v) = encN (nodeOf w))
def isTx : Vl → Bool
  | .str _ => true
  | _ => false
def txV : Vl → Tx
  | .str s => s
  | _ => []
def isNu : Vl → Bool
  | .num _ => true
  | _ => false
def nuV : Vl → BitVec 64
  | .num n => n
  | _ => 0#64
def findP (l : List (Tx × Vl)) (s : Tx) : Option Vl := (l.find? fun p => decide (p.1 = s)).map Prod.snd
def fdO : Vl → Tx → Option Vl
  | .pairs l, s => findP l s
  | _, _ => none
def fdV (v : Vl) (s : Tx) : Vl := (fdO v s).getD .nil
def fdB (v : Vl) (s : Tx) : Bool := (fdO v s).isSome
/-- Few enough bytes. -/
def Vl.small (v : Vl) : Prop := v.fine ∧ (chk 0 (nodeOf v) = 0 → (encN (nodeOf v)).length ≤ 100000)
theorem putB_own (x : Nd) : putB (own x) = if chk 0 x = 0 then encN x else [] := by
  unfold putB
  have h : nodeOf (own x) = nz x := rfl
  rw [h, chk_nz]
  split
  · rename_i hx; exact enc_nz x 0 hx
  · rfl
theorem chk_own (x : Nd) : chk 0 (nodeOf (own x)) = chk 0 x := chk_nz x 0
theorem sameV_own (x y : Nd) : sameV (own x) (own y) = (decide (chk 0 x = 0 ∧ chk 0 y = 0) && same x y) := by
  unfold sameV
  have hx : nodeOf (own x) = nz x := rfl
  have hy : nodeOf (own y) = nz y := rfl
  rw [hx, hy, chk_nz, chk_nz]
  by_cases h1 : chk 0 x = 0
  · by_cases h2 : chk 0 y = 0
    · rw [enc_nz x 0 h1, enc_nz y 0 h2]
      cases hs : same x y
      · have : ¬ encN x = encN y := fun e => by rw [(same_iff h1 h2).2 e] at hs; cases hs
        simp [h1, h2, this]
      · simp [h1, h2, (same_iff h1 h2).1 hs]
    · simp [h2]
  · simp [h1]
theorem own_str {k : UInt8} {n : BitVec 64} {s : Tx} {kids : List Nd} {names : List Tx} : isTx (own (.mk k n s kids names)) = decide (k.toNat = 3) ∧ txV (own (.mk k n s kids names)) = if k.toNat = 3 then s else [] := by
  have hc : k.toNat = 0 ∨ k.toNat = 1 ∨ k.toNat = 2 ∨ k.toNat = 3 ∨ k.toNat = 4 ∨ k.toNat = 5 ∨ 5 < k.toNat := by omega
  rcases hc with hc | hc | hc | hc | hc | hc | hc
  all_goals first
    | (simp only [own, hc]; simp [isTx, txV]; done)
    | (unfold own
       rw [if_neg (by omega), if_neg (by omega), if_neg (by omega), if_neg (by omega), if_neg (by omega), if_neg (by omega)]
       have : ¬ k.toNat = 3 := by omega
       simp [isTx, txV, this])
theorem own_num {k : UInt8} {n : BitVec 64} {s : Tx} {kids : List Nd} {names : List Tx} : isNu (own (.mk k n s kids names)) = decide (k.toNat = 2) ∧ nuV (own (.mk k n s kids names)) = if k.toNat = 2 then n else 0#64 := by
  have hc : k.toNat = 0 ∨ k.toNat = 1 ∨ k.toNat = 2 ∨ k.toNat = 3 ∨ k.toNat = 4 ∨ k.toNat = 5 ∨ 5 < k.toNat := by omega
  rcases hc with hc | hc | hc | hc | hc | hc | hc
  all_goals first
    | (simp only [own, hc]; simp [isNu, nuV]; done)
    | (unfold own
       rw [if_neg (by omega), if_neg (by omega), if_neg (by omega), if_neg (by omega), if_neg (by omega), if_neg (by omega)]
       have : ¬ k.toNat = 2 := by omega
       simp [isNu, nuV, this])
theorem fnd_spec (names : List Tx) (s : Tx) : ∀ (l : List Nd) (i : Nat), (fnd names s i l.length = -1 ∧ findP (ownP names i l) s = none) ∨ ∃ (j : Nat) (h : j < l.length), fnd names s i l.length = ((i + j : Nat) : Int) ∧ findP (ownP names i l) s = some (own l[j])
  | [], i => .inl ⟨rfl, rfl⟩
  | x :: l, i => by
    have e1 : fnd names s i (x :: l).length = if nm names i = s then (i : Int) else fnd names s (i + 1) l.length := by rw [List.length_cons, fnd]
    have e2 : findP (ownP names i (x :: l)) s = if nm names i = s then some (own x) else findP (ownP names (i + 1) l) s := by
      unfold findP
      rw [ownP, List.find?_cons]
      by_cases h : nm names i = s <;> simp [h]
    rw [e1, e2]
    by_cases h : nm names i = s
    · right
      exact ⟨0, by simp, by simp [h], by simp [h]⟩
    · rw [if_neg h, if_neg h]
      rcases fnd_spec names s l (i + 1) with ⟨h1, h2⟩ | ⟨j, hj, h1, h2⟩
      · left; exact ⟨h1, h2⟩
      · right
        exact ⟨j + 1, by simp; omega, by rw [h1]; omega, by rw [h2]; rfl⟩
theorem find_spec (x : Nd) (s : Tx) : (find x s = -1 ∧ fdO (own x) s = none) ∨ ∃ (j : Nat) (h : j < x.kids.length), find x s = (j : Int) ∧ fdO (own x) s = some (own x.kids[j]) := by
  obtain ⟨k, n, w, kids, names⟩ := x
  by_cases h5 : k.toNat = 5
  · have ho : own (.mk k n w kids names) = .pairs (ownP names 0 kids) := by simp [own, h5]
    rw [find, if_pos h5, ho]
    rcases fnd_spec names s kids 0 with ⟨h1, h2⟩ | ⟨j, hj, h1, h2⟩
    · left; exact ⟨h1, h2⟩
    · right; exact ⟨j, hj, by rw [h1, Nat.zero_add], h2⟩
  · left
    rw [find, if_neg h5]
    refine ⟨rfl, ?_⟩
    rw [own]
    repeat' split
    all_goals first | rfl | (exfalso; omega)
theorem own_small (x : Nd) (h : ovr 0 150 x ≤ 150) : (own x).small ∧ x.fine := by
  obtain ⟨h1, h2⟩ := enc_len x 0 150 (by omega) h
  refine ⟨⟨own_fine x h1, fun hc => ?_⟩, h1⟩
  have hx : nodeOf (own x) = nz x := rfl
  rw [hx, chk_nz] at hc
  rw [hx, enc_nz x 0 hc]
  omega
theorem own_len (x : Nd) (h : ovr 0 150 x ≤ 150) : (encN x).length ≤ 63000 := by
  obtain ⟨_, h2⟩ := enc_len x 0 150 (by omega) h
  omega
mutual
theorem chk_ndfine' : ∀ (x : Nd) (d : Nat), chk d x = 0 → (nz x).fine
  | .mk k n s kids names, d, h => by
    obtain ⟨h1, _, h3⟩ := chk_kind h
    unfold nz
    have hc : k.toNat = 0 ∨ k.toNat = 1 ∨ k.toNat = 2 ∨ k.toNat = 3 ∨ k.toNat = 4 ∨ k.toNat = 5 := by omega
    rcases hc with hc | hc | hc | hc | hc | hc
    · simp only [own, hc]; simp [nodeOf, Nd.fine, ndFine]
    · simp only [own, hc]; simp [nodeOf, Nd.fine, ndFine]
    · simp only [own, hc]; simp [nodeOf, Nd.fine, ndFine]
    · simp only [own, hc]; simp [nodeOf, Nd.fine, ndFine]
    · obtain ⟨_, g2, g3⟩ := h3 (by omega)
      have hO : own (.mk k n s kids names) = .list (owns kids) := by simp [own, hc]
      rw [hO, nodeOf, nodes_owns, Nd.fine]
      exact ⟨by rw [List.length_map]; omega, by simp, chk_ndfineL kids _ _ _ _ g3⟩
    · obtain ⟨_, g2, g3⟩ := h3 (by omega)
      have hO : own (.mk k n s kids names) = .pairs (ownP names 0 kids) := by simp [own, hc]
      rw [hO, nodeOf, nodeP_ownP, fst_ownP, Nd.fine]
      exact ⟨by rw [List.length_map]; omega, by rw [nms_len]; omega, chk_ndfineL kids _ _ _ _ g3⟩
theorem chk_ndfineL : ∀ (l : List Nd) (d : Nat) (p : Bool) (names : List Tx) (i : Nat), chkL d p names i l = 0 → ndFine (l.map nz)
  | [], _, _, _, _, _ => by rw [List.map_nil, ndFine]; trivial
  | x :: l, d, p, names, i, h => by
    obtain ⟨_, _, a3, a4⟩ := (chkL_cons ..).1 h
    rw [List.map_cons, ndFine]; exact ⟨chk_ndfine' x d a3, chk_ndfineL l d p names (i + 1) a4⟩
end
theorem chk_ndfine (x : Nd) (d : Nat) (h : chk d x = 0) (hz : nz x = x) : x.fine := by
  rw [← hz]; exact chk_ndfine' x d h
mutual
/-- The node of a value that is fine is fine. -/
theorem back_fine : ∀ (v : Vl) (d : Nat), v.fine → (back d v).fine
  | .nil, d, _ => by rw [back]; split <;> simp [nd9, Nd.fine, ndFine]
  | .bool b, d, _ => by rw [back]; split <;> simp [nd9, Nd.fine, ndFine]
  | .num n, d, _ => by rw [back]; split <;> simp [nd9, Nd.fine, ndFine]
  | .str s, d, _ => by rw [back]; split <;> simp [nd9, Nd.fine, ndFine]
  | .int k, d, _ => by simp [back, nd9, Nd.fine, ndFine]
  | .list l, d, h => by
    rw [Vl.fine] at h
    rw [back]
    split
    · simp [nd9, Nd.fine, ndFine]
    · rw [Nd.fine]; exact ⟨by rw [backs_map, List.length_map]; exact h.1, by simp, backs_fine l (d + 1) h.2⟩
  | .pairs l, d, h => by
    rw [Vl.fine] at h
    rw [back]
    split
    · simp [nd9, Nd.fine, ndFine]
    · rw [Nd.fine]; exact ⟨by rw [backP_map, List.length_map]; exact h.1, by rw [List.length_map]; exact h.1, backP_fine l (d + 1) h.2⟩
theorem backs_fine : ∀ (l : List Vl) (d : Nat), fines l → ndFine (backs d l)
  | [], d, _ => by rw [backs, ndFine]; trivial
  | x :: l, d, h => by rw [fines] at h; rw [backs, ndFine]; exact ⟨back_fine x d h.1, backs_fine l d h.2⟩
theorem backQ_fine : ∀ (p : Tx × Vl) (d : Nat), fineQ p → (backQ d p).fine
  | (_, v), d, h => by rw [fineQ] at h; rw [backQ]; exact back_fine v d h
theorem backP_fine : ∀ (l : List (Tx × Vl)) (d : Nat), fineP l → ndFine (backP d l)
  | [], d, _ => by rw [backP, ndFine]; trivial
  | x :: l, d, h => by rw [fineP] at h; rw [backP, ndFine]; exact ⟨backQ_fine x d h.1, backP_fine l d h.2⟩
end
theorem tk_small {s : Tx} (h : s.length ≤ 100000) : (tkV s).small := by
  unfold tkV
  split
  · rename_i he
    obtain ⟨h1, h2, h3⟩ := tk_dec he
    refine ⟨chk_fine _ 0 h1, fun _ => ?_⟩
    rw [nz_nz _ h2, h3]; omega
  · exact ⟨trivial, fun _ => by simp [nodeOf, encN]⟩
end Go.Proofs.Ytbikpgaiocjnoaa.Pad.En
