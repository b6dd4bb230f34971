/- Blocks of 16 bytes, turned, mixed, in secret, and told again. No program is in here. -/
import Derived.Test.YtlihfdbfcklkmaaGN
set_option linter.unusedVariables false
set_option linter.unusedSimpArgs false
namespace Go.Proofs.Ytlihfdbfcklkmaa.Pad.Ci
open Go.Proofs.Ytlihfdbfcklkmaa.Pad.Gf
abbrev Bl := Nat → B
def turn (f : Bl) : Bl := fun n => f ((n + 4 * (n % 4)) % 16)
def unturn (f : Bl) : Bl := fun n => f ((n + 12 * (n % 4)) % 16)
def xo (f g : Bl) : Bl := fun i => f i ^^^ g i
def bxs (u : Bool) (f : Bl) : Bl := fun i => bif u then unbox (f i) else box (f i)
def comp (v : V) : Bl
  | 0 => v.1
  | 1 => v.2.1
  | 2 => v.2.2.1
  | _ => v.2.2.2
def col (f : Bl) (c : Nat) : V := (f (4 * c), f (4 * c + 1), f (4 * c + 2), f (4 * c + 3))
def mxs (u : Bool) (f : Bl) : Bl := fun n => comp (bif u then unmix (col f (n / 4)) else mix (col f (n / 4))) (n % 4)
/-- Round key n. -/
def rk (r : Bl) (n : Nat) : Bl := fun i => r (n * 16 + i)
def Ag (f g : Bl) : Prop := ∀ i, i < 16 → f i = g i
theorem Ag.refl (f : Bl) : Ag f f := fun _ _ => rfl
theorem Ag.symm {f g : Bl} (h : Ag f g) : Ag g f := fun i hi => (h i hi).symm
theorem Ag.trans {f g k : Bl} (h : Ag f g) (h' : Ag g k) : Ag f k := fun i hi => (h i hi).trans (h' i hi)
theorem turn_ag {f g : Bl} (h : Ag f g) : Ag (turn f) (turn g) := fun i _ => h _ (Nat.mod_lt _ (by decide))
theorem unturn_ag {f g : Bl} (h : Ag f g) : Ag (unturn f) (unturn g) := fun i _ => h _ (Nat.mod_lt _ (by decide))
theorem xo_ag {f g f' g' : Bl} (h : Ag f g) (h' : Ag f' g') : Ag (xo f f') (xo g g') := fun i hi => by unfold xo; rw [h i hi, h' i hi]
theorem bxs_ag (u : Bool) {f g : Bl} (h : Ag f g) : Ag (bxs u f) (bxs u g) := fun i hi => by unfold bxs; rw [h i hi]
theorem col_ag {f g : Bl} (h : Ag f g) {c : Nat} (hc : c < 4) : col f c = col g c := by
  unfold col; rw [h _ (by omega), h _ (by omega), h _ (by omega), h _ (by omega)]
theorem mxs_ag (u : Bool) {f g : Bl} (h : Ag f g) : Ag (mxs u f) (mxs u g) := fun i hi => by unfold mxs; rw [col_ag h (by omega)]
theorem turn_unturn (f : Bl) : Ag (turn (unturn f)) f := fun i hi => by
  show f _ = f i; congr 1; omega
theorem unturn_turn (f : Bl) : Ag (unturn (turn f)) f := fun i hi => by
  show f _ = f i; congr 1; omega
theorem turn4 (f : Bl) : Ag (turn (turn (turn (turn f)))) f := fun i hi => by
  show f _ = f i; congr 1; omega
theorem turn_xo (f g : Bl) : turn (xo f g) = xo (turn f) (turn g) := rfl
theorem unturn_xo (f g : Bl) : unturn (xo f g) = xo (unturn f) (unturn g) := rfl
theorem xo_xo (f g : Bl) : xo (xo f g) g = f := by funext i; simp [xo, BitVec.xor_assoc]
theorem xo_xo' (f g : Bl) : xo g (xo g f) = f := by funext i; simp [xo, ← BitVec.xor_assoc]
theorem xo_self (f : Bl) : xo f f = fun _ => 0#8 := by funext i; simp [xo]
theorem ubx_bxs (f : Bl) : bxs true (bxs false f) = f := by funext i; simp [bxs, unbox_box]
theorem bxs_ubx (f : Bl) : bxs false (bxs true f) = f := by funext i; simp [bxs, box_unbox]
theorem comp_col (v : V) (f : Bl) (c : Nat) (h : ∀ i, i < 4 → f (4 * c + i) = comp v i) : col f c = v := by
  obtain ⟨p, q, r, s⟩ := v
  unfold col
  have h0 := h 0 (by decide); have h1 := h 1 (by decide); have h2 := h 2 (by decide); have h3 := h 3 (by decide)
  rw [Nat.add_zero] at h0
  rw [h0, h1, h2, h3]; rfl
theorem comp_of (f : Bl) (n : Nat) : comp (col f (n / 4)) (n % 4) = f n := by
  have h : n % 4 = 0 ∨ n % 4 = 1 ∨ n % 4 = 2 ∨ n % 4 = 3 := by omega
  rcases h with h | h | h | h <;> rw [h] <;> simp only [comp, col] <;> congr 1 <;> omega
theorem col_mxs (u : Bool) (f : Bl) (c : Nat) : col (mxs u f) c = bif u then unmix (col f c) else mix (col f c) :=
  comp_col _ _ _ fun i hi => by unfold mxs; rw [show (4 * c + i) / 4 = c by omega, show (4 * c + i) % 4 = i by omega]
theorem umx_mxs (f : Bl) : mxs true (mxs false f) = f := by
  funext n
  rw [mxs, col_mxs]
  simp only [cond_true, cond_false]
  rw [unmix_mix, comp_of]
theorem mxs_umx (f : Bl) : mxs false (mxs true f) = f := by
  funext n
  rw [mxs, col_mxs]
  simp only [cond_true, cond_false]
  rw [mix_unmix, comp_of]
/-! In secret -/
def st (r b : Bl) : Nat → Bl
  | 0 => xo b (rk r 0)
  | k + 1 => xo (if k < 9 then mxs false (turn (bxs false (st r b k))) else turn (bxs false (st r b k))) (rk r (k + 1))
def sel (r b : Bl) : Bl := st r b 10
def op (r b : Bl) : Nat → Bl
  | 0 => xo b (rk r 10)
  | k + 1 => mxs true (xo (bxs true (unturn (op r b k))) (rk r (9 - k)))
def opn (r b : Bl) : Bl := xo (bxs true (unturn (op r b 9))) (rk r 0)
theorem st_ag {r r' b b' : Bl} (hr : ∀ n, n < 11 → Ag (rk r n) (rk r' n)) (hb : Ag b b') : ∀ k, k ≤ 10 → Ag (st r b k) (st r' b' k)
  | 0, _ => xo_ag hb (hr 0 (by decide))
  | k + 1, h => by
    unfold st
    have ih := turn_ag (bxs_ag false (st_ag hr hb k (by omega)))
    refine xo_ag ?_ (hr _ (by omega))
    split
    · exact mxs_ag _ ih
    · exact ih
theorem sel_ag {r r' b b' : Bl} (hr : ∀ n, n < 11 → Ag (rk r n) (rk r' n)) (hb : Ag b b') : Ag (sel r b) (sel r' b') := st_ag hr hb 10 (by decide)
theorem op_ag {r r' b b' : Bl} (hr : ∀ n, n < 11 → Ag (rk r n) (rk r' n)) (hb : Ag b b') : ∀ k, k ≤ 10 → Ag (op r b k) (op r' b' k)
  | 0, _ => xo_ag hb (hr 10 (by decide))
  | k + 1, h => mxs_ag _ (xo_ag (bxs_ag _ (unturn_ag (op_ag hr hb k (by omega)))) (hr _ (by omega)))
theorem opn_ag {r r' b b' : Bl} (hr : ∀ n, n < 11 → Ag (rk r n) (rk r' n)) (hb : Ag b b') : Ag (opn r b) (opn r' b') :=
  xo_ag (bxs_ag _ (unturn_ag (op_ag hr hb 9 (by decide)))) (hr 0 (by decide))
theorem rk_ag {r r' : Bl} (h : ∀ i, i < 176 → r i = r' i) (n : Nat) (hn : n < 11) : Ag (rk r n) (rk r' n) := fun i hi => h _ (by omega)
theorem op_st (r b : Bl) : ∀ k, k ≤ 9 → Ag (op r (sel r b) k) (turn (bxs false (st r b (9 - k))))
  | 0, _ => by
    show Ag (xo (st r b 10) (rk r 10)) _
    rw [st, if_neg (by decide), xo_xo]
    exact Ag.refl _
  | k + 1, h => by
    have ih := op_st r b k (by omega)
    obtain ⟨j, hj⟩ : ∃ j, 9 - k = j + 1 := ⟨8 - k, by omega⟩
    have h1 : Ag (bxs true (unturn (op r (sel r b) k))) (st r b (9 - k)) := by
      refine (bxs_ag true (unturn_ag ih)).trans ?_
      have := bxs_ag true (unturn_turn (bxs false (st r b (9 - k))))
      rwa [ubx_bxs] at this
    rw [op]
    refine (mxs_ag true (xo_ag h1 (Ag.refl _))).trans ?_
    rw [hj, st, if_pos (by omega), xo_xo, umx_mxs, show 9 - (k + 1) = j by omega]
    exact Ag.refl _
/-- What is in secret is told again. -/
theorem opn_sel (r b : Bl) : Ag (opn r (sel r b)) b := by
  have h := op_st r b 9 (by decide)
  have h1 : Ag (bxs true (unturn (op r (sel r b) 9))) (st r b 0) := by
    refine (bxs_ag true (unturn_ag h)).trans ?_
    have := bxs_ag true (unturn_turn (bxs false (st r b 0)))
    rwa [ubx_bxs] at this
  refine (xo_ag h1 (Ag.refl _)).trans ?_
  rw [st, xo_xo]
  exact Ag.refl _
theorem st_op (r b : Bl) : ∀ k, k ≤ 9 → Ag (st r (opn r b) k) (bxs true (unturn (op r b (9 - k))))
  | 0, _ => by
    show Ag (xo (opn r b) (rk r 0)) _
    rw [opn, xo_xo]
    exact Ag.refl _
  | k + 1, h => by
    have ih := st_op r b k (by omega)
    have h1 : Ag (turn (bxs false (st r (opn r b) k))) (op r b (9 - k)) := by
      have h2 := bxs_ag false ih
      rw [bxs_ubx] at h2
      exact (turn_ag h2).trans (turn_unturn _)
    obtain ⟨j, hj⟩ : ∃ j, 9 - k = j + 1 := ⟨8 - k, by omega⟩
    rw [st, if_pos (by omega)]
    refine (xo_ag (mxs_ag false h1) (Ag.refl _)).trans ?_
    rw [hj, op, mxs_umx, show 9 - j = k + 1 by omega, xo_xo, show 9 - (k + 1) = j by omega]
    exact Ag.refl _
theorem sel_opn (r b : Bl) : Ag (sel r (opn r b)) b := by
  have h := st_op r b 9 (by decide)
  have h1 : Ag (turn (bxs false (st r (opn r b) 9))) (op r b 0) := by
    have h2 := bxs_ag false h
    rw [bxs_ubx] at h2
    exact (turn_ag h2).trans (turn_unturn _)
  rw [sel, st, if_neg (by decide)]
  refine (xo_ag h1 (Ag.refl _)).trans ?_
  rw [op, xo_xo]
  exact Ag.refl _
theorem sel_inj (r x y : Bl) : Ag (sel r x) (sel r y) ↔ Ag x y := by
  constructor
  · intro h
    have := opn_ag (r := r) (r' := r) (fun n _ => Ag.refl _) h
    exact (opn_sel r x).symm.trans (this.trans (opn_sel r y))
  · exact fun h => sel_ag (fun n _ => Ag.refl _) h
/-! A key's rounds -/
def cst : Nat → B
  | 0 => 1#8
  | k + 1 => mul 2#8 (cst k)
def ks (key : Bl) (m : Nat) : B :=
  if m < 16 then key m else
  if m % 16 < 4 then ks key (m - 16) ^^^ (box (ks key (m - 4 - m % 4 + (m % 4 + 1) % 4)) ^^^ (if m % 16 = 0 then cst (m / 16 - 1) else 0#8))
  else ks key (m - 16) ^^^ ks key (m - 4)
termination_by m
decreasing_by all_goals omega
/-- What is put to a word that begins a round key. -/
def t0 (key : Bl) (c : B) (i : Nat) : B := box (key (12 + (i + 1) % 4)) ^^^ (if i = 0 then c else 0#8)
def nx (key : Bl) (c : B) (i : Nat) : B :=
  if i < 4 then key i ^^^ t0 key c i else key i ^^^ nx key c (i - 4)
theorem ks_lo (key : Bl) {m : Nat} (h : m < 16) : ks key m = key m := by rw [ks, if_pos h]
theorem ks_nx (key : Bl) (n : Nat) : ∀ i, i < 16 → ks key ((n + 1) * 16 + i) = nx (rk (ks key) n) (cst n) i := by
  intro i
  induction i using Nat.strongRecOn with
  | _ i ih =>
    intro hi
    rw [ks, if_neg (by omega), nx]
    by_cases h4 : i < 4
    · rw [if_pos (by omega), if_pos h4, t0]
      unfold rk
      rw [show (n + 1) * 16 + i - 16 = n * 16 + i by omega, show (n + 1) * 16 + i - 4 - ((n + 1) * 16 + i) % 4 + (((n + 1) * 16 + i) % 4 + 1) % 4 = n * 16 + (12 + (i + 1) % 4) by omega, show ((n + 1) * 16 + i) / 16 - 1 = n by omega]
      congr 3
      apply propext; omega
    · rw [if_neg (by omega), if_neg h4, ← ih (i - 4) (by omega) (by omega)]
      unfold rk
      rw [show (n + 1) * 16 + i - 16 = n * 16 + i by omega, show (n + 1) * 16 + i - 4 = (n + 1) * 16 + (i - 4) by omega]
/-- By words of four bytes. -/
def tw (key : Bl) (n i : Nat) : B := if n % 4 = 0 then box (ks key (4 * (n - 1) + (i + 1) % 4)) ^^^ (if i = 0 then cst ((n - 1) / 4) else 0#8) else ks key (4 * (n - 1) + i)
theorem ks_word (key : Bl) (n i : Nat) (hn : 4 ≤ n) (hi : i < 4) : ks key (4 * n + i) = ks key (4 * (n - 4) + i) ^^^ tw key n i := by
  rw [ks, if_neg (by omega), tw]
  by_cases h : n % 4 = 0
  · rw [if_pos (by omega), if_pos h, show 4 * n + i - 16 = 4 * (n - 4) + i by omega, show 4 * n + i - 4 - (4 * n + i) % 4 + ((4 * n + i) % 4 + 1) % 4 = 4 * (n - 1) + (i + 1) % 4 by omega, show (4 * n + i) / 16 - 1 = (n - 1) / 4 by omega]
    congr 3
    apply propext; omega
  · rw [if_neg (by omega), if_neg h, show 4 * n + i - 16 = 4 * (n - 4) + i by omega, show 4 * n + i - 4 = 4 * (n - 1) + i by omega]
theorem ks_ag {a b : Bl} (h : Ag a b) (m : Nat) : ks a m = ks b m := by
  induction m using Nat.strongRecOn with
  | _ m ih =>
    rw [ks.eq_1 a m, ks.eq_1 b m]
    split
    · rename_i hm; exact h m hm
    · split
      · rw [ih (m - 16) (by omega), ih (m - 4 - m % 4 + (m % 4 + 1) % 4) (by omega)]
      · rw [ih (m - 16) (by omega), ih (m - 4) (by omega)]
theorem nx_ag {a b : Bl} (h : Ag a b) (c : B) : Ag (nx a c) (nx b c) := by
  intro i
  induction i using Nat.strongRecOn with
  | _ i ih =>
    intro hi
    rw [nx.eq_1 a c i, nx.eq_1 b c i]
    split
    · rw [h i hi, t0, t0, h _ (by omega)]
    · rw [h i hi, ih (i - 4) (by omega) (by omega)]
theorem xor_cancel {a b x y : B} (h : a ^^^ x = b ^^^ y) (e : x = y) : a = b := by
  subst e
  have := congrArg (· ^^^ x) h
  simpa [BitVec.xor_assoc] using this
theorem nx_inj {a b : Bl} {c : B} (h : Ag (nx a c) (nx b c)) : Ag a b := by
  have hi : ∀ i, 4 ≤ i → i < 16 → a i = b i := by
    intro i h4 h16
    have h1 := h i h16
    have h2 := h (i - 4) (by omega)
    rw [nx.eq_1 a c i, if_neg (by omega), nx.eq_1 b c i, if_neg (by omega)] at h1
    exact xor_cancel h1 h2
  intro i h16
  by_cases h4 : i < 4
  · have h1 := h i h16
    rw [nx.eq_1 a c i, if_pos h4, nx.eq_1 b c i, if_pos h4] at h1
    exact xor_cancel h1 (by unfold t0; rw [hi _ (by omega) (by omega)])
  · exact hi i (by omega) h16
/-- Each of the round keys tells the key. -/
theorem rk_inj (a b : Bl) : ∀ n, Ag (rk (ks a) n) (rk (ks b) n) ↔ Ag a b := by
  intro n
  constructor
  · induction n with
    | zero =>
      intro h i hi
      have := h i hi
      unfold rk at this
      rwa [ks_lo _ (by omega), ks_lo _ (by omega), Nat.zero_mul, Nat.zero_add] at this
    | succ n ih =>
      intro h
      apply ih
      apply nx_inj (c := cst n)
      intro i hi
      rw [← ks_nx a n i hi, ← ks_nx b n i hi]
      exact h i hi
  · exact fun h i _ => ks_ag h _
/-! The document's example -/
def tb (l : List Nat) : Bl := fun i => BitVec.ofNat 8 (l.getD i 0)
def exK : List Nat := [0, 1, 2, 3, 4, 5, 6, 7, 8, 9, 10, 11, 12, 13, 14, 15, 214, 170, 116, 253, 210, 175, 114, 250, 218, 166, 120, 241, 214, 171, 118, 254, 182, 146, 207, 11, 100, 61, 189, 241, 190, 155, 197, 0, 104, 48, 179, 254, 182, 255, 116, 78, 210, 194, 201, 191, 108, 89, 12, 191, 4, 105, 191, 65, 71, 247, 247, 188, 149, 53, 62, 3, 249, 108, 50, 188, 253, 5, 141, 253, 60, 170, 163, 232, 169, 159, 157, 235, 80, 243, 175, 87, 173, 246, 34, 170, 94, 57, 15, 125, 247, 166, 146, 150, 167, 85, 61, 193, 10, 163, 31, 107, 20, 249, 112, 26, 227, 95, 226, 140, 68, 10, 223, 77, 78, 169, 192, 38, 71, 67, 135, 53, 164, 28, 101, 185, 224, 22, 186, 244, 174, 191, 122, 210, 84, 153, 50, 209, 240, 133, 87, 104, 16, 147, 237, 156, 190, 44, 151, 78, 19, 17, 29, 127, 227, 148, 74, 23, 243, 7, 167, 139, 77, 43, 48, 197]
def ex0 : List Nat := [0, 16, 32, 48, 64, 80, 96, 112, 128, 144, 160, 176, 192, 208, 224, 240]
def ex1 : List Nat := [137, 216, 16, 232, 133, 90, 206, 104, 45, 24, 67, 216, 203, 18, 143, 228]
def ex2 : List Nat := [73, 21, 89, 143, 85, 229, 215, 160, 218, 202, 148, 250, 31, 10, 99, 247]
def ex3 : List Nat := [250, 99, 106, 40, 37, 179, 57, 201, 64, 102, 138, 49, 87, 36, 77, 23]
def ex4 : List Nat := [36, 114, 64, 35, 105, 102, 179, 250, 110, 210, 117, 50, 136, 66, 91, 108]
def ex5 : List Nat := [200, 22, 119, 188, 155, 122, 201, 59, 37, 2, 121, 146, 176, 38, 25, 150]
def ex6 : List Nat := [198, 47, 225, 9, 247, 94, 237, 195, 204, 121, 57, 93, 132, 249, 207, 93]
def ex7 : List Nat := [209, 135, 108, 15, 121, 196, 48, 10, 180, 85, 148, 173, 214, 111, 244, 31]
def ex8 : List Nat := [253, 227, 186, 210, 5, 229, 208, 215, 53, 71, 150, 78, 241, 254, 55, 241]
def ex9 : List Nat := [189, 110, 124, 61, 242, 181, 119, 158, 11, 97, 33, 110, 139, 16, 182, 137]
def ex10 : List Nat := [105, 196, 224, 216, 106, 123, 4, 48, 216, 205, 183, 128, 112, 180, 197, 90]
def exB : List Nat := [0, 17, 34, 51, 68, 85, 102, 119, 136, 153, 170, 187, 204, 221, 238, 255]
def ex : Nat → List Nat
  | 0 => ex0
  | 1 => ex1
  | 2 => ex2
  | 3 => ex3
  | 4 => ex4
  | 5 => ex5
  | 6 => ex6
  | 7 => ex7
  | 8 => ex8
  | 9 => ex9
  | _ => ex10
theorem exK_step : ∀ m, m < 176 → 16 ≤ m → (if m % 16 < 4 then tb exK (m - 16) ^^^ (box (tb exK (m - 4 - m % 4 + (m % 4 + 1) % 4)) ^^^ (if m % 16 = 0 then cst (m / 16 - 1) else 0#8)) else tb exK (m - 16) ^^^ tb exK (m - 4)) = tb exK m := by decide +kernel
theorem exK_all : ∀ m, m < 176 → ks (tb exK) m = tb exK m := by
  intro m
  induction m using Nat.strongRecOn with
  | _ m ih =>
    intro hm
    rw [ks]
    by_cases h : m < 16
    · rw [if_pos h]
    · rw [if_neg h]
      by_cases h1 : m % 16 < 4
      · rw [if_pos h1, ih (m - 16) (by omega) (by omega), ih (m - 4 - m % 4 + (m % 4 + 1) % 4) (by omega) (by omega)]
        have := exK_step m hm (by omega)
        rwa [if_pos h1] at this
      · rw [if_neg h1, ih (m - 16) (by omega) (by omega), ih (m - 4) (by omega) (by omega)]
        have := exK_step m hm (by omega)
        rwa [if_neg h1] at this
theorem ex_0 : ∀ i, i < 16 → xo (tb exB) (rk (tb exK) 0) i = tb ex0 i := by decide +kernel
theorem ex_step : ∀ k, k < 10 → ∀ i, i < 16 → xo (if k < 9 then mxs false (turn (bxs false (tb (ex k)))) else turn (bxs false (tb (ex k)))) (rk (tb exK) (k + 1)) i = tb (ex (k + 1)) i := by decide +kernel
theorem ex_all : ∀ k, k ≤ 10 → Ag (st (tb exK) (tb exB) k) (tb (ex k))
  | 0, _ => ex_0
  | k + 1, h => by
    refine Ag.trans ?_ (fun i hi => ex_step k (by omega) i hi)
    rw [st]
    refine xo_ag ?_ (Ag.refl _)
    have ih := turn_ag (bxs_ag false (ex_all k (by omega)))
    split
    · exact mxs_ag _ ih
    · exact ih
theorem ex_sel : Ag (sel (ks (tb exK)) (tb exB)) (tb ex10) :=
  (sel_ag (rk_ag exK_all) (Ag.refl _)).trans (ex_all 10 (by decide))
end Go.Proofs.Ytlihfdbfcklkmaa.Pad.Ci
