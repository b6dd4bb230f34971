/- The field of 2^128 elements. No program is in here. -/
namespace Go.Proofs.Ytlihfdbfcklkmaa.Pad.Gh
abbrev W := BitVec 128
def dbl (a : W) : W := (a <<< 1) ^^^ (if a.getLsbD 127 then 0x87#128 else 0#128)
def dbls : Nat → W → W
  | 0, a => a
  | k + 1, a => dbl (dbls k a)
def X (n : Nat) : W := dbls n 1#128
/-- Those T i where p i. -/
def sm (p : Nat → Bool) (T : Nat → W) : Nat → W
  | 0 => 0#128
  | n + 1 => sm p T n ^^^ (if p n then T n else 0#128)
def bt (a : W) : Nat → Bool := fun i => a.getLsbD i
def mul (a b : W) : W := sm (bt b) (fun j => dbls j a) 128
theorem xac (a b c d : W) : (a ^^^ b) ^^^ (c ^^^ d) = (a ^^^ c) ^^^ (b ^^^ d) := by
  rw [BitVec.xor_assoc, ← BitVec.xor_assoc b c d, BitVec.xor_comm b c, BitVec.xor_assoc c b d, ← BitVec.xor_assoc]
theorem dbl_add (a b : W) : dbl (a ^^^ b) = dbl a ^^^ dbl b := by
  unfold dbl
  rw [BitVec.getLsbD_xor, BitVec.shiftLeft_xor_distrib, xac]
  cases a.getLsbD 127 <;> cases b.getLsbD 127 <;> simp
theorem dbls_add (a b : W) : ∀ k, dbls k (a ^^^ b) = dbls k a ^^^ dbls k b
  | 0 => rfl
  | k + 1 => by simp only [dbls, dbls_add a b k, dbl_add]
theorem dbls_dbls (a : W) (j : Nat) : ∀ k, dbls k (dbls j a) = dbls (j + k) a
  | 0 => rfl
  | k + 1 => by rw [← Nat.add_assoc, dbls, dbls, dbls_dbls a j k]
theorem sm_p (p q : Nat → Bool) (T : Nat → W) : ∀ n, sm (fun i => p i ^^ q i) T n = sm p T n ^^^ sm q T n
  | 0 => by simp [sm]
  | n + 1 => by
    simp only [sm, sm_p p q T n]
    rw [xac]
    by_cases hp : p n = true <;> by_cases hq : q n = true <;> simp [hp, hq]
theorem sm_T (p : Nat → Bool) (T U : Nat → W) : ∀ n, sm p (fun i => T i ^^^ U i) n = sm p T n ^^^ sm p U n
  | 0 => by simp [sm]
  | n + 1 => by
    simp only [sm, sm_T p T U n]
    rw [xac]
    cases p n <;> simp
theorem sm_ext {p q : Nat → Bool} {T U : Nat → W} : ∀ {n}, (∀ i, i < n → p i = q i) → (∀ i, i < n → T i = U i) → sm p T n = sm q U n
  | 0, _, _ => rfl
  | n + 1, h, h' => by
    rw [sm, sm, sm_ext (fun i hi => h i (by omega)) (fun i hi => h' i (by omega)), h n (by omega), h' n (by omega)]
theorem zero_of {f : W → W} (hf : ∀ x y, f (x ^^^ y) = f x ^^^ f y) : f 0#128 = 0#128 := by
  have := hf 0#128 0#128
  simpa using this
theorem sm_map {f : W → W} (hf : ∀ x y, f (x ^^^ y) = f x ^^^ f y) (p : Nat → Bool) (T : Nat → W) : ∀ n, f (sm p T n) = sm p (fun i => f (T i)) n
  | 0 => zero_of hf
  | n + 1 => by
    rw [sm, hf, sm_map hf p T n, sm]
    cases p n <;> simp [zero_of hf]
theorem sm_one (i : Nat) (T : Nat → W) : ∀ n, sm (fun j => decide (j = i)) T n = if i < n then T i else 0#128
  | 0 => rfl
  | n + 1 => by
    rw [sm, sm_one i T n]
    by_cases h : n = i
    · subst h; simp
    · by_cases h1 : i < n
      · simp [h, h1, show i < n + 1 by omega]
      · simp [h, h1, show ¬ i < n + 1 by omega]
theorem X_lt : ∀ i, i < 128 → X i = 1#128 <<< i
  | 0, _ => rfl
  | i + 1, h => by
    rw [X, dbls, show dbls i 1#128 = X i from rfl, X_lt i (by omega), dbl]
    have : (1#128 <<< i).getLsbD 127 = false := by simp; omega
    rw [this, BitVec.shiftLeft_add]; simp
theorem X_bit (i j : Nat) (hi : i < 128) : (X i).getLsbD j = decide (j = i) := by
  rw [X_lt i hi]
  by_cases h : j = i
  · subst h; simp [hi]
  · rw [decide_eq_false h]; simp; omega
theorem sm_bit (p : Nat → Bool) (i : Nat) : ∀ n, n ≤ 128 → (sm p X n).getLsbD i = (decide (i < n) && p i)
  | 0, _ => by simp [sm]
  | n + 1, h => by
    rw [sm, BitVec.getLsbD_xor, sm_bit p i n (by omega)]
    by_cases hi : i = n
    · subst hi
      cases hp : p i <;> simp
      exact (X_bit i i (by omega)).trans (by simp)
    · have : (if p n then X n else 0#128).getLsbD i = false := by
        cases p n
        · simp
        · rw [if_pos rfl, X_bit n i (by omega), decide_eq_false hi]
      rw [this]
      by_cases h1 : i < n
      · simp [h1, show i < n + 1 by omega]
      · simp [h1, show ¬ i < n + 1 by omega]
theorem sm_bits (a : W) : sm (bt a) X 128 = a := by
  apply BitVec.eq_of_getLsbD_eq
  intro i hi
  rw [sm_bit (bt a) i 128 (by omega)]
  simp [hi, bt]
theorem ext {f g : W → W} (hf : ∀ x y, f (x ^^^ y) = f x ^^^ f y) (hg : ∀ x y, g (x ^^^ y) = g x ^^^ g y) (h : ∀ i, i < 128 → f (X i) = g (X i)) (a : W) : f a = g a := by
  rw [← sm_bits a, sm_map hf, sm_map hg]
  exact sm_ext (fun _ _ => rfl) h
theorem mul_add (a b c : W) : mul a (b ^^^ c) = mul a b ^^^ mul a c := by
  unfold mul
  rw [← sm_p]
  exact sm_ext (fun i _ => by simp [bt]) (fun _ _ => rfl)
theorem add_mul (a b c : W) : mul (a ^^^ b) c = mul a c ^^^ mul b c := by
  unfold mul
  rw [← sm_T]
  exact sm_ext (fun _ _ => rfl) (fun i _ => dbls_add a b i)
theorem mul_X' (a : W) (i : Nat) (h : i < 128) : mul a (X i) = dbls i a := by
  unfold mul
  rw [sm_ext (p := bt (X i)) (q := fun j => decide (j = i)) (U := fun j => dbls j a) (fun j _ => X_bit i j h) (fun _ _ => rfl), sm_one, if_pos h]
theorem mul_comm (a b : W) : mul a b = mul b a := by
  refine ext (f := fun b => mul a b) (g := fun b => mul b a) (mul_add a) (fun x y => add_mul x y a) (fun j hj => ?_) b
  refine ext (f := fun a => mul a (X j)) (g := fun a => mul (X j) a) (fun x y => add_mul x y _) (mul_add (X j)) (fun i hi => ?_) a
  show mul (X i) (X j) = mul (X j) (X i)
  rw [mul_X' _ j hj, mul_X' _ i hi, X, X, dbls_dbls, dbls_dbls, Nat.add_comm]
theorem dbls_mul (a b : W) (k : Nat) : mul (dbls k a) b = dbls k (mul a b) := by
  unfold mul
  rw [sm_map (f := dbls k) (fun x y => dbls_add x y k)]
  exact sm_ext (fun _ _ => rfl) (fun i _ => by rw [dbls_dbls, dbls_dbls, Nat.add_comm])
theorem mul_dbls (a b : W) (k : Nat) : mul a (dbls k b) = dbls k (mul a b) := by rw [mul_comm, dbls_mul, mul_comm]
theorem mul_assoc (a b c : W) : mul (mul a b) c = mul a (mul b c) := by
  refine ext (f := fun c => mul (mul a b) c) (g := fun c => mul a (mul b c)) (mul_add _) (fun x y => by simp only [mul_add]) (fun k hk => ?_) c
  show mul (mul a b) (X k) = mul a (mul b (X k))
  rw [mul_X' _ k hk, mul_X' _ k hk, mul_dbls]
theorem mul_one (a : W) : mul a 1#128 = a := mul_X' a 0 (by decide)
theorem one_mul (a : W) : mul 1#128 a = a := by rw [mul_comm, mul_one]
theorem mul_X (a : W) (n : Nat) : mul a (X n) = dbls n a := by rw [X, mul_dbls, mul_one]
theorem mul_zero (a : W) : mul a 0#128 = 0#128 := zero_of (mul_add a)
theorem zero_mul (a : W) : mul 0#128 a = 0#128 := by rw [mul_comm, mul_zero]
/-! Powers -/
def pw (a : W) : Nat → W
  | 0 => 1#128
  | n + 1 => mul (pw a n) a
theorem pw_add (a : W) (m : Nat) : ∀ n, pw a (m + n) = mul (pw a m) (pw a n)
  | 0 => by simp [pw, mul_one]
  | n + 1 => by rw [← Nat.add_assoc, pw, pw, pw_add a m n, mul_assoc]
theorem pw_mul (a b : W) : ∀ n, pw (mul a b) n = mul (pw a n) (pw b n)
  | 0 => by simp [pw, mul_one]
  | n + 1 => by
    have e : mul (pw b n) (mul a b) = mul a (mul (pw b n) b) := by rw [← mul_assoc, mul_comm (pw b n) a, mul_assoc]
    rw [pw, pw, pw, pw_mul a b n, mul_assoc, mul_assoc, e]
theorem pw_sq (a : W) (n : Nat) : pw (mul a a) n = pw a (2 * n) := by rw [pw_mul, ← pw_add]; congr 1; omega
theorem pw_one (a : W) : pw a 1 = a := by simp [pw, one_mul]
theorem pw_X (i : Nat) : ∀ n, pw (X i) n = X (i * n)
  | 0 => rfl
  | n + 1 => by rw [pw, pw_X i n, mul_X, X, dbls_dbls, Nat.mul_succ]; rfl
/-! Squares -/
def S (a : W) : W := mul a a
theorem S_add (a b : W) : S (a ^^^ b) = S a ^^^ S b := by
  unfold S
  rw [mul_add, add_mul, add_mul, mul_comm b a, xac, BitVec.xor_comm (mul a b) (mul b b), xac]
  simp
theorem S_X (i : Nat) : S (X i) = X (2 * i) := by
  unfold S
  rw [mul_X, X, dbls_dbls, X, show i + i = 2 * i by omega]
def Ss : Nat → W → W
  | 0, a => a
  | k + 1, a => S (Ss k a)
theorem Ss_add (a b : W) : ∀ k, Ss k (a ^^^ b) = Ss k a ^^^ Ss k b
  | 0 => rfl
  | k + 1 => by simp only [Ss, Ss_add a b k, S_add]
theorem Ss_pw (a : W) : ∀ k, Ss k a = pw a (2 ^ k)
  | 0 => (pw_one a).symm
  | k + 1 => by rw [Ss, Ss_pw a k, S, ← pw_add]; congr 1; rw [Nat.pow_succ]; omega
/-- A sum by a list, from place i on. -/
def la (a : W) : List W → Nat → W
  | [], _ => 0#128
  | t :: l, i => (if a.getLsbD i then t else 0#128) ^^^ la a l (i + 1)
theorem sm_head (p : Nat → Bool) (T : Nat → W) : ∀ n, sm p T (n + 1) = (if p 0 then T 0 else 0#128) ^^^ sm (fun i => p (i + 1)) (fun i => T (i + 1)) n
  | 0 => by simp [sm]
  | n + 1 => by rw [sm, sm_head p T n, sm, BitVec.xor_assoc]
theorem la_sm (a : W) : ∀ (l : List W) (i : Nat), la a l i = sm (fun j => a.getLsbD (i + j)) (fun j => l.getD j 0#128) l.length
  | [], _ => rfl
  | t :: l, i => by
    rw [la, la_sm a l (i + 1), List.length_cons, sm_head]
    congr 1
    exact sm_ext (fun j _ => by congr 1; omega) (fun j _ => rfl)
theorem la_add (l : List W) (a b : W) : la (a ^^^ b) l 0 = la a l 0 ^^^ la b l 0 := by
  rw [la_sm, la_sm, la_sm, ← sm_p]
  exact sm_ext (fun j _ => by simp) (fun _ _ => rfl)
def tX : List W := [0x1, 0x4, 0x10, 0x40, 0x100, 0x400, 0x1000, 0x4000, 0x10000, 0x40000, 0x100000, 0x400000, 0x1000000, 0x4000000, 0x10000000, 0x40000000, 0x100000000, 0x400000000, 0x1000000000, 0x4000000000, 0x10000000000, 0x40000000000, 0x100000000000, 0x400000000000, 0x1000000000000, 0x4000000000000, 0x10000000000000, 0x40000000000000, 0x100000000000000, 0x400000000000000, 0x1000000000000000, 0x4000000000000000, 0x10000000000000000, 0x40000000000000000, 0x100000000000000000, 0x400000000000000000, 0x1000000000000000000, 0x4000000000000000000, 0x10000000000000000000, 0x40000000000000000000, 0x100000000000000000000, 0x400000000000000000000, 0x1000000000000000000000, 0x4000000000000000000000, 0x10000000000000000000000, 0x40000000000000000000000, 0x100000000000000000000000, 0x400000000000000000000000, 0x1000000000000000000000000, 0x4000000000000000000000000, 0x10000000000000000000000000, 0x40000000000000000000000000, 0x100000000000000000000000000, 0x400000000000000000000000000, 0x1000000000000000000000000000, 0x4000000000000000000000000000, 0x10000000000000000000000000000, 0x40000000000000000000000000000, 0x100000000000000000000000000000, 0x400000000000000000000000000000, 0x1000000000000000000000000000000, 0x4000000000000000000000000000000, 0x10000000000000000000000000000000, 0x40000000000000000000000000000000, 0x87, 0x21c, 0x870, 0x21c0, 0x8700, 0x21c00, 0x87000, 0x21c000, 0x870000, 0x21c0000, 0x8700000, 0x21c00000, 0x87000000, 0x21c000000, 0x870000000, 0x21c0000000, 0x8700000000, 0x21c00000000, 0x87000000000, 0x21c000000000, 0x870000000000, 0x21c0000000000, 0x8700000000000, 0x21c00000000000, 0x87000000000000, 0x21c000000000000, 0x870000000000000, 0x21c0000000000000, 0x8700000000000000, 0x21c00000000000000, 0x87000000000000000, 0x21c000000000000000, 0x870000000000000000, 0x21c0000000000000000, 0x8700000000000000000, 0x21c00000000000000000, 0x87000000000000000000, 0x21c000000000000000000, 0x870000000000000000000, 0x21c0000000000000000000, 0x8700000000000000000000, 0x21c00000000000000000000, 0x87000000000000000000000, 0x21c000000000000000000000, 0x870000000000000000000000, 0x21c0000000000000000000000, 0x8700000000000000000000000, 0x21c00000000000000000000000, 0x87000000000000000000000000, 0x21c000000000000000000000000, 0x870000000000000000000000000, 0x21c0000000000000000000000000, 0x8700000000000000000000000000, 0x21c00000000000000000000000000, 0x87000000000000000000000000000, 0x21c000000000000000000000000000, 0x870000000000000000000000000000, 0x21c0000000000000000000000000000, 0x8700000000000000000000000000000, 0x21c00000000000000000000000000000, 0x87000000000000000000000000000000, 0x1c00000000000000000000000000010e, 0x70000000000000000000000000000438, 0xc0000000000000000000000000001067]
def tS : List W := [0x2, 0x4, 0x10, 0x100, 0x10000, 0x100000000, 0x10000000000000000, 0x87, 0x4015, 0x10000111, 0x100000000010101, 0x10000000000000000000100010001, 0x87000000010000000100000001, 0x21caea0000000000000086, 0x21cae93f7cfc8, 0x4015044544105551550555040, 0x1001001111110961118fe6196978ef70, 0x860140d2541486c693c692c775187987, 0x8b69509b312d6501ea618e11df04ea1e, 0xb715594eb7756558cad0352d30b311b4, 0x1afdeffd35e5fde54e1a6f865fe82b9, 0x11b4a30358935542218289f09c0659ed, 0x83a513579eda579397b14587eebe264d, 0x83ad91f69582bddf38d15180f9de45ad, 0xc7f8a41756ad614d1a97936b620f481d, 0xbb844bf6957599a6e94bf5687ccf4c39, 0x2c3bd83d0661350d5aadb3837634c244, 0x24f6fc2353c7f2321f726995c3f33829, 0x150e344316f35f82a5b7efc52c5e9c53, 0xcbe66ebbc72d228a891738c79d5ad319, 0xd331a77342cf2867fbb824714f38f6c2, 0x60dcdee4d2f1fc9262609e6968de22b0, 0x782d0a995dd3b01821777af80695052a, 0xcec3202236b9330fde0a74a95b11a7b2, 0xcad1b2dd09125a5f800a7b44dd8e7a70, 0xd3f537e04c700e277016c540c190dd74, 0x20b022e1c1d1bc0809bbaa007aff17a4, 0x1c621e475a73acaea5ea62f173a564de, 0xeaab3a58b8a02fe2c1d3ada9e183a6f8, 0xdffeae5cfc8592a22ee29c077314ee0d, 0x1854548bb6f4de8e1794c9c6116bca12, 0xa7ddbe68af10b36c5046371c4cc9eaa8, 0xc7c20e0075b34cb3e77bd7620dd51099, 0xeed7a7597ab9140ee385088258930c85, 0xd3807dd9d6a39649d9bf3b428f207eec, 0x64fb855fc75b066a7d1adaba58301148, 0x710a093e99bb9946aba3d15b0b675aaa, 0xafc267d97044a1c866216c6f770b3b1e, 0xe316b61772920218fe1d7816d9eb81fd, 0xfbcf8c1e442c8cf5b87c1159421de6c0, 0x4d328e5ae8b1bde5687634c0bd8f66a6, 0x4d758c29eeb484f7c8b21bf16608e4db, 0x97da6d2e8f7686d939b53119c4b7496, 0x60488351c7403436ccbb31a458da0423, 0x3c5814a4c792b3beaba321469362905f, 0xf6fd92c58b52c44dfbcf513b18b860f7, 0x740252435434bd93e213b075ac781973, 0xb7740311b0146782bb228613735755a8, 0x14a4e774428f86a14e059e6f77db9735, 0x9f07d44ae7b5f72d6728ba4f8b5ad996, 0x783e0e827a3c43a2e68d429870a86444, 0x9ed6f0fd3b898356dddef6f866a8cb3a, 0x3dd46c137e3f5775ac6ea52692d6e84f, 0xf64e2b2e01a1818581aae137a9a1f2ac, 0x61651fea6b5832b944e598a795a299f6, 0x7c9d30e6ed40cbc30e4292c6d87e2a65, 0xc2c57e31da2ff653d47f657d9736a3bc, 0xe325ada8d4bf8eff55cb32146561a494, 0xbf884491f010fcf92b42640baf97546a, 0x744ff1cc6c4147e96f55c63e138b0f6a, 0xf72d4a117bba9cee44bd30ca7a959c35, 0x31f9706e56dcd7c9dd3c39ec2fcb97ec, 0xcafd0f1dee4b13f4f9104edc7cd7c419, 0xc6b603373b7fff4c92f4024ed5a0366e, 0xfb4b047c029d81bde9408400053759bb, 0x5c12435b486ac2b0022c6b03d1e52223, 0xdeb4814466d6d45600cb1be4b63b5b3d, 0x1c8f0314c1ca2c6a235138002e3dec62, 0xaa94fa2a07db8f59b4fa968f61ea5bd8, 0xbaed1a1f49ca7f891ec3403efa66966e, 0x79a3d532b4dca977042a87c2811ee47a, 0xca74daf67fe0c93b13581fc7a95df199, 0x92d3f21915a271738441bd78c444ed45, 0x52525b16c4db307dfc4ce06bfdce9ed, 0x59a044e544805b9900ed08440dda5eba, 0xd6648859781bb4ef7800914cc52e273b, 0x28266451a0c9c61d9ad1a02c574e9631, 0x7c8647672078f3f4cd3c813afb78aa38, 0x92c0cf343ae063ad494fdfab6df42306, 0x5574a07cca7cd737aca6f91a6abde544, 0xbbada747894bc3dd879287c869f885c3, 0x386db41096f62a8af50e0632f2a35f5b, 0xefdb4540536482251843656b2ea8f397, 0x864204566cee644df1c52011971b40b3, 0x9f65220d0c78fc67048e86e374780c55, 0x6c3124a15e087d323caadfab02ea679d, 0x40e2dfc1450698cadca8758ed620dd7b, 0x217bea750913f0db29e30e4d37b882a1, 0x18cc9c758f82f3a62452c0f06b2d5154, 0xa2f988953ebab6d6ff4fc66638b9c77c, 0x8b621a33b1f55be1b5cf3dbe01503955, 0xa6403e49a18fdcec5bad32ffd131adf1, 0xc7213453b5a004318da7ee035acac1d8, 0xfab85890c72cf5bd42908c445873de98, 0x18fb3bc896b15739aba9209e72802626, 0xe2ae4c18bc72d0b5584b1b8ff9fdbe53, 0xbf7fe7e158f5e6b627fbbc64727757a3, 0x74349545e390b89fc3ef36c9b75a0400, 0xb377c7044aeb289debaf56677af1691d, 0xdd4a597abff1c6d46b3da5829a07e0f, 0x390a7a5685925c88fb31442bbbee4562, 0xef0226d7d8c4f9088d931140ce80f4ca, 0xc77a431b17442dc246bdf85b5f5764d5, 0xaaf58d8527dbb51e9cb66967210ef752, 0xbea766c2fd57dce012c3142c06e2acc1, 0x718b86e46755b667022ba9c65acbed68, 0xeba2e73f8e06f46e77a7af910537779d, 0x9a6d9a22e2bcf10bebbd0f52366f13ac, 0x30930047648b0f33ab2b66ce2a82776c, 0xdf6441de141c2ab56015a35f3e3c8cc5, 0x821656934ab0df98a24abe27faf17b9, 0x6186189d20b819418606bb0e28094f06, 0x2cb2ca78e3a46e6118637a81b61a75a5, 0x34d34d3086928aeaebacd53e52b72998, 0xc71c71c308249e75db490028e7b6cf92, 0xebaebefbebaeb6db75d751453cf3b6ac, 0x9a69a69a618618618a28a28a1451455a, 0x24924924924924926db6db6db6db6da4, 0x2]
def tL : List W := [0x295ac0b1f4731af9676aac9fa4b20b08, 0xe5da5595ee970b89929959af766af404, 0xe5da5595ee970b89929959af766af406, 0x4e9826c74350bfe67783f7333404a20c, 0xe5da5595ee970b89929959af766af402, 0x2aaea79ad7da34b07dc714cb83074e6a, 0x4e9826c74350bfe67783f7333404a204, 0xcc8095241ae41171f5f3f531d2d9fe18, 0xe5da5595ee970b89929959af766af412, 0x4e983687d159ce9677cb862e8ac85b44, 0x2aaea79ad7da34b07dc714cb83074e4a, 0xaae2ab6aaf144aaff73fcb3c06aaff56, 0x4e9826c74350bfe67783f7333404a244, 0xe62f327ccd5792dd893fe9ca40603f62, 0xcc8095241ae41171f5f3f531d2d9fe98, 0xab52f0323f47c90be1336bc7d453b626, 0xe5da5595ee970b89929959af766af512, 0x2abe34bad75338b479a6a089abf4573a, 0x4e983687d159ce9677cb862e8ac85944, 0x1e8ccb9dcc72f2e1a9cbef8232562fc, 0x2aaea79ad7da34b07dc714cb83074a4a, 0x2442c3221f3dc1a0ce869b24a80e48c, 0xaae2ab6aaf144aaff73fcb3c06aaf756, 0xcf64612f39c4323deb3ff936dd9aa228, 0x4e9826c74350bfe67783f7333404b244, 0xcc911696880d4909f0d5382a57572458, 0xe62f327ccd5792dd893fe9ca40601f62, 0x4d7cd7cc29d28cf2697f6478e5db2834, 0xcc8095241ae41171f5f3f531d2d9be98, 0xccc99127569146a7fc0956ca1a5b86a4, 0xab52f0323f47c90be1336bc7d4533626, 0x65cece94dacd5b1c14f5986b001eeb82, 0xe5da5595ee970b89929959af766bf512, 0x2b0e7fa2d509ca746fe27169c7c3e73a, 0x2abe34bad75338b479a6a089abf6573a, 0x65df4d264824132411d3553885980142, 0x4e983687d159ce9677cb862e8acc5944, 0xcf74f70e70ef2af7ef6fd21d2af671a4, 0x1e8ccb9dcc72f2e1a9cbef8232d62fc, 0xcec4b9173b16cdf9f91a9d8499490f58, 0x2aaea79ad7da34b07dc714cb83174a4a, 0x83f16f99175f624799a6cf206b513bdc, 0x2442c3221f3dc1a0ce869b24aa0e48c, 0x3f562a96a2aa9081b9e27ebe84671c0, 0xaae2ab6aaf144aaff73fcb3c06eaf756, 0xccc9c07ae11bcce3fcd6d526cddeebd4, 0xcf64612f39c4323deb3ff936dd1aa228, 0xa95fc803c09556f7e461dfebe8467196, 0x4e9826c74350bfe67783f7333504b244, 0x4cdc1ab0f0ab5b2e7b20ee03c15c7384, 0xcc911696880d4909f0d5382a55572458, 0xaaba68961da11d79fb48c8c7fe68cf6a, 0xe62f327ccd5792dd893fe9ca44601f62, 0xe5db5416ee209847938b5c70638d3bee, 0x4d7cd7cc29d28cf2697f6478eddb2834, 0x6437818b95e2e76e0b49fa26a7e512ce, 0xcc8095241ae41171f5f3f531c2d9be98, 0x4cd9020746184ba27868a299022ddf34, 0xccc99127569146a7fc0956ca3a5b86a4, 0x824171dcefbe4a8b8f1d24e407e8e76c, 0xab52f0323f47c90be1336bc794533626, 0xe62e22af1f6bf32b88711e202cdc3b5e, 0x65cece94dacd5b1c14f5986b801eeb82, 0x83f4672b23a92e499aadb85427b54520, 0xe5da5595ee970b89929959ae766bf512, 0x1040920971720048711dbeccf94c, 0x2b0e7fa2d509ca746fe2716bc7c3e73a, 0x81edd40a7a7437cb99d6b267d0d7976c, 0x2abe34bad75338b479a6a08dabf6573a, 0xe46a1e8deccdf96d84dd884d1a5d4462, 0x65df4d264824132411d3553085980142, 0x804c1cb1eac70f698ab1aeeb3a605920, 0x4e983687d159ce9677cb863e8acc5944, 0xa94f4b3252499e01e04514377dbd55aa, 0xcf74f70e70ef2af7ef6fd23d2af671a4, 0xe7d77da5831189d3978a93f3f56f619e, 0x1e8ccb9dcc72f2e1a9cbeb8232d62fc, 0x4cdd0f362b68e52a7a5109eab0a16ef4, 0xcec4b9173b16cdf9f91a9d0499490f58, 0xe4329c3d7bf233698830781e88d05912, 0x2aaea79ad7da34b07dc715cb83174a4a, 0x82082082597387418618bcbfcff334e0, 0x83f16f99175f624799a6cd206b513bdc, 0x294b124ed1181a846297e291f4adcc3a, 0x2442c3221f3dc1a0ce86db24aa0e48c, 0xe78fff41144664939b696b666550119e, 0x3f562a96a2aa9081b9e2febe84671c0, 0xcd78dbfd54a1436beb568d9e63d55a14, 0xaae2ab6aaf144aaff73fdb3c06eaf756, 0xccdd4e7b1ce38d0ffacabbbeed722b64, 0xccc9c07ae11bcce3fcd6f526cddeebd4, 0x3e5e1ccb1bf89c61fb4754fa43bbf3c, 0xcf64612f39c4323deb3fb936dd1aa228, 0xe5da00893461b455926f68f4172caea2, 0xa95fc803c09556f7e4615febe8467196, 0xe78ae2a77b3e87b1981cf1dccb9d1fd2, 0x4e9826c74350bfe67782f7333504b244, 0x2912d4222a675b0a6fd777b6c15f72c6, 0x4cdc1ab0f0ab5b2e7b22ee03c15c7384, 0xe7d6682e58d237f196f8740f85956fd2, 0xcc911696880d4909f0d1382a55572458, 0xab4366b0764a0b4be46143c933474626, 0xaaba68961da11d79fb40c8c7fe68cf6a, 0xe7d77d718378aeb397849bb7f7de0d9e, 0xe62f327ccd5792dd892fe9ca44601f62, 0x64231d9efb5729d60d13f9bd382e380e, 0xe5db5416ee20984793ab5c70638d3bee, 0x81b51ab7a5fe1499959811bd9a557220, 0x4d7cd7cc29d28cf2693f6478eddb2834, 0x295ab4bb43072c12678a4ee975a08406, 0x6437818b95e2e76e0bc9fa26a7e512ce, 0xab0eead38eb165ebef9e1acd25989a26, 0xcc8095241ae41171f4f3f531c2d9be98, 0x3ba7996db230c0010185b9b29b00000, 0x4cd9020746184ba27a68a299022ddf34, 0x8210932010890d058261f45338765990, 0xccc99127569146a7f80956ca3a5b86a4, 0x2a88e0fbb92f0c2c7f14722e3db361fa, 0x824171dcefbe4a8b871d24e407e8e76c, 0x29b11e87b8989fd86fb067f47d17578a, 0xab52f0323f47c90bf1336bc794533626, 0x0, 0xe62e22af1f6bf32ba8711e202cdc3b5e, 0x862e22af1f6bf32ba8711e202cdc3b6c, 0x65cece94dacd5b1c54f5986b801eeb82, 0x8e8cbdc6770aef73b1ef36f7c270bdac, 0x83f4672b23a92e491aadb85427b54520, 0x38b21c09fae1613c0db7ed8c3891e6fa]
theorem tX_ok : tX = (List.range 128).map fun i => X (2 * i) := by decide +kernel
theorem S_la (a : W) : S a = la a tX 0 := by
  refine ext (f := S) (g := fun a => la a tX 0) S_add (fun x y => la_add tX x y) (fun i hi => ?_) a
  show S (X i) = la (X i) tX 0
  rw [S_X, la_sm, sm_ext (q := fun j => decide (j = i)) (U := fun j => X (2 * j)) (n := tX.length) (fun j hj => by rw [Nat.zero_add]; exact X_bit i j hi) (fun j hj => ?_), sm_one, if_pos (by exact hi)]
  rw [tX_ok] at hj ⊢
  simp at hj
  simp [hj]
theorem tS_ok : ∀ k, k < 128 → la (tS.getD k 0#128) tX 0 = tS.getD (k + 1) 0#128 := by decide +kernel
theorem Ss_x : ∀ k, k ≤ 128 → Ss k (X 1) = tS.getD k 0#128
  | 0, _ => by decide
  | k + 1, h => by rw [Ss, Ss_x k (by omega), S_la, tS_ok k (by omega)]
theorem pw_x : pw (X 1) (2 ^ 128) = X 1 := by
  rw [← Ss_pw, Ss_x 128 (Nat.le_refl _)]; decide
/-- Each one, taken times itself so often, is what it was. -/
theorem pw_all (a : W) : pw a (2 ^ 128) = a := by
  rw [← Ss_pw]
  refine ext (f := fun a => Ss 128 a) (g := fun a => a) (fun x y => Ss_add x y 128) (fun _ _ => rfl) (fun i _ => ?_) a
  show Ss 128 (X i) = X i
  have e : X i = pw (X 1) i := by rw [pw_X, Nat.one_mul]
  have q : ∀ n, pw (pw (X 1) i) n = pw (pw (X 1) n) i := by
    intro n
    rw [← e, pw_X, pw_X, pw_X]; congr 1; rw [Nat.one_mul, Nat.mul_comm]
  rw [Ss_pw, e, q, pw_x]
theorem tL_ok : ∀ i, i < 128 → la (tX.getD i 0#128 ^^^ (1#128 <<< i)) tL 0 = if i = 0 then 0#128 else 1#128 <<< i := by decide +kernel
/-- What is its own square is 0 or 1. -/
theorem idem (a : W) (h : S a = a) : a = 0#128 ∨ a = 1#128 := by
  have key : la (S a ^^^ a) tL 0 = a ^^^ (if a.getLsbD 0 then 1#128 else 0#128) := by
    refine ext (f := fun a => la (S a ^^^ a) tL 0) (g := fun a => a ^^^ (if a.getLsbD 0 then 1#128 else 0#128)) (fun x y => ?_) (fun x y => ?_) (fun i hi => ?_) a
    · show la (S (x ^^^ y) ^^^ (x ^^^ y)) tL 0 = _
      rw [S_add, xac, la_add]
    · show (x ^^^ y) ^^^ _ = (x ^^^ _) ^^^ (y ^^^ _)
      rw [xac, BitVec.getLsbD_xor]
      cases x.getLsbD 0 <;> cases y.getLsbD 0 <;> simp
    · have e : tX.getD i 0#128 = X (2 * i) := by rw [tX_ok]; simp [hi]
      have := tL_ok i hi
      rw [e, ← X_lt i hi] at this
      show la (S (X i) ^^^ X i) tL 0 = X i ^^^ (if (X i).getLsbD 0 then 1#128 else 0#128)
      rw [S_X, this, X_bit i 0 hi]
      by_cases h0 : i = 0
      · subst h0; simp; decide
      · rw [if_neg h0, decide_eq_false (by omega)]; simp
  have z : la (S a ^^^ a) tL 0 = 0#128 := by rw [h, BitVec.xor_self]; exact zero_of (f := fun a => la a tL 0) (la_add tL)
  rw [z] at key
  cases hb : a.getLsbD 0
  · rw [hb] at key; left; simpa using key.symm
  · rw [hb] at key; right
    have := congrArg (· ^^^ 1#128) key
    simpa [BitVec.xor_assoc] using this.symm
theorem mul_inv (a : W) (h : a ≠ 0#128) : ∃ b, mul a b = 1#128 := by
  obtain ⟨n, hn⟩ : ∃ n, 2 ^ 128 = n + 2 := ⟨2 ^ 128 - 2, by decide⟩
  have h1 := pw_all a
  rw [hn] at h1
  have he : S (pw a (n + 1)) = pw a (n + 1) := by
    unfold S
    rw [← pw_add, show n + 1 + (n + 1) = (n + 2) + n by omega, pw_add, h1, mul_comm]; rfl
  rcases idem _ he with h0 | h0
  · exfalso
    apply h
    rw [← h1, show n + 2 = (n + 1) + 1 from rfl, pw, h0, zero_mul]
  · exact ⟨pw a n, by rw [mul_comm]; exact h0⟩
theorem mul_eq_zero (a b : W) : mul a b = 0#128 ↔ a = 0#128 ∨ b = 0#128 := by
  constructor
  · intro h
    by_cases ha : a = 0#128
    · exact Or.inl ha
    · obtain ⟨c, hc⟩ := mul_inv a ha
      right
      rw [← one_mul b, ← hc, mul_comm a c, mul_assoc, h, mul_zero]
  · rintro (rfl | rfl)
    · exact zero_mul b
    · exact mul_zero a
theorem xor_zero (a b : W) : a ^^^ b = 0#128 ↔ a = b := by
  constructor
  · intro h
    have := congrArg (· ^^^ b) h
    simpa [BitVec.xor_assoc] using this
  · rintro rfl; simp
theorem mul_inj {h : W} (hh : h ≠ 0#128) (a b : W) : mul a h = mul b h ↔ a = b := by
  constructor
  · intro e
    have : mul (a ^^^ b) h = 0#128 := by rw [add_mul, e, BitVec.xor_self]
    rcases (mul_eq_zero _ _).1 this with h1 | h1
    · exact (xor_zero a b).1 h1
    · exact (hh h1).elim
  · rintro rfl; rfl
/-! Blocks folded in -/
def fold (h : W) : W → List W → W
  | s, [] => s
  | s, b :: l => fold h (mul (s ^^^ b) h) l
theorem fold_app (h : W) (l m : List W) : ∀ s, fold h s (l ++ m) = fold h (fold h s l) m := by
  induction l with
  | nil => intro s; rfl
  | cons b l ih => intro s; exact ih _
theorem fold_add (h : W) : ∀ (l : List W) (x y : W), fold h x l ^^^ fold h y l = mul (x ^^^ y) (pw h l.length)
  | [], x, y => by rw [List.length_nil, pw, mul_one]; rfl
  | b :: l, x, y => by
    rw [fold, fold, fold_add h l, ← add_mul, xac, BitVec.xor_self, List.length_cons, show pw h (l.length + 1) = mul h (pw h l.length) by rw [pw, mul_comm], ← mul_assoc]
    simp
theorem fold_inj {h : W} (hh : h ≠ 0#128) : ∀ (l : List W) (x y : W), fold h x l = fold h y l ↔ x = y
  | [], _, _ => Iff.rfl
  | b :: l, x, y => by
    rw [fold, fold, fold_inj hh l, mul_inj hh]
    constructor
    · intro e
      have := congrArg (· ^^^ b) e
      simpa [BitVec.xor_assoc] using this
    · rintro rfl; rfl
/-- Two that differ in one block have two sums. -/
theorem fold_ne {h : W} (hh : h ≠ 0#128) (s : W) (l m : List W) {a b : W} (hab : a ≠ b) : fold h s (l ++ a :: m) ≠ fold h s (l ++ b :: m) := by
  intro e
  rw [fold_app, fold_app, fold, fold, fold_inj hh, mul_inj hh] at e
  apply hab
  have := congrArg (fold h s l ^^^ ·) e
  simpa [← BitVec.xor_assoc] using this
theorem fold_zero : ∀ (l : List W), l ≠ [] → ∀ s, fold 0#128 s l = 0#128
  | [b], _, s => by rw [fold, fold, mul_zero]
  | b :: c :: l, _, s => by rw [fold]; exact fold_zero (c :: l) (by simp) _
end Go.Proofs.Ytlihfdbfcklkmaa.Pad.Gh
