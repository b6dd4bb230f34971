/- The resolved language: operations over abstract values, and what a code comes to. -/
import Derived.Test.YtbikpgaiocjnoaaE1
set_option linter.unusedVariables false
set_option linter.unusedSimpArgs false
namespace Go.Proofs.Ytbikpgaiocjnoaa.Pad

structure Ent where
  t : Nat
  v : AV
  d : Prop
  k : Bool

abbrev St := List Ent
def St.env : St → Nat → AV
  | [], _ => .bad
  | e :: s, t => if e.t = t then e.v else St.env s t
def St.D : St → Nat → Prop
  | [], _ => False
  | e :: s, t => if e.t = t then e.d else St.D s t
def St.K : St → Nat → Bool
  | [], _ => false
  | e :: s, t => if e.t = t then e.k else St.K s t
def St.set (s : St) (t : Nat) (v : AV) (d : Prop) (k : Bool) : St := ⟨t, v, d, k⟩ :: s
/-- Does it point into what b has? -/
def AV.isTo (b : Nat) : AV → Bool
  | .ref b' _ => b' == b
  | .al b' => b' == b
  | .win b' _ _ => b' == b
  | _ => false
/-- A value that points into nothing that somebody has. -/
def AV.nr : AV → AV
  | .ref .. | .al _ | .win .. => .bad
  | x => x
/-- Does x point into what b has, and was that not made anew since? -/
def St.refOk : St → Nat → Nat → Bool
  | [], _, _ => false
  | e :: s, x, b => if e.t = x then e.v.isTo b else if e.t = b ∧ e.k = true then false else St.refOk s x b
def keepV (s : St) (t : Nat) : AV → AV
  | .ref b off => if s.refOk t b = true then .ref b off else .al t
  | .al b => if s.refOk t b = true then .al b else .al t
  | .win b off n => if s.refOk t b = true then .win b off n else .al t
  | x => x
def St.keep (s : St) : List Nat → St
  | [] => []
  | t :: V => ⟨t, keepV s t (s.env t), s.D t, false⟩ :: s.keep V

inductive RV where
  | t (n : Nat)
  | c (v : AV)

/-- The shape of cells that are compared. -/
inductive Sc where
  | i | b | s
  deriving DecidableEq

inductive R1 where
  | mov (x : RV)
  | steal (t : Nat)
  | pick (c x y : RV)
  | bin (op : BinOp) (ex : Bool) (x y : RV)
  | beq (ne : Bool) (sh : Option (List Sc)) (x y : RV)
  | un (op : UnOp) (x : RV)
  | conv (ex : Bool) (k : IntKind) (x : RV)
  | b2s (x : RV)
  | s2b (x : RV)
  | len (str : Bool) (x : RV)
  | sidx (x i : RV)
  | ssl (x : RV) (lo hi : Option RV)
  | slsl (sz : Nat) (x : RV) (lo hi : Option RV)
  | idxA (sz : Nat) (x i : RV)
  | fldP (off : Nat) (x : RV)
  | fldB (t off : Nat)
  | fldR (x : Nat) (b off : Nat)
  | idxB (t sz n : Nat) (i : RV)
  | idxR (x b sz n : Nat) (i : RV)
  | s2aR (x b sz n : Nat)
  | s2aP (n : Nat) (x : RV)
  | mkF (f : Nat) (as bs : List RV)
  | callF (x : RV) (as : List RV) (fs : List Nat)
  | loadP (x : RV) (n : Nat) (agg : Bool)
  | loadB (t : Nat) (n : Nat) (agg : Bool)
  | loadR (x b : Nat) (n : Nat) (agg : Bool)
  | stB (t n : Nat) (x : RV)
  | stR (x b : Nat) (n : Nat) (y : RV)
  | box (x : RV)
  | alloc (zero : List AV)
  | nilR (sz : Nat)
  | fld (off n : Nat) (agg : Bool) (x : RV)
  | aidx (sz len : Nat) (agg : Bool) (x i : RV)
  | build (zero : List AV) (parts : List (Nat × Nat × RV))
  | mkSl (sz n : Nat) (zero : List AV) (parts : List (Nat × Nat × RV))
  | mkSlM (sz n : Nat) (zero : List AV) (parts : List (Nat × Nat × RV))
  | app (sz bytes : Nat) (base : RV) (y : RV)
  | make (sz bytes : Nat) (zero : List AV) (l c : RV)
  | ext (x : RV) (i : Nat)
  | call (f : Nat) (args : List (Bool × RV))
  | mm (mx : Bool) (x y : RV)
  | s2bM (x : RV)
  | makeM (sz bytes : Nat) (zero : List AV) (l c : RV)
  | al (t : Nat)
  | idxM (x b sz : Nat) (i : RV)
  | lenM (x b : Nat)
  | b2sM (x b : Nat)
  | frz (t : Nat)
  | stealM (t : Nat)
  | rng (x : RV)
  | nxt (t : Nat)
  | idxG (g sz n : Nat) (xs : List AV) (i : RV)
  | loadG (g n : Nat) (agg : Bool) (xs : List AV)
  | nilM (sz : Nat)
  | appM (sz bytes t : Nat) (y : RV)
  | callB (f : Nat) (args : List (Bool × RV)) (b : Nat)
  | winB (t sz n : Nat) (lo hi : Option RV)
  | winX (x b sz : Nat) (lo hi : Option RV)
  | cpy (x b sz : Nat) (y : RV)
  | cpyV (x b sz y b2 : Nat)
  | nck (x b : Nat)
  | allocO (zero : List AV)
  | fldO (t off : Nat)
  | loadO (t n : Nat) (agg : Bool)
  | loadRO (x b n : Nat) (agg : Bool)
  | stO (t n : Nat) (x : RV)
  | stRO (x b n : Nat) (y : RV)
  | takeO (x b : Nat)
  | extO (t i : Nat)
  | putO (x b t : Nat)
  | mkI (t : Nat) (x : RV)
  | isNil (p ne : Bool) (x : RV)
  | isNilS (ne : Bool) (x : RV)
  | callL (f : Nat) (args : List (Option (Nat × Nat) × RV))
  | asI (t : Nat) (ok : Bool) (z : AV) (x : RV)
  | mkC (f b : Nat)
  | callC (x b : Nat) (args : List RV) (fs : List Nat)
  | mvW (x b : Nat)
  | wnV (x b sz : Nat)
  | winR (x b sz n : Nat) (lo hi : Option RV)

structure RO where
  d : Option Nat
  op : R1
  g : Option (Nat × Bool)

inductive RC where
  | skip
  | reg (draw : Bool) (ops : List RO) (V : List Nat)
  | seq (a b : RC)
  | cond (t : Nat) (a b : RC)
  | block (id : Nat) (a : RC)
  | loop (a : RC)
  | exit (id : Nat)
  | ret

inductive Ex where
  | normal | exit (id : Nat) | ret

def AV.toB : AV → Bool
  | .bool b => b
  | _ => false
def AV.isB : AV → Prop
  | .bool _ => True
  | _ => False
def AV.good : AV → Prop
  | .bad => False
  | _ => True
def AV.cells : AV → List AV
  | .agg xs => xs
  | x => [x]
def AV.byte : AV → UInt8
  | .int _ n => UInt8.ofNat n.toNat
  | _ => 0
def AV.isU8 : AV → Prop
  | .int .u8 _ => True
  | _ => False
def bytesAV (l : List UInt8) : List AV := l.map fun b => .int .u8 b.toNat

def inK : IntKind → Int → Prop
  | .i8, n => -128 ≤ n ∧ n ≤ 127
  | .i16, n => -32768 ≤ n ∧ n ≤ 32767
  | .i32, n => -2147483648 ≤ n ∧ n ≤ 2147483647
  | .i64, n => -9223372036854775808 ≤ n ∧ n ≤ 9223372036854775807
  | .u8, n => 0 ≤ n ∧ n ≤ 255
  | .u16, n => 0 ≤ n ∧ n ≤ 65535
  | .u32, n => 0 ≤ n ∧ n ≤ 4294967295
  | .u64, n => 0 ≤ n ∧ n ≤ 18446744073709551615

def St.raw (s : St) : RV → AV
  | .t n => s.env n
  | .c v => v
def St.rd (s : St) (x : RV) : AV := (s.raw x).share
def St.ok (s : St) : RV → Prop
  | .t n => s.D n
  | .c _ => True

def wr (ex : Bool) (k : IntKind) (n : Int) : Int := if ex then n else k.wrap n

def aInt (op : BinOp) (ex : Bool) (k : IntKind) (a b : Int) : AV :=
  match op with
  | .add => .int k (wr ex k (a + b))
  | .sub => .int k (wr ex k (a - b))
  | .mul => .int k (wr ex k (a * b))
  | .quo => .int k (wr ex k (a.tdiv b))
  | .rem => .int k (a.tmod b)
  | .shl => .int k (wr ex k (a * 2 ^ (min b.toNat k.bits)))
  | .shr => .int k (a.fdiv (2 ^ (min b.toNat k.bits)))
  | .and | .or | .xor | .andNot => .int k (bits op k a b)
  | .eql => .bool (decide (a = b))
  | .neq => .bool (!decide (a = b))
  | .lss => .bool (decide (a < b))
  | .leq => .bool (decide (a ≤ b))
  | .gtr => .bool (decide (b < a))
  | .geq => .bool (decide (b ≤ a))
def dInt (op : BinOp) (ex : Bool) (k k' : IntKind) (a b : Int) : Prop :=
  match op with
  | .add => k = k' ∧ (ex = true → inK k (a + b))
  | .sub => k = k' ∧ (ex = true → inK k (a - b))
  | .mul => k = k' ∧ (ex = true → inK k (a * b))
  | .quo => k = k' ∧ b ≠ 0 ∧ (ex = true → inK k (a.tdiv b))
  | .rem => k = k' ∧ b ≠ 0
  | .shl => 0 ≤ b ∧ (ex = true → inK k (a * 2 ^ (min b.toNat k.bits)))
  | .shr => 0 ≤ b
  | _ => k = k'
def aStr (op : BinOp) (a b : List UInt8) : AV :=
  match op with
  | .add => .str (a ++ b)
  | .eql => .bool (decide (a = b))
  | .neq => .bool (!decide (a = b))
  | .lss => .bool (Op.bytesLess a b)
  | .leq => .bool (Op.bytesLess a b || decide (a = b))
  | .gtr => .bool (!(Op.bytesLess a b || decide (a = b)))
  | .geq => .bool (!Op.bytesLess a b)
  | _ => .bad
def dStr (op : BinOp) (a b : List UInt8) : Prop :=
  match op with
  | .add => a.length + b.length ≤ 9223372036854775807
  | .eql | .neq | .lss | .leq | .gtr | .geq => True
  | _ => False
def eqAVs : List AV → List AV → Bool
  | [], [] => true
  | .int _ a :: xs, .int _ b :: ys => decide (a = b) && eqAVs xs ys
  | .bool a :: xs, .bool b :: ys => decide (a = b) && eqAVs xs ys
  | .str a :: xs, .str b :: ys => decide (a = b) && eqAVs xs ys
  | _, _ => false
def fitS : List Sc → List AV → List AV → Prop
  | [], [], [] => True
  | .i :: l, .int k _ :: xs, .int k' _ :: ys => k = k' ∧ fitS l xs ys
  | .b :: l, .bool _ :: xs, .bool _ :: ys => fitS l xs ys
  | .s :: l, .str _ :: xs, .str _ :: ys => fitS l xs ys
  | _, _, _ => False
def aBeq (ne : Bool) : AV → AV → AV
  | .bool a, .bool b => .bool (if ne then !(a == b) else a == b)
  | .agg xs, .agg ys => .bool (if ne then !(eqAVs xs ys) else eqAVs xs ys)
  | _, _ => .bad
def dBeq : Option (List Sc) → AV → AV → Prop
  | none, .bool _, .bool _ => True
  | some l, .agg xs, .agg ys => fitS l xs ys
  | _, _, _ => False
def aBin (op : BinOp) (ex : Bool) : AV → AV → AV
  | .int k a, .int _ b => aInt op ex k a b
  | .str a, .str b => aStr op a b
  | _, _ => .bad
def dBin (op : BinOp) (ex : Bool) : AV → AV → Prop
  | .int k a, .int k' b => dInt op ex k k' a b
  | .str a, .str b => dStr op a b
  | _, _ => False

def aUn (op : UnOp) : AV → AV
  | .bool b => .bool (!b)
  | .int k n => match op with
    | .neg => .int k (k.wrap (0 - n))
    | _ => .int k (bits .xor k (if k.signed then -1 else k.max) n)
  | _ => .bad
def dUn (op : UnOp) : AV → Prop
  | .bool _ => op = .not
  | .int _ _ => op = .neg ∨ op = .xor
  | _ => False
def aConv (ex : Bool) (k : IntKind) : AV → AV
  | .int _ n => .int k (wr ex k n)
  | _ => .bad
def dConv (ex : Bool) (k : IntKind) : AV → Prop
  | .int _ n => ex = true → inK k n
  | _ => False
def aB2s : AV → AV
  | .sl xs _ => .str (xs.map AV.byte)
  | _ => .bad
def dB2s : AV → Prop
  | .sl xs n => xs.length = n ∧ ∀ x ∈ xs, x.isU8
  | _ => False
def aS2b : AV → AV
  | .str l => .row 1 (bytesAV l) l.length
  | _ => .bad
def dS2b : AV → Prop
  | .str l => l.length ≤ 4611686018427387904
  | _ => False
def aLen : AV → AV
  | .sl _ n => .int .i64 n
  | .str l => .int .i64 l.length
  | _ => .bad
def dLen : Bool → AV → Prop
  | false, .sl _ _ => True
  | true, .str _ => True
  | _, _ => False
def aSidx : AV → AV → AV
  | .str l, .int _ i => .int .u8 (l.getD i.toNat 0).toNat
  | _, _ => .bad
def dSidx : AV → AV → Prop
  | .str l, .int _ i => 0 ≤ i ∧ i < l.length
  | _, _ => False
def AV.toI : AV → Int
  | .int _ n => n
  | _ => 0
def AV.isI : AV → Prop
  | .int _ _ => True
  | _ => False
/-- The bounds of a slice expression. -/
def lowOf (s : St) : Option RV → Int
  | none => 0
  | some x => (s.rd x).toI
def highOf (s : St) (n : Nat) : Option RV → Int
  | none => n
  | some x => (s.rd x).toI
def okO (s : St) : Option RV → Prop
  | none => True
  | some x => s.ok x ∧ (s.rd x).isI
def aSsl : AV → Int → Int → AV
  | .str l, lo, hi => .str ((l.take hi.toNat).drop lo.toNat)
  | _, _, _ => .bad
def AV.size : AV → Nat
  | .str l => l.length
  | .sl _ n => n
  | _ => 0
def dSsl : AV → Int → Int → Prop
  | .str l, lo, hi => 0 ≤ lo ∧ lo ≤ hi ∧ hi ≤ l.length
  | _, _, _ => False
def aSlsl (sz : Nat) : AV → Int → Int → AV
  | .sl xs _, lo, hi => .sl ((xs.take (hi.toNat * sz)).drop (lo.toNat * sz)) (hi.toNat - lo.toNat)
  | _, _, _ => .bad
def dSlsl (sz : Nat) : AV → Int → Int → Prop
  | .sl xs n, lo, hi => 0 ≤ lo ∧ lo ≤ hi ∧ hi ≤ n ∧ xs.length = n * sz
  | _, _, _ => False
def aIdxA (sz : Nat) : AV → AV → AV
  | .sl xs _, .int _ i => .ptr (xs.drop (i.toNat * sz))
  | _, _ => .bad
def dIdxA (sz : Nat) : AV → AV → Prop
  | .sl xs n, .int _ i => 0 ≤ i ∧ i < n ∧ xs.length = n * sz
  | _, _ => False
def aFldP (off : Nat) : AV → AV
  | .ptr xs => .ptr (xs.drop off)
  | _ => .bad
def dFldP (off : Nat) : AV → Prop
  | .ptr xs => off ≤ xs.length
  | _ => False
def aPart (off n : Nat) (agg : Bool) (xs : List AV) : AV := if agg then .agg ((xs.drop off).take n) else xs.getD off .bad
def dPart (off n : Nat) (agg : Bool) (xs : List AV) : Prop := if agg = true then off + n ≤ xs.length else off < xs.length
def AV.inner : AV → List AV
  | .obox xs | .otup xs | .ptr xs | .box xs | .clo _ xs | .agg xs | .tup xs | .sl xs _ | .row _ xs _ | .mrow _ xs _ => xs
  | _ => []
/-- Is it a thing that is written in place? -/
def AV.isOwn : AV → Prop
  | .box _ | .mrow .. | .clo .. => True
  | _ => False
/-- .. or a box that has things of its own. -/
def AV.isBig : AV → Prop
  | .box _ | .mrow .. | .clo .. | .obox _ => True
  | _ => False
/-- .. that a tuple may have. -/
def AV.isBigT : AV → Bool
  | .mrow .. | .obox _ => true
  | _ => false
def AV.isBigB : AV → Bool
  | .box _ | .mrow .. | .clo .. | .obox _ => true
  | _ => false
def AV.isOwnB : AV → Bool
  | .box _ | .mrow .. | .clo .. => true
  | _ => false
def AV.isM (sz : Nat) : AV → Prop
  | .mrow sz' _ _ => sz' = sz
  | _ => False
def AV.mlen : AV → Nat
  | .mrow _ _ n => n
  | _ => 0
def AV.withInner : AV → List AV → AV
  | .box _, ys => .box ys
  | .clo f _, ys => .clo f ys
  | .mrow sz _ n, ys => .mrow sz ys n
  | _, _ => .bad
def AV.isAl (b : Nat) : AV → Prop
  | .al b' => b' = b
  | _ => False
/-- A part of what b has, as a slice: all of it, or a window. -/
def AV.vOff : AV → Nat
  | .win _ off _ => off
  | _ => 0
def AV.vLen (y : AV) (x : AV) : Nat := match x with
  | .win _ _ n => n
  | _ => y.mlen
/-- x is such a part of what b has, which is y. -/
def AV.isView (x : AV) (b sz : Nat) (y : AV) : Prop := match x with
  | .al b' => b' = b ∧ y.isM sz
  | .win b' off n => b' = b ∧ y.isOwn ∧ off + n * sz ≤ y.inner.length
  | _ => False
/-- The cells of it. -/
def AV.vCells (sz : Nat) (y x : AV) : List AV := (y.inner.drop x.vOff).take (y.vLen x * sz)
/-- What is copied: how many, and the cells. -/
def AV.srcN : AV → Nat
  | .sl _ n => n
  | .str l => l.length
  | _ => 0
def AV.srcC : AV → List AV
  | .sl xs _ => xs
  | .str l => bytesAV l
  | _ => []
def AV.isSrc (sz : Nat) : AV → Prop
  | .sl xs n => xs.length = n * sz
  | .str _ => sz = 1
  | _ => False
def aMm (mx : Bool) : AV → AV → AV
  | .int k a, .int _ b => .int k (if mx then (if a < b then b else a) else if b < a then b else a)
  | _, _ => .bad
/-- The next rune of a text, and how wide it is. -/
def dec (l : List UInt8) (pos : Nat) : Nat × Nat := Utf8.decode ⟨l.toArray⟩ pos
def AV.rest : AV → AV
  | .iter l pos => if pos < l.length then .iter l (pos + (dec l pos).2) else .iter l pos
  | _ => .bad
def aNxt : AV → AV
  | .iter l pos => if pos < l.length then .tup [.bool true, .int .i64 pos, .int .i32 (dec l pos).1] else .tup [.bool false]
  | _ => .bad
def AV.isIter : AV → Prop
  | .iter .. => True
  | _ => False
def aRng : AV → AV
  | .str l => .iter l 0
  | _ => .bad
def AV.isStr : AV → Prop
  | .str _ => True
  | _ => False
def AV.thaw : AV → AV
  | .row sz xs n => .mrow sz xs n
  | _ => .bad
def AV.frozen : AV → AV
  | .mrow sz xs n => .row sz xs n
  | _ => .bad
def aB2sM : AV → AV
  | .mrow _ xs _ => .str (xs.map AV.byte)
  | _ => .bad
def dB2sM : AV → Prop
  | .mrow sz xs _ => sz = 1 ∧ ∀ x ∈ xs, x.isU8
  | _ => False
def AV.isPtr : AV → Prop
  | .ptr _ => True
  | _ => False
def AV.isBox : AV → Prop
  | .box _ => True
  | _ => False
def AV.isAgg : AV → Prop
  | .agg _ => True
  | _ => False
def AV.isTup : AV → Prop
  | .tup _ => True
  | _ => False
def AV.refOff : AV → Nat
  | .ref _ o => o
  | _ => 0
def AV.refTo (b : Nat) : AV → Prop
  | .ref b' _ => b' = b
  | _ => False
/-- May it lie in cells? -/
def AV.lies : AV → Prop
  | .agg xs => ∀ x ∈ xs, x.one = true
  | x => x.one = true
def splice (xs : List AV) (off : Nat) (ys : List AV) : List AV := xs.take off ++ ys ++ xs.drop (off + ys.length)
def fillAV (s : St) : List AV → List (Nat × Nat × RV) → List AV
  | cs, [] => cs
  | cs, (off, _, x) :: ps => fillAV s (splice cs off (s.rd x).cells) ps
def okParts (s : St) (len : Nat) : List (Nat × Nat × RV) → Prop
  | [] => True
  | (off, n, x) :: ps => s.ok x ∧ (s.rd x).lies ∧ (s.rd x).cells.length = n ∧ off + n ≤ len ∧ okParts s len ps
def aApp (sz : Nat) : AV → AV → AV
  | .row _ xs n, .sl ys m => .row sz (xs ++ ys) (n + m)
  | .row _ xs n, .str l => .row sz (xs ++ bytesAV l) (n + l.length)
  | _, _ => .bad
def aAppM (sz : Nat) : AV → AV → AV
  | .mrow _ xs n, .sl ys m => .mrow sz (xs ++ ys) (n + m)
  | .mrow _ xs n, .str l => .mrow sz (xs ++ bytesAV l) (n + l.length)
  | _, _ => .bad
def dAppM (sz bytes : Nat) : AV → AV → Prop
  | .mrow sz' xs n, .sl ys m => sz' = sz ∧ xs.length = n * sz ∧ ys.length = m * sz ∧ (n + m) * bytes ≤ 70368744177664 ∧ n + m ≤ 4611686018427387904
  | .mrow sz' xs n, .str l => sz' = sz ∧ sz = 1 ∧ bytes = 1 ∧ xs.length = n ∧ n + l.length ≤ 70368744177664
  | _, _ => False
def dApp (sz bytes : Nat) : AV → AV → Prop
  | .row sz' xs n, .sl ys m => sz' = sz ∧ xs.length = n * sz ∧ ys.length = m * sz ∧ (n + m) * bytes ≤ 70368744177664 ∧ n + m ≤ 4611686018427387904
  | .row sz' xs n, .str l => sz' = sz ∧ sz = 1 ∧ bytes = 1 ∧ xs.length = n ∧ n + l.length ≤ 70368744177664
  | _, _ => False
def repeatAV (zero : List AV) : Nat → List AV
  | 0 => []
  | n + 1 => zero ++ repeatAV zero n
def aMake (sz : Nat) (zero : List AV) : AV → AV
  | .int _ l => .row sz (repeatAV zero l.toNat) l.toNat
  | _ => .bad
def dMake (bytes : Nat) : AV → AV → Prop
  | .int _ l, .int _ c => 0 ≤ l ∧ l ≤ c ∧ (bytes : Int) * c ≤ 70368744177664 ∧ c ≤ 4611686018427387904
  | _, _ => False

def argAV (s : St) : List (Bool × RV) → List AV
  | [] => []
  | (true, x) :: as => s.raw x :: argAV s as
  | (false, x) :: as => s.rd x :: argAV s as
/-- What may be handed over: what is only read, or a thing of one's own. -/
def okOwn (b : Bool) (x : AV) : Prop := match b with
  | true => match x with
    | .box _ | .mrow .. | .clo .. | .obox _ | .otup _ => True
    | x => x.share.good
  | false => x.share.good
def okArgs (s : St) : List (Bool × RV) → Prop
  | [] => True
  | (b, x) :: as => s.ok x ∧ okOwn b (s.raw x) ∧ okArgs s as
/-- The arguments, of which one is written in place: it is what b has. -/
def argB (s : St) (b : Nat) : List (Bool × RV) → List AV
  | [] => []
  | (true, _) :: as => s.env b :: argB s b as
  | (false, x) :: as => s.rd x :: argB s b as
def isOf (s : St) (b : Nat) : RV → Prop
  | .t n => n = b ∨ (s.D n ∧ (match s.env n with | .al b' => b' = b | _ => False) ∧ s.refOk n b = true)
  | .c _ => False
def okArgsB (s : St) (b : Nat) : List (Bool × RV) → Prop
  | [] => True
  | (true, x) :: as => isOf s b x ∧ okArgsB s b as
  | (false, x) :: as => s.ok x ∧ (s.rd x).good ∧ okArgsB s b as
/-- Functions whose argument is written in place stand in the tables behind this number. -/
@[irreducible] def inPlace : Nat := 1048576

abbrev Tab := Nat → List AV → Option AV
def okVals (s : St) : List RV → Prop
  | [] => True
  | x :: xs => s.ok x ∧ (s.rd x).good ∧ okVals s xs
def valsAV (s : St) : List RV → List AV
  | [] => []
  | x :: xs => s.rd x :: valsAV s xs
/-- A slice that has so many, and an address. -/
def AV.hasN (n : Nat) : AV → Prop
  | .sl _ m => 0 < n ∧ n ≤ m
  | _ => False
/-- A call of a function that is a value. -/
def aCallF (T : Tab) (zs : List AV) : AV → AV
  | .fn f xs ys => (T f (xs ++ zs ++ ys)).getD .bad
  | _ => .bad
def dCallF (T : Tab) (fs : List Nat) (zs : List AV) : AV → Prop
  | .fn f xs ys => fs.contains f = true ∧ (T f (xs ++ zs ++ ys)).isSome = true
  | _ => False

/-- A closure over a box of its own. -/
def AV.isClo : AV → Prop
  | .clo .. => True
  | _ => False
def aCallC (T : Tab) (zs : List AV) : AV → AV
  | .clo f xs => ((T (f + inPlace) (zs ++ [.box xs])).getD .bad).inner.getD 0 .bad
  | _ => .bad
def nCallC (T : Tab) (zs : List AV) : AV → AV
  | .clo f xs => .clo f ((((T (f + inPlace) (zs ++ [.box xs])).getD .bad).inner.getD 1 .bad).inner)
  | _ => .bad
def dCallC (T : Tab) (fs : List Nat) (zs : List AV) : AV → Prop
  | .clo f xs => fs.contains f = true ∧ ∃ r ys, T (f + inPlace) (zs ++ [.box xs]) = some (.tup [r, .box ys])
  | _ => False
/-- The same pointer into what b has, or the same part of it. -/
def AV.viewTo (b : Nat) : AV → AV
  | .ref _ off => .ref b off
  | .al _ => .al b
  | .win _ off n => .win b off n
  | _ => .bad

/-- A box that may have rows; a row; what may be read. -/
def AV.isOBox : AV → Prop
  | .obox _ => True
  | _ => False
def AV.isRow : AV → Prop
  | .row .. => True
  | _ => False
def allGood : List AV → Prop
  | [] => True
  | x :: xs => x.share.good ∧ allGood xs
/-- Of the cells of a box, those that are asked for may be read. -/
def partGood (off n : Nat) (agg : Bool) (xs : List AV) : Prop := if agg = true then allGood ((xs.drop off).take n) else (xs.getD off .bad).share.good
def AV.isOTup : AV → Prop
  | .otup _ => True
  | _ => False
def AV.isTreeB : AV → Bool
  | .row .. | .mrow .. | .obox _ => true
  | _ => false
/-- What is left where it was taken. -/
def AV.left : AV → AV
  | .row .. | .mrow .. | .obox _ => .bad
  | x => x
/-- What a tuple may have that is owned. -/
def AV.isComp : AV → Prop
  | .bad | .ref .. | .al _ | .win .. | .iter .. | .box _ | .clo .. | .otup _ => False
  | _ => True
/-- What may be moved out of a box, and into it. -/
def AV.isTree : AV → Prop
  | .row .. | .mrow .. | .obox _ => True
  | _ => False
/-- Is it nil? -/
def aIsNil (ne : Bool) : AV → AV
  | .nilI | .nilP => .bool (!ne)
  | _ => .bool ne
def dIsNil : Bool → AV → Prop
  | false, .nilI | false, .ifc .. | true, .nilP | true, .ptr _ => True
  | _, _ => False
/-- Is a slice nil? Of one that is empty that is not known. -/
def aNilS (ne : Bool) : AV → AV
  | .nilS _ => .bool (!ne)
  | .sl _ n => if n = 0 then .anyB else .bool ne
  | _ => .bad
def dNilS : AV → Prop
  | .sl .. | .nilS _ => True
  | _ => False
/-- What a condition may be. -/
def AV.isC : AV → Prop
  | .bool _ | .anyB => True
  | _ => False
def AV.mayT : AV → Bool
  | .bool b => b
  | .anyB => true
  | _ => false
def AV.mayF : AV → Bool
  | .bool b => !b
  | .anyB => true
  | _ => false
def AV.isAny : AV → Bool
  | .anyB => true
  | _ => false
/-! What is lent: a thing of one's own, to be read only, for as long as a call takes. -/
mutual
def AV.lendC : AV → AV
  | .row _ xs n => .sl xs n
  | .mrow _ xs n => .sl xs n
  | .obox xs => .ptr (lendCs xs)
  | x => x
def lendCs : List AV → List AV
  | [] => []
  | x :: xs => x.lendC :: lendCs xs
end
mutual
/-- Nothing of it was moved out. -/
def AV.whole : AV → Prop
  | .bad => False
  | .obox xs => wholes xs
  | _ => True
def wholes : List AV → Prop
  | [] => True
  | x :: xs => x.whole ∧ wholes xs
end
def AV.lend : AV → AV
  | .mrow _ xs n => .sl xs n
  | .box xs => .ptr xs
  | .obox xs => .ptr (lendCs xs)
  | _ => .bad
def AV.lendCells : AV → List AV
  | .mrow _ xs _ => xs
  | .box xs => xs
  | .obox xs => lendCs xs
  | _ => []
def AV.isLend : AV → Prop
  | .mrow .. | .box _ => True
  | .obox xs => wholes xs
  | _ => False
def lendX (y : AV) (sz : Nat) : AV → AV
  | .al _ => y.lend
  | .win _ off k => .sl ((y.lendCells.drop off).take (k * sz)) k
  | .ref _ off => .ptr (y.lendCells.drop off)
  | _ => .bad
def winFits (y : AV) (sz : Nat) : AV → Prop
  | .win _ off k => off + k * sz ≤ y.lendCells.length
  | .al _ | .ref .. => True
  | _ => False
def lendA (s : St) (b sz : Nat) : RV → AV
  | .c _ => .bad
  | .t n => if n = b then (s.env b).lend else lendX (s.env b) sz (s.env n)
def okLend (s : St) (b sz : Nat) : RV → Prop
  | .c _ => False
  | .t n => s.D b ∧ (s.env b).isLend ∧ (n = b ∨ (s.D n ∧ s.refOk n b = true ∧ winFits (s.env b) sz (s.env n)))
def argLs (s : St) : List (Option (Nat × Nat) × RV) → List AV
  | [] => []
  | (some (b, sz), x) :: as => lendA s b sz x :: argLs s as
  | (none, x) :: as => s.rd x :: argLs s as
def okLs (s : St) : List (Option (Nat × Nat) × RV) → Prop
  | [] => True
  | (some (b, sz), x) :: as => okLend s b sz x ∧ okLs s as
  | (none, x) :: as => s.ok x ∧ (s.rd x).good ∧ okLs s as
mutual
/-- It points to nothing. -/
def AV.flat : AV → Prop
  | .int .. | .bool _ | .str _ | .nilI | .nilP | .nilF | .nilS _ | .anyB => True
  | .ifc _ x => x.flat
  | .agg xs => flats xs
  | .tup xs => flats xs
  | .fn _ xs ys => flats xs ∧ flats ys
  | _ => False
def flats : List AV → Prop
  | [] => True
  | x :: xs => x.flat ∧ flats xs
end
/-- It has nothing of anybody else's: what may be told of things that were lent. -/
def AV.apartR : AV → Prop
  | .row _ xs _ => flats xs
  | .mrow _ xs _ => flats xs
  | .box xs => flats xs
  | x => x.flat
/-- What an interface value holds, as one of this type. -/
def aAsI (t : Nat) (ok : Bool) (z : AV) : AV → AV
  | .ifc t' x => if ok then (if t' = t then .tup [x, .bool true] else .tup [z, .bool false]) else x
  | _ => .tup [z, .bool false]
def dAsI (t : Nat) (ok : Bool) : AV → Prop
  | .ifc t' _ => ok = true ∨ t' = t
  | .nilI => ok = true
  | _ => False

def val (T : Tab) (s : St) : R1 → AV
  | .mov x => s.rd x
  | .steal t => s.env t
  | .pick c x y => if (s.rd c).toB = true then s.rd x else s.rd y
  | .bin op ex x y => aBin op ex (s.rd x) (s.rd y)
  | .beq ne _ x y => aBeq ne (s.rd x) (s.rd y)
  | .un op x => aUn op (s.rd x)
  | .conv ex k x => aConv ex k (s.rd x)
  | .b2s x => aB2s (s.rd x)
  | .s2b x => aS2b (s.rd x)
  | .len _ x => aLen (s.rd x)
  | .sidx x i => aSidx (s.rd x) (s.rd i)
  | .ssl x lo hi => aSsl (s.rd x) (lowOf s lo) (highOf s (s.rd x).size hi)
  | .slsl sz x lo hi => aSlsl sz (s.rd x) (lowOf s lo) (highOf s (s.rd x).size hi)
  | .idxA sz x i => aIdxA sz (s.rd x) (s.rd i)
  | .fldP off x => aFldP off (s.rd x)
  | .fldB t off => .ref t off
  | .fldR x b off => .ref b ((s.env x).refOff + off)
  | .idxB t sz _ i => .ref t ((s.rd i).toI.toNat * sz)
  | .s2aR x b _ _ => .ref b (s.env x).vOff
  | .s2aP _ x => .ptr (s.rd x).inner
  | .mkF f as bs => .fn f (valsAV s as) (valsAV s bs)
  | .callF x as _ => aCallF T (valsAV s as) (s.rd x)
  | .idxR x b sz _ i => .ref b ((s.env x).refOff + (s.rd i).toI.toNat * sz)
  | .loadP x n agg => aPart 0 n agg (s.rd x).inner
  | .loadB t n agg => aPart 0 n agg (s.env t).inner
  | .loadR x b n agg => aPart (s.env x).refOff n agg (s.env b).inner
  | .stB .. | .stR .. => .bad
  | .box x => .box (s.rd x).cells
  | .alloc zero => .box zero
  | .nilR sz => .row sz [] 0
  | .fld off n agg x => aPart off n agg (s.rd x).inner
  | .aidx sz _ agg x i => aPart ((s.rd i).toI.toNat * sz) sz agg (s.rd x).inner
  | .build zero parts => .agg (fillAV s zero parts)
  | .mkSl sz n zero parts => .row sz (fillAV s zero parts) n
  | .mkSlM sz n zero parts => .mrow sz (fillAV s zero parts) n
  | .app sz _ base y => aApp sz (s.raw base) (s.rd y)
  | .make sz _ zero l _ => aMake sz zero (s.rd l)
  | .ext x i => (s.rd x).inner.getD i .bad
  | .call f args => (T f (argAV s args)).getD .bad
  | .mm mx x y => aMm mx (s.rd x) (s.rd y)
  | .s2bM x => (aS2b (s.rd x)).thaw
  | .makeM sz _ zero l _ => (aMake sz zero (s.rd l)).thaw
  | .al t => .al t
  | .nck _ b => .ref b 0
  | .mkI t x => .ifc t (s.rd x)
  | .allocO zero => .obox (zero.map AV.toO)
  | .fldO t off => .ref t off
  | .loadO t n agg => aPart 0 n agg ((s.env t).inner.map AV.share)
  | .loadRO x b n agg => aPart (s.env x).refOff n agg ((s.env b).inner.map AV.share)
  | .stO .. | .stRO .. | .putO .. => .bad
  | .takeO x b => (s.env b).inner.getD (s.env x).refOff .bad
  | .extO t i => (s.env t).inner.getD i .bad
  | .isNil _ ne x => aIsNil ne (s.rd x)
  | .isNilS ne x => aNilS ne (s.rd x)
  | .callL f as => (T f (argLs s as)).getD .bad
  | .asI t ok z x => aAsI t ok z.share (s.rd x)
  | .idxM x b sz i => .ref b ((s.env x).vOff + (s.rd i).toI.toNat * sz)
  | .lenM x b => .int .i64 ((s.env b).vLen (s.env x))
  | .b2sM x b => .str ((AV.vCells 1 (s.env b) (s.env x)).map AV.byte)
  | .frz t => (s.env t).frozen
  | .stealM t => s.env t
  | .rng x => aRng (s.rd x)
  | .nxt t => aNxt (s.env t)
  | .idxG _ sz _ xs i => .ptr (xs.drop ((s.rd i).toI.toNat * sz))
  | .loadG _ n agg xs => aPart 0 n agg xs
  | .nilM sz => .mrow sz [] 0
  | .appM sz _ t y => aAppM sz (s.env t) (s.rd y)
  | .callB f args b => ((T (f + inPlace) (argB s b args)).getD .bad).inner.getD 0 .bad
  | .winB t sz n lo hi => .win t ((lowOf s lo).toNat * sz) ((highOf s n hi).toNat - (lowOf s lo).toNat)
  | .winX x b sz lo hi => .win b ((s.env x).vOff + (lowOf s lo).toNat * sz) ((highOf s ((s.env b).vLen (s.env x)) hi).toNat - (lowOf s lo).toNat)
  | .cpy x b _ y => .int .i64 (min ((s.env b).vLen (s.env x)) (s.rd y).srcN : Nat)
  | .cpyV x b _ y b2 => .int .i64 (min ((s.env b).vLen (s.env x)) ((s.env b2).vLen (s.env y)) : Nat)
  | .mkC f b => .clo f (s.env b).inner
  | .callC _ b as _ => aCallC T (valsAV s as) (s.env b)
  | .mvW x b => (s.env x).viewTo b
  | .wnV x b _ => .win b (s.env x).vOff ((s.env b).vLen (s.env x))
  | .winR x b sz n lo hi => .win b ((s.env x).refOff + (lowOf s lo).toNat * sz) ((highOf s n hi).toNat - (lowOf s lo).toNat)

def dfn (T : Tab) (s : St) : R1 → Prop
  | .mov x => s.ok x ∧ (s.rd x).good
  | .steal t => s.D t ∧ (s.env t).share.good
  | .pick c x y => s.ok c ∧ (s.rd c).isB ∧ ((s.rd c).toB = true → s.ok x ∧ (s.rd x).good) ∧ ((s.rd c).toB = false → s.ok y ∧ (s.rd y).good)
  | .bin op ex x y => s.ok x ∧ s.ok y ∧ dBin op ex (s.rd x) (s.rd y)
  | .beq _ sh x y => s.ok x ∧ s.ok y ∧ dBeq sh (s.rd x) (s.rd y)
  | .un op x => s.ok x ∧ dUn op (s.rd x)
  | .conv ex k x => s.ok x ∧ dConv ex k (s.rd x)
  | .b2s x => s.ok x ∧ dB2s (s.rd x)
  | .s2b x => s.ok x ∧ dS2b (s.rd x)
  | .len str x => s.ok x ∧ dLen str (s.rd x)
  | .sidx x i => s.ok x ∧ s.ok i ∧ dSidx (s.rd x) (s.rd i)
  | .ssl x lo hi => s.ok x ∧ okO s lo ∧ okO s hi ∧ dSsl (s.rd x) (lowOf s lo) (highOf s (s.rd x).size hi)
  | .slsl sz x lo hi => s.ok x ∧ okO s lo ∧ okO s hi ∧ dSlsl sz (s.rd x) (lowOf s lo) (highOf s (s.rd x).size hi)
  | .idxA sz x i => s.ok x ∧ s.ok i ∧ dIdxA sz (s.rd x) (s.rd i)
  | .fldP off x => s.ok x ∧ dFldP off (s.rd x)
  | .fldB t _ => s.D t ∧ (s.env t).isBox
  | .fldR x b _ => s.D x ∧ (s.env x).refTo b ∧ s.refOk x b = true
  | .idxB t _ n i => s.D t ∧ (s.env t).isBox ∧ s.ok i ∧ (s.rd i).isI ∧ 0 ≤ (s.rd i).toI ∧ (s.rd i).toI < n
  | .s2aR x b sz n => s.D x ∧ s.refOk x b = true ∧ s.D b ∧ (s.env x).isView b sz (s.env b) ∧ 0 < n ∧ n ≤ (s.env b).vLen (s.env x)
  | .s2aP n x => s.ok x ∧ (s.rd x).hasN n
  | .mkF _ as bs => okVals s as ∧ okVals s bs
  | .callF x as fs => s.ok x ∧ okVals s as ∧ dCallF T fs (valsAV s as) (s.rd x)
  | .idxR x b _ n i => (s.D x ∧ (s.env x).refTo b ∧ s.refOk x b = true) ∧ s.ok i ∧ (s.rd i).isI ∧ 0 ≤ (s.rd i).toI ∧ (s.rd i).toI < n
  | .loadP x n agg => s.ok x ∧ (s.rd x).isPtr ∧ dPart 0 n agg (s.rd x).inner
  | .loadB t n agg => s.D t ∧ (s.env t).isBox ∧ dPart 0 n agg (s.env t).inner
  | .loadR x b n agg => s.D x ∧ (s.env x).refTo b ∧ s.refOk x b = true ∧ s.D b ∧ (s.env b).isOwn ∧ dPart (s.env x).refOff n agg (s.env b).inner
  | .stB t n x => s.D t ∧ (s.env t).isBox ∧ s.ok x ∧ (s.rd x).lies ∧ (s.rd x).cells.length = n ∧ (s.env t).inner.length = n
  | .stR x b n y => s.D x ∧ (s.env x).refTo b ∧ s.refOk x b = true ∧ s.D b ∧ (s.env b).isOwn ∧ s.ok y ∧ (s.rd y).lies ∧ (s.rd y).cells.length = n ∧ (s.env x).refOff + n ≤ (s.env b).inner.length
  | .box x => s.ok x ∧ (s.rd x).lies
  | .alloc _ => True
  | .nilR _ => True
  | .fld off n agg x => s.ok x ∧ (s.rd x).isAgg ∧ dPart off n agg (s.rd x).inner
  | .aidx sz len agg x i => s.ok x ∧ (s.rd x).isAgg ∧ s.ok i ∧ (s.rd i).isI ∧ 0 ≤ (s.rd i).toI ∧ (s.rd i).toI < len ∧ dPart ((s.rd i).toI.toNat * sz) sz agg (s.rd x).inner
  | .build zero parts => okParts s zero.length parts
  | .mkSl sz n zero parts | .mkSlM sz n zero parts => okParts s zero.length parts ∧ zero.length = n * sz
  | .app sz bytes base y => s.ok base ∧ s.ok y ∧ dApp sz bytes (s.raw base) (s.rd y)
  | .make _ bytes _ l c => s.ok l ∧ s.ok c ∧ dMake bytes (s.rd l) (s.rd c)
  | .ext x i => s.ok x ∧ (s.rd x).isTup ∧ i < (s.rd x).inner.length
  | .call f args => okArgs s args ∧ (T f (argAV s args)).isSome = true
  | .mm _ x y => s.ok x ∧ s.ok y ∧ (s.rd x).isI ∧ (s.rd y).isI
  | .s2bM x => s.ok x ∧ dS2b (s.rd x)
  | .makeM _ bytes _ l c => s.ok l ∧ s.ok c ∧ dMake bytes (s.rd l) (s.rd c)
  | .al t => s.D t
  | .mkI _ x => s.ok x ∧ (s.rd x).good
  | .allocO _ => True
  | .fldO t _ => s.D t ∧ (s.env t).isOBox
  | .loadO t n agg => s.D t ∧ (s.env t).isOBox ∧ partGood 0 n agg (s.env t).inner ∧ dPart 0 n agg ((s.env t).inner.map AV.share)
  | .loadRO x b n agg => s.D x ∧ (s.env x).refTo b ∧ s.refOk x b = true ∧ s.D b ∧ (s.env b).isOBox ∧ partGood (s.env x).refOff n agg (s.env b).inner ∧ dPart (s.env x).refOff n agg ((s.env b).inner.map AV.share)
  | .stO t n x => s.D t ∧ (s.env t).isOBox ∧ s.ok x ∧ (s.rd x).lies ∧ (s.rd x).cells.length = n ∧ (s.env t).inner.length = n
  | .stRO x b n y => s.D x ∧ (s.env x).refTo b ∧ s.refOk x b = true ∧ s.D b ∧ (s.env b).isOBox ∧ s.ok y ∧ (s.rd y).lies ∧ (s.rd y).cells.length = n ∧ (s.env x).refOff + n ≤ (s.env b).inner.length
  | .takeO x b => s.D x ∧ (s.env x).refTo b ∧ s.refOk x b = true ∧ s.D b ∧ (s.env b).isOBox ∧ ((s.env b).inner.getD (s.env x).refOff .bad).isTree
  | .extO t i => s.D t ∧ (s.env t).isOTup ∧ ((s.env t).inner.getD i .bad).isComp
  | .putO x b t => s.D x ∧ (s.env x).refTo b ∧ s.refOk x b = true ∧ s.D b ∧ (s.env b).isOBox ∧ s.D t ∧ (s.env t).isTree ∧ (s.env x).refOff < (s.env b).inner.length
  | .isNil p _ x => s.ok x ∧ dIsNil p (s.rd x)
  | .isNilS _ x => s.ok x ∧ dNilS (s.rd x)
  | .callL f as => okLs s as ∧ ∃ r, T f (argLs s as) = some r ∧ r.apartR
  | .asI t ok _ x => s.ok x ∧ dAsI t ok (s.rd x)
  | .nck x b => s.D x ∧ (s.env x).isAl b ∧ s.refOk x b = true ∧ s.D b ∧ (s.env b).isBox
  | .idxM x b sz i => s.D x ∧ s.refOk x b = true ∧ s.D b ∧ (s.env x).isView b sz (s.env b) ∧ s.ok i ∧ (s.rd i).isI ∧ 0 ≤ (s.rd i).toI ∧ (s.rd i).toI < (s.env b).vLen (s.env x)
  | .lenM x b => s.D x ∧ s.refOk x b = true ∧ s.D b ∧ ∃ sz, (s.env x).isView b sz (s.env b)
  | .b2sM x b => s.D x ∧ s.refOk x b = true ∧ s.D b ∧ (s.env x).isView b 1 (s.env b) ∧ ∀ c ∈ AV.vCells 1 (s.env b) (s.env x), c.isU8
  | .frz t => s.D t ∧ ∃ sz, (s.env t).isM sz
  | .stealM t => s.D t ∧ (s.env t).isBig
  | .rng x => s.ok x ∧ (s.rd x).isStr
  | .nxt t => s.D t ∧ (s.env t).isIter
  | .idxG _ sz n xs i => s.ok i ∧ (s.rd i).isI ∧ 0 ≤ (s.rd i).toI ∧ (s.rd i).toI < n ∧ xs.length = n * sz
  | .loadG _ n agg xs => dPart 0 n agg xs
  | .nilM _ => True
  | .appM sz bytes t y => s.D t ∧ s.ok y ∧ dAppM sz bytes (s.env t) (s.rd y)
  | .winB t _ n lo hi => s.D t ∧ (s.env t).isBox ∧ okO s lo ∧ okO s hi ∧ 0 ≤ lowOf s lo ∧ lowOf s lo ≤ highOf s n hi ∧ highOf s n hi ≤ n
  | .winX x b sz lo hi => s.D x ∧ s.refOk x b = true ∧ s.D b ∧ (s.env x).isView b sz (s.env b) ∧ okO s lo ∧ okO s hi ∧ 0 ≤ lowOf s lo ∧ lowOf s lo ≤ highOf s ((s.env b).vLen (s.env x)) hi ∧ highOf s ((s.env b).vLen (s.env x)) hi ≤ (s.env b).vLen (s.env x)
  | .cpy x b sz y => s.D x ∧ s.refOk x b = true ∧ s.D b ∧ (s.env x).isView b sz (s.env b) ∧ s.ok y ∧ (s.rd y).isSrc sz
  | .cpyV x b sz y b2 => s.D x ∧ s.refOk x b = true ∧ s.D b ∧ (s.env x).isView b sz (s.env b) ∧ s.D y ∧ s.refOk y b2 = true ∧ s.D b2 ∧ (s.env y).isView b2 sz (s.env b2)
  | .mkC _ b => s.D b ∧ (s.env b).isBox
  | .callC x b as fs => s.D x ∧ (s.env x).isAl b ∧ s.refOk x b = true ∧ s.D b ∧ okVals s as ∧ dCallC T fs (valsAV s as) (s.env b)
  | .mvW x b => s.D x ∧ s.refOk x b = true
  | .wnV x b sz => s.D x ∧ s.refOk x b = true ∧ s.D b ∧ (s.env x).isView b sz (s.env b)
  | .winR x b _ n lo hi => s.D x ∧ (s.env x).refTo b ∧ s.refOk x b = true ∧ okO s lo ∧ okO s hi ∧ 0 ≤ lowOf s lo ∧ lowOf s lo ≤ highOf s n hi ∧ highOf s n hi ≤ n
  | .callB f args b => okArgsB s b args ∧ s.D b ∧ (s.env b).isBig ∧ ∃ r x, T (f + inPlace) (argB s b args) = some (.tup [r, x])

/-- What has gone to somebody else is only read from then on. -/
def St.give (s : St) : RV → St
  | .t n => s.set n (s.env n).share (s.D n ∧ (s.env n).share.good) false
  | .c _ => s
def giveArgs (s : St) : List (Bool × RV) → St
  | [] => s
  | (true, x) :: as => giveArgs (s.give x) as
  | (false, _) :: as => giveArgs s as
def pre (T : Tab) (s : St) : R1 → St
  | .steal t => s.give (.t t)
  | .app _ _ base _ => s.give base
  | .call _ args => giveArgs s args
  | .frz t | .stealM t | .mkC _ t => s.set t .bad False false
  | .callC _ b as _ => s.set b (nCallC T (valsAV s as) (s.env b)) True false
  | .nxt t => s.set t (s.env t).rest (s.D t) false
  | .stO t _ x => s.set t (.obox ((s.rd x).cells.map AV.toO)) True false
  | .stRO x b _ y => s.set b (.obox (splice (s.env b).inner (s.env x).refOff ((s.rd y).cells.map AV.toO))) True false
  | .takeO x b => s.set b (.obox ((s.env b).inner.set (s.env x).refOff .bad)) True false
  | .extO t i => s.set t (.otup ((s.env t).inner.set i ((s.env t).inner.getD i .bad).left)) True false
  | .putO x b t => (s.give (.t t)).set b (.obox ((s.env b).inner.set (s.env x).refOff (s.env t))) True false
  | .appM _ _ t _ => s.set t .bad False false
  | .cpy x b sz y => s.set b ((s.env b).withInner (splice (s.env b).inner (s.env x).vOff ((s.rd y).srcC.take (min ((s.env b).vLen (s.env x)) (s.rd y).srcN * sz)))) True false
  | .cpyV x b sz y b2 => s.set b ((s.env b).withInner (splice (s.env b).inner (s.env x).vOff ((AV.vCells sz (s.env b2) (s.env y)).take (min ((s.env b).vLen (s.env x)) ((s.env b2).vLen (s.env y)) * sz)))) True false
  | .callB f args b => s.set b (((T (f + inPlace) (argB s b args)).getD .bad).inner.getD 1 .bad).nr True false
  | _ => s

def gd (s : St) : Option (Nat × Bool) → Prop
  | none => True
  | some (t, b) => s.D t ∧ (s.env t).toB = b

def R1.plain : R1 → Bool
  | .allocO _ | .stO .. | .stRO .. | .takeO .. | .extO .. | .putO .. | .steal _ | .s2b _ | .stB .. | .stR .. | .box _ | .alloc _ | .nilR _ | .mkSl .. | .mkSlM .. | .app .. | .make .. | .s2bM _ | .makeM .. | .frz _ | .stealM _ | .rng _ | .nxt _ | .nilM _ | .appM .. | .callB .. | .cpy .. | .cpyV .. | .mkC .. | .callC .. => false
  | .call _ args => args.all fun a => !a.1
  | _ => true
def R1.yields : R1 → AV → AV
  | .fldO .., v | .fldB .., v | .fldR .., v | .s2aR .., v | .idxB .., v | .idxR .., v | .idxM .., v | .al _, v | .nck .., v | .winB .., v | .winX .., v | .mvW .., v | .wnV .., v | .winR .., v => v
  | _, v => v.nr

def step (T : Tab) (o : RO) (s : St) : St :=
  match o.op with
  | .stB t _ x => s.set t (.box (s.rd x).cells) True false
  | .stR x b _ y => s.set b ((s.env b).withInner (splice (s.env b).inner (s.env x).refOff (s.rd y).cells)) True false
  | op => match o.d with
    | none => pre T s op
    | some d => (pre T s op).set d (op.yields (val T s op)) (gd s o.g) true

def need (T : Tab) (o : RO) (s : St) : Prop :=
  (gd s o.g → dfn T s o.op) ∧ match o.g with
    | none => True
    | some (t, b) => s.K t = true ∧ (s.D t → (s.env t).isB) ∧ (o.op.plain = true ∨ (s.D t ∧ (s.env t).toB = b))

def WR (T : Tab) : List RO → (St → Prop) → St → Prop
  | [], Q, s => Q s
  | o :: os, Q, s => need T o s ∧ WR T os Q (step T o s)

def W (T : Tab) : RC → (Ex → St → Prop) → St → Prop
  | .skip, Q, s => Q .normal s
  | .reg _ ops V, Q, s => WR T ops (fun s' => Q .normal (s'.keep V)) s
  | .seq a b, Q, s => W T a (fun e s' => match e with | .normal => W T b Q s' | .exit i => Q (.exit i) s' | .ret => Q .ret s') s
  | .cond t a b, Q, s => s.D t ∧ (s.env t).isC ∧ ((s.env t).mayT = true → W T a Q s) ∧ ((s.env t).mayF = true → W T b Q s)
  | .block id a, Q, s => W T a (fun e s' => match e with | .normal => Q .normal s' | .exit i => if i = id then Q .normal s' else Q (.exit i) s' | .ret => Q .ret s') s
  | .loop a, Q, s => ∃ (I : St → Prop) (μ : St → Nat), I s ∧ ∀ s', I s' → W T a (fun e s'' => match e with | .normal => I s'' ∧ μ s'' < μ s' | .exit i => Q (.exit i) s'' | .ret => Q .ret s'') s'
  | .exit id, Q, s => Q (.exit id) s
  | .ret, Q, s => Q .ret s

/-! ### Is it the operation? -/
def szIs (P : Program) (t n : Nat) : Bool := match P.info? t with | some i => i.size == n | none => false
def bytesIs (P : Program) (t n : Nat) : Bool := match P.info? t with | some i => i.bytes == n | none => false
def aggIs (P : Program) (t : Nat) (b : Bool) : Bool := match P.underlying t with
  | some (.struct _) | some (.array _ _) => b
  | some _ => !b
  | none => false
mutual
def cAV : AV → Value → Bool
  | .int k n, .int k' n' => k == k' && n == n'
  | .bool b, .bool b' => b == b'
  | .str l, .string s => s.data.toList == l
  | .row _ [] 0, .slice none 0 0 => true
  | .sl [] 0, .slice none 0 0 => true
  | .agg xs, .agg cs => cAVs xs cs.toList
  | .nilI, .nilIface => true
  | .nilP, .pointer none => true
  | .nilF, .nilFunc => true
  | .nilS _, .slice none 0 0 => true
  | _, _ => false
def cAVs : List AV → List Value → Bool
  | [], [] => true
  | x :: xs, v :: vs => x.one && cAV x v && cAVs xs vs
  | _, _ => false
end
def chkV : Operand → RV → Bool
  | .func f, .c (.fn g [] []) => f == g
  | .tmp n, .t m => n == m
  | .const v, .c x => cAV x v
  | _, _ => false
def chkO : Option Operand → Option RV → Bool
  | none, none => true
  | some x, some y => chkV x y
  | _, _ => false
def zeroIs (P : Program) (t : Nat) (zs : List AV) : Bool := match P.info? t with
  | some i => (match i.zero with | some z => cAVs zs z.cells.toList | none => false)
  | none => false
def chkArgs : List Operand → List (Bool × RV) → Bool
  | [], [] => true
  | x :: xs, (b, y) :: ys => chkV x y && (!b || (match y with | .t _ => true | .c _ => false)) && chkArgs xs ys
  | _, _ => false
/-- Arguments that may be handed over: temporaries, and slices that are nil. -/
def chkArgsC : List Operand → List (Bool × RV) → Bool
  | [], [] => true
  | x :: xs, (b, y) :: ys => chkV x y && (!b || (match y with | .t _ => true | .c (.row _ [] 0) => true | .c _ => false)) && chkArgsC xs ys
  | _, _ => false
def chkLs : List Operand → List (Option (Nat × Nat) × RV) → Bool
  | [], [] => true
  | x :: xs, (_, y) :: ys => chkV x y && chkLs xs ys
  | _, _ => false
def chkVals : List Operand → List RV → Bool
  | [], [] => true
  | x :: xs, y :: ys => chkV x y && chkVals xs ys
  | _, _ => false
/-- May it be called as it is? -/
def mayCall (P : Program) (f : Nat) : Bool := decide (f < inPlace) && (match P.funcs[f]? with | some fn => fn.body.isSome && !(fn.name == "runtime.NumGoroutine") | none => false)
def mayCallB (P : Program) (f : Nat) : Bool := match P.funcs[f]? with | some fn => fn.body.isSome && !(fn.name == "runtime.NumGoroutine") | none => false
/-- Parts of a literal, each with its place. -/
def chkParts (place : Nat → Option (Nat × Nat)) : List (Nat × Operand) → List (Nat × Nat × RV) → Bool
  | [], [] => true
  | (i, x) :: ps, (off, n, y) :: qs => chkV x y && place i == some (off, n) && chkParts place ps qs
  | _, _ => false
def fieldPl (P : Program) (fields : Array Field) (i : Nat) : Option (Nat × Nat) := (fields[i]?).bind fun f => (P.info? f.type).map fun j => (f.offset, j.size)
def fieldIs (P : Program) (s f off : Nat) : Bool := match P.underlying s with
  | some (.struct fields) => match fields[f]? with
    | some fl => fl.offset == off && (match P.info? fl.type with | some j => j.size != 0 | none => false)
    | none => false
  | _ => false
def fieldTy (P : Program) (s f off n : Nat) (agg : Bool) : Bool := match P.underlying s with
  | some (.struct fields) => match fields[f]? with
    | some fl => fl.offset == off && aggIs P fl.type agg && szIs P fl.type n
    | none => false
  | _ => false
def strIs (P : Program) (t : Nat) : Bool := match P.underlying t with | some .string => true | _ => false
def intIs (P : Program) (t : Nat) (k : IntKind) : Bool := match P.underlying t with | some (.int k') => k' == k | _ => false
def slIs (P : Program) (t sz : Nat) : Bool := match P.underlying t with | some (.slice e) => szIs P e sz | _ => false
def u8sIs (P : Program) (t : Nat) : Bool := match P.underlying t with | some (.slice e) => intIs P e .u8 | _ => false
def arrIs (P : Program) (t n sz : Nat) : Bool := match P.underlying t with | some (.array m e) => m == n && szIs P e sz | _ => false

def scTy : Option TypeDesc → Sc → Bool
  | some (.int _), .i | some .bool, .b | some .string, .s => true
  | _, _ => false
def scFlds (f : Nat → List Sc → Bool) (P : Program) : Nat → List Field → List Sc → Bool
  | _, [], l => l.isEmpty
  | off, fl :: fs, l => match P.info? fl.type with
    | some i => fl.name != "_" && fl.offset == off && decide (0 < i.size ∧ i.size ≤ l.length) && f fl.type (l.take i.size) && scFlds f P (off + i.size) fs (l.drop i.size)
    | none => false
/-- The cells of a value of this type are of these shapes, and are compared one by one. -/
def scIs (P : Program) : Nat → Nat → List Sc → Bool
  | 0, _, _ => false
  | d + 1, t, l => szIs P t l.length && match P.underlying t with
    | some (.struct fs) => !P.stoodInHeld t && scFlds (scIs P d) P 0 fs.toList l
    | some (.array n e) => match P.info? e with
      | some i => decide (l = (List.replicate n (l.take i.size)).flatten) && decide (0 < i.size ∧ i.size ≤ l.length) && scIs P d e (l.take i.size)
      | none => false
    | u => match l with | [c] => scTy u c | _ => false
/-- Values of this type are compared so. -/
def eqTy (P : Program) (t : Nat) : Option (List Sc) → Bool
  | none => match P.underlying t with | some .bool => true | _ => false
  | some l => scIs P 8 t l && aggIs P t true && !P.eqGuardType P.depth t
def isSl (P : Program) (t : Nat) : Bool := match P.underlying t with | some (.slice _) => true | _ => false

def ifcIs (P : Program) (t : Nat) : Bool := match P.underlying t with | some (.interface _) => true | _ => false
def ptrIs (P : Program) (t : Nat) : Bool := match P.underlying t with | some (.pointer _) => true | _ => false
def concIs (P : Program) (t : Nat) : Bool := match P.underlying t with | some (.interface _) | none => false | _ => true
/-- The nil of such a type. -/
def nilOf (P : Program) (t : Nat) (p : Bool) : Operand → Bool
  | .const .nilIface => !p && ifcIs P t
  | .const (.pointer none) => p && ptrIs P t
  | _ => false
def zero1 (P : Program) (t : Nat) (z : AV) : Bool := match P.info? t with
  | some i => (match i.zero with | some v => cAV z v | none => false)
  | none => false
def chkOp (P : Program) [Globs P] (op : Op) (r : R1) : Bool := match r with
  | .allocO zs => match op with
    | .alloc t => (zeroIs P t zs)
    | _ => false
  | .fldO t off => match op with
    | .fieldAddr s x f => (fieldIs P s f off && chkV x (.t t))
    | _ => false
  | .loadO t' n agg => match op with
    | .load t x => (szIs P t n && aggIs P t agg && chkV x (.t t'))
    | _ => false
  | .loadRO x' _ n agg => match op with
    | .load t x => (szIs P t n && aggIs P t agg && chkV x (.t x'))
    | _ => false
  | .stO t' n y' => match op with
    | .store t x y => (szIs P t n && chkV x (.t t') && chkV y y')
    | _ => false
  | .stRO x' _ n y' => match op with
    | .store t x y => (szIs P t n && chkV x (.t x') && chkV y y')
    | _ => false
  | .takeO x' _ => match op with
    | .load t x => (szIs P t 1 && aggIs P t false && chkV x (.t x'))
    | _ => false
  | .putO x' _ t' => match op with
    | .store t x y => (szIs P t 1 && chkV x (.t x') && chkV y (.t t'))
    | _ => false
  | .mkI t' x' => match op with
    | .makeInterface t x => (t == t' && concIs P t && chkV x x')
    | _ => false
  | .isNil p ne x' => match op with
    | .binOp op t x y _ => (op == (if ne then .neq else .eql) && nilOf P t p y && chkV x x')
    | _ => false
  | .isNilS ne x' => match op with
    | .binOp op t x y _ => (op == (if ne then .neq else .eql) && isSl P t && (match y with | .const (.slice none 0 0) => true | _ => false) && chkV x x')
    | _ => false
  | .callL f' as => match op with
    | .call { callee := .value (.func f), args, argTypes := _ } => (f == f' && decide (f < inPlace) && chkLs args.toList as && (match P.funcs[f]? with
      | some fn => fn.body.isSome && fn.name != "runtime.NumGoroutine"
      | none => false))
    | _ => false
  | .asI t' ok' z x' => match op with
    | .typeAssert x _ t ok => (t == t' && ok == ok' && concIs P t && zero1 P t z && chkV x x')
    | _ => false
  | .idxG g' sz n xs i' => match op with
    | .indexAddr t (.global g) i => (g == g' && arrIs P t n sz && globIs P g xs && chkV i i')
    | _ => false
  | .loadG g' n agg xs => match op with
    | .load t (.global g) => (g == g' && szIs P t n && aggIs P t agg && globIs P g xs)
    | _ => false
  | .nilR sz => match op with
    | .move x => (chkV x (.c (.row sz [] 0)))
    | .assign x => (chkV x (.c (.row sz [] 0)))
    | _ => false
  | .nilM sz => match op with
    | .move x => (chkV x (.c (.row sz [] 0)))
    | .assign x => (chkV x (.c (.row sz [] 0)))
    | _ => false
  | .mov y => match op with
    | .move x => (chkV x y)
    | .assign x => (chkV x y)
    | _ => false
  | .steal t => match op with
    | .move x => (chkV x (.t t))
    | .assign x => (chkV x (.t t))
    | _ => false
  | .pick c' x' y' => match op with
    | .pick c x y => (chkV c c' && chkV x x' && chkV y y')
    | _ => false
  | .bin op' _ x' y' => match op with
    | .binOp op _ x y _ => (op == op' && chkV x x' && chkV y y')
    | _ => false
  | .beq ne sh x' y' => match op with
    | .binOp op t x y _ => (op == (if ne then .neq else .eql) && eqTy P t sh && chkV x x' && chkV y y')
    | _ => false
  | .un op' x' => match op with
    | .unOp op _ x => (op == op' && chkV x x')
    | _ => false
  | .conv _ k x' => match op with
    | .convert src dst x => ((P.underlying src).isSome && intIs P dst k && chkV x x')
    | _ => false
  | .b2s x' => match op with
    | .convert src dst x => (u8sIs P src && strIs P dst && chkV x x')
    | _ => false
  | .s2b x' => match op with
    | .convert src dst x => (strIs P src && u8sIs P dst && slIs P dst 1 && chkV x x')
    | _ => false
  | .len str x' => match op with
    | .call { callee := .builtin .len, args := ⟨[x]⟩, argTypes := ⟨[t]⟩ } => ((if str then strIs P t else isSl P t) && chkV x x')
    | _ => false
  | .sidx x' i' => match op with
    | .index t x i => (strIs P t && chkV x x' && chkV i i')
    | _ => false
  | .ssl x' lo' hi' => match op with
    | .slice t x lo hi none => (strIs P t && chkV x x' && chkO lo lo' && chkO hi hi')
    | _ => false
  | .slsl sz x' lo' hi' => match op with
    | .slice t x lo hi none => (slIs P t sz && chkV x x' && chkO lo lo' && chkO hi hi')
    | _ => false
  | .idxA sz x' i' => match op with
    | .indexAddr t x i => (slIs P t sz && chkV x x' && chkV i i')
    | _ => false
  | .fldP off x' => match op with
    | .fieldAddr s x f => (fieldIs P s f off && chkV x x')
    | _ => false
  | .fldB t off => match op with
    | .fieldAddr s x f => (fieldIs P s f off && chkV x (.t t))
    | _ => false
  | .fldR x' _ off => match op with
    | .fieldAddr s x f => (fieldIs P s f off && chkV x (.t x'))
    | _ => false
  | .idxB t' sz n i' => match op with
    | .indexAddr t x i => (arrIs P t n sz && chkV x (.t t') && chkV i i')
    | _ => false
  | .s2aR x' _ sz n => match op with
    | .sliceToArrayPointer t x => (arrIs P t n sz && chkV x (.t x'))
    | _ => false
  | .s2aP n x' => match op with
    | .sliceToArrayPointer t x => ((match P.underlying t with | some (.array m _) => m == n | _ => false) && chkV x x')
    | _ => false
  | .mkF f' as bs => match op with
    | .makeFunc (.func f) first captured => (f == f' && chkVals first.toList as && chkVals captured.toList bs)
    | _ => false
  | .callF x' as fs => match op with
    | .call { callee := .value x, args, argTypes := _ } => (chkV x x' && chkVals args.toList as && fs.all (mayCall P))
    | _ => false
  | .idxR x' _ sz n i' => match op with
    | .indexAddr t x i => (arrIs P t n sz && chkV x (.t x') && chkV i i')
    | _ => false
  | .loadP x' n agg => match op with
    | .load t x => (szIs P t n && aggIs P t agg && chkV x x')
    | _ => false
  | .loadB t' n agg => match op with
    | .load t x => (szIs P t n && aggIs P t agg && chkV x (.t t'))
    | _ => false
  | .loadR x' _ n agg => match op with
    | .load t x => (szIs P t n && aggIs P t agg && chkV x (.t x'))
    | _ => false
  | .stB t' n y' => match op with
    | .store t x y => (szIs P t n && chkV x (.t t') && chkV y y')
    | _ => false
  | .stR x' _ n y' => match op with
    | .store t x y => (szIs P t n && chkV x (.t x') && chkV y y')
    | _ => false
  | .box x' => match op with
    | .box _ x => (chkV x x')
    | _ => false
  | .alloc zs => match op with
    | .alloc t => (zeroIs P t zs)
    | _ => false
  | .fld off n agg x' => match op with
    | .field s x f => (fieldTy P s f off n agg && chkV x x')
    | _ => false
  | .aidx sz len agg x' i' => match op with
    | .index t x i => ((match P.underlying t with | some (.array m e) => m == len && szIs P e sz && aggIs P e agg | _ => false) && chkV x x' && chkV i i')
    | _ => false
  | .build zs ps => match op with
    | .build t parts => (zeroIs P t zs && (match P.underlying t with
      | some (.struct fields) => chkParts (fieldPl P fields) parts.toList ps && fields.all fun f => (P.info? f.type).isSome
      | some (.array _ e) => match P.info? e with | some j => chkParts (fun i => some (i * j.size, j.size)) parts.toList ps | none => false
      | _ => false))
    | _ => false
  | .mkSlM sz n zs ps => match op with
    | .buildSlice t len parts => (len == n && len * sz ≤ 16777216 && (match P.underlying t with
      | some (.slice e) => szIs P e sz && chkParts (fun i => some (i * sz, sz)) parts.toList ps && (match P.info? e with
        | some j => (match j.zero with | some z => cAVs zs ((Array.range (len * sz)).map (z.cells[· % z.cells.size]!)).toList && decide (0 < sz) | none => false)
        | none => false)
      | _ => false))
    | _ => false
  | .mkSl sz n zs ps => match op with
    | .buildSlice t len parts => (len == n && len * sz ≤ 16777216 && (match P.underlying t with
      | some (.slice e) => szIs P e sz && chkParts (fun i => some (i * sz, sz)) parts.toList ps && (match P.info? e with
        | some j => (match j.zero with | some z => cAVs zs ((Array.range (len * sz)).map (z.cells[· % z.cells.size]!)).toList && decide (0 < sz) | none => false)
        | none => false)
      | _ => false))
    | _ => false
  | .app sz bytes b y' => match op with
    | .call { callee := .builtin .append, args := ⟨[x, y]⟩, argTypes := ⟨[t, u]⟩ } => (decide (0 < sz) && chkV x b && chkV y y' && (strIs P u || isSl P u) && (match P.underlying t with
      | some (.slice e) => szIs P e sz && bytesIs P e bytes && (match P.info? e with | some j => (match j.zero with | some z => z.cells.size == sz | none => false) | none => false)
      | _ => false))
    | _ => false
  | .appM sz bytes b y' => match op with
    | .call { callee := .builtin .append, args := ⟨[x, y]⟩, argTypes := ⟨[t, u]⟩ } => (decide (0 < sz) && chkV x (.t b) && chkV y y' && (strIs P u || isSl P u) && (match P.underlying t with
      | some (.slice e) => szIs P e sz && bytesIs P e bytes && (match P.info? e with | some j => (match j.zero with | some z => z.cells.size == sz | none => false) | none => false)
      | _ => false))
    | _ => false
  | .make sz bytes zs l' c' => match op with
    | .makeSlice t l c => (decide (0 < sz) && chkV l l' && chkV c c' && zs.length == sz && (match P.underlying t with
      | some (.slice e) => szIs P e sz && bytesIs P e bytes && zeroIs P e zs
      | _ => false))
    | _ => false
  | .ext x' i' => match op with
    | .extract x i => (chkV x x' && i == i')
    | _ => false
  | .extO t' i' => match op with
    | .extract x i => (chkV x (.t t') && i == i')
    | _ => false
  | .mm mx x' y' => match op with
    | .call { callee := .builtin .min, args := ⟨[x, y]⟩, argTypes := _ } => (!mx && chkV x x' && chkV y y')
    | .call { callee := .builtin .max, args := ⟨[x, y]⟩, argTypes := _ } => (mx && chkV x x' && chkV y y')
    | _ => false
  | .s2bM x' => match op with
    | .convert src dst x => (strIs P src && u8sIs P dst && slIs P dst 1 && chkV x x')
    | _ => false
  | .makeM sz bytes zs l' c' => match op with
    | .makeSlice t l c => (decide (0 < sz) && chkV l l' && chkV c c' && zs.length == sz && (match P.underlying t with
      | some (.slice e) => szIs P e sz && bytesIs P e bytes && zeroIs P e zs
      | _ => false))
    | _ => false
  | .al t => match op with
    | .move x => (chkV x (.t t))
    | .assign x => (chkV x (.t t))
    | _ => false
  | .nck x' _ => match op with
    | .nilCheck x => (chkV x (.t x'))
    | _ => false
  | .frz t => match op with
    | .move x => (chkV x (.t t))
    | .assign x => (chkV x (.t t))
    | _ => false
  | .stealM t => match op with
    | .move x => (chkV x (.t t))
    | .assign x => (chkV x (.t t))
    | _ => false
  | .rng x' => match op with
    | .range t x => (strIs P t && chkV x x')
    | _ => false
  | .nxt t => match op with
    | .next x true => (chkV x (.t t))
    | _ => false
  | .idxM x' _ sz i' => match op with
    | .indexAddr t x i => (slIs P t sz && chkV x (.t x') && chkV i i')
    | _ => false
  | .lenM x' _ => match op with
    | .call { callee := .builtin .len, args := ⟨[x]⟩, argTypes := ⟨[t]⟩ } => (isSl P t && chkV x (.t x'))
    | _ => false
  | .b2sM x' _ => match op with
    | .convert src dst x => (u8sIs P src && strIs P dst && chkV x (.t x'))
    | _ => false
  | .call f' as => match op with
    | .call { callee := .value (.func f), args, argTypes := _ } => (f == f' && decide (f < inPlace) && chkArgsC args.toList as && (match P.funcs[f]? with
      | some fn => fn.body.isSome && fn.name != "runtime.NumGoroutine"
      | none => false))
    | _ => false
  | .winB t' sz n lo' hi' => match op with
    | .slice t x lo hi none => (arrIs P t n sz && decide (n ≤ 1000000) && chkV x (.t t') && chkO lo lo' && chkO hi hi')
    | _ => false
  | .winX x' _ sz lo' hi' => match op with
    | .slice t x lo hi none => (slIs P t sz && chkV x (.t x') && chkO lo lo' && chkO hi hi')
    | _ => false
  | .cpy x' _ sz y' => match op with
    | .call { callee := .builtin .copy, args := ⟨[x, y]⟩, argTypes := ⟨[t, u]⟩ } => (slIs P t sz && chkV x (.t x') && chkV y y')
    | _ => false
  | .cpyV x' _ sz y' _ => match op with
    | .call { callee := .builtin .copy, args := ⟨[x, y]⟩, argTypes := ⟨[t, u]⟩ } => (slIs P t sz && chkV x (.t x') && chkV y (.t y'))
    | _ => false
  | .mkC f' b => match op with
    | .makeFunc (.func f) ⟨[]⟩ ⟨[x]⟩ => (f == f' && chkV x (.t b))
    | _ => false
  | .callC x' _ as fs => match op with
    | .call { callee := .value x, args, argTypes := _ } => (chkV x (.t x') && chkVals args.toList as && fs.all (mayCallB P))
    | _ => false
  | .mvW x' _ => match op with
    | .move x => (chkV x (.t x'))
    | .assign x => (chkV x (.t x'))
    | _ => false
  | .wnV x' _ _ => match op with
    | .move x => (chkV x (.t x'))
    | .assign x => (chkV x (.t x'))
    | _ => false
  | .winR x' _ sz n lo' hi' => match op with
    | .slice t x lo hi none => (arrIs P t n sz && decide (n ≤ 1000000) && chkV x (.t x') && chkO lo lo' && chkO hi hi')
    | _ => false
  | .callB f' as _ => match op with
    | .call { callee := .value (.func f), args, argTypes := _ } => (f == f' && chkArgs args.toList as && (match P.funcs[f]? with
      | some fn => fn.body.isSome && fn.name != "runtime.NumGoroutine"
      | none => false))
    | _ => false

def stolenN : List (Bool × RV) → List Nat
  | [] => []
  | (true, .t n) :: as => n :: stolenN as
  | (true, .c _) :: as => stolenN as
  | (false, _) :: as => stolenN as

def chkRO (P : Program) [Globs P] (nt : Nat) (ops : Array Oper) (o : Oper) (r : RO) : Bool :=
  (match o.dst, r.d with
    | none, none => true
    | some d, some d' => d == d' && decide (d < nt)
    | _, _ => false) && chkOp P o.op r.op && (match o.guard, r.g with
    | none, none => true
    | some (j, b), some (t, b') => b == b' && (match ops[j]? with | some oj => oj.dst == some t | none => false)
    | _, _ => false) && (match r.op with
    | .stB t _ _ => decide (t < nt) && r.d.isNone
    | .stR _ t _ _ => decide (t < nt) && r.d.isNone
    | .steal _ | .s2b _ | .box _ | .alloc _ | .nilR _ | .mkSl .. | .mkSlM .. | .app .. | .make .. | .s2bM _ | .makeM .. | .frz _ | .stealM _ | .rng _ => r.d.isSome
    | .nxt t => r.d.isSome && r.d != some t && decide (t < nt)
    | .allocO _ => r.d.isSome
    | .fldO b _ | .takeO _ b | .extO b _ => r.d.isSome && r.d != some b
    | .stO .. | .stRO .. => r.d.isNone
    | .putO _ b t => r.d.isNone && t != b
    | .nilM _ | .appM .. => r.d.isSome
    | .callB _ as b => r.d != some b && decide ((stolenN as).length = 1) && decide (b < nt)
    | .fldB b _ | .fldR _ b _ | .s2aR _ b _ _ | .idxB b _ _ _ | .idxR _ b _ _ _ | .idxM _ b _ _ | .al b | .nck _ b | .winB b _ _ _ _ | .winX _ b _ _ _ | .mvW _ b | .wnV _ b _ | .winR _ b _ _ _ _ => r.d.isSome && r.d != some b
    | .mkC _ _ => r.d.isSome
    | .callC _ b _ _ => r.d != some b && decide (b < nt)
    | .cpy _ b _ _ | .cpyV _ b _ _ _ => r.d != some b && decide (b < nt)
    | .call _ as => decide (stolenN as).Nodup
    | _ => true)
def chkROs (P : Program) [Globs P] (nt : Nat) (ops : Array Oper) : List Oper → List RO → Bool
  | [], [] => true
  | o :: os, r :: rs => chkRO P nt ops o r && chkROs P nt ops os rs
  | _, _ => false
def tR : RV → List Nat
  | .t n => [n]
  | .c _ => []
def tO : Option RV → List Nat
  | none => []
  | some x => tR x
def tP : List (Nat × Nat × RV) → List Nat
  | [] => []
  | (_, _, x) :: ps => tR x ++ tP ps
def tA : List (Bool × RV) → List Nat
  | [] => []
  | (_, x) :: as => tR x ++ tA as
def tL : List (Option (Nat × Nat) × RV) → List Nat
  | [] => []
  | (none, x) :: as => tR x ++ tL as
  | (some (b, _), x) :: as => b :: (tR x ++ tL as)
def tV : List RV → List Nat
  | [] => []
  | x :: xs => tR x ++ tV xs
/-- What an operation looks at. -/
def rdOf : R1 → List Nat
  | .mov x | .un _ x | .conv _ _ x | .b2s x | .s2b x | .len _ x | .fldP _ x | .loadP x _ _ | .box x | .fld _ _ _ x | .ext x _ => tR x
  | .steal t | .fldB t _ | .loadB t _ _ => [t]
  | .pick c x y => tR c ++ tR x ++ tR y
  | .bin _ _ x y | .beq _ _ x y | .sidx x y | .idxA _ x y | .aidx _ _ _ x y | .app _ _ x y | .make _ _ _ x y => tR x ++ tR y
  | .ssl x lo hi | .slsl _ x lo hi => tR x ++ tO lo ++ tO hi
  | .fldR x b _ => [x, b]
  | .idxB t _ _ i => t :: tR i
  | .idxR x b _ _ i => x :: b :: tR i
  | .s2aR x b _ _ => [x, b]
  | .s2aP _ x => tR x
  | .mkF _ as bs => tV as ++ tV bs
  | .callF x as _ => tR x ++ tV as
  | .loadR x b _ _ => [x, b]
  | .stB t _ x => t :: tR x
  | .stR x b _ y => x :: b :: tR y
  | .alloc _ | .nilR _ => []
  | .build _ ps | .mkSl _ _ _ ps | .mkSlM _ _ _ ps => tP ps
  | .call _ as => tA as
  | .mm _ x y | .makeM _ _ _ x y => tR x ++ tR y
  | .s2bM x | .rng x => tR x
  | .nxt t => [t]
  | .al t | .frz t | .stealM t => [t]
  | .nck x b => [x, b]
  | .allocO _ => []
  | .fldO t _ | .loadO t _ _ | .extO t _ => [t]
  | .loadRO x b _ _ | .takeO x b => [x, b]
  | .stO t _ x => t :: tR x
  | .stRO x b _ y => x :: b :: tR y
  | .putO x b t => [x, b, t]
  | .mkI _ x | .isNil _ _ x | .isNilS _ x | .asI _ _ _ x => tR x
  | .callL _ as => tL as
  | .idxM x b _ i => x :: b :: tR i
  | .lenM x b | .b2sM x b => [x, b]
  | .idxG _ _ _ _ i => tR i
  | .loadG .. | .nilM _ => []
  | .appM _ _ t y => t :: tR y
  | .callB _ as b => b :: tA as
  | .winB t _ _ lo hi => t :: (tO lo ++ tO hi)
  | .winX x b _ lo hi => x :: b :: (tO lo ++ tO hi)
  | .mkC _ b => [b]
  | .callC x b as _ => x :: b :: tV as
  | .mvW x b | .wnV x b _ => [x, b]
  | .winR x b _ _ lo hi => x :: b :: (tO lo ++ tO hi)
  | .cpy x b _ y => x :: b :: tR y
  | .cpyV x b _ y b2 => [x, b, y, b2]
def gR : Option (Nat × Bool) → List Nat
  | none => []
  | some (t, _) => [t]
/-- What it turns, beside what it yields. -/
def wrOf : R1 → List Nat
  | .steal t => [t]
  | .app _ _ b _ => tR b
  | .stB t _ _ => [t]
  | .stR _ b _ _ => [b]
  | .stO t _ _ => [t]
  | .stRO _ b _ _ => [b]
  | .takeO _ b => [b]
  | .extO t _ => [t]
  | .putO _ b t => [b, t]
  | .call _ as => stolenN as
  | .frz t | .stealM t | .nxt t => [t]
  | .appM _ _ t _ => [t]
  | .callB _ _ b => [b]
  | .mkC _ b => [b]
  | .callC _ b _ _ => [b]
  | .cpy _ b _ _ | .cpyV _ b _ _ _ => [b]
  | _ => []
def RO.rd (r : RO) : List Nat := rdOf r.op ++ gR r.g
def RO.stores (r : RO) : Bool := match r.op with
  | .stB .. | .stR .. => true
  | _ => false
def RO.wr (r : RO) : List Nat := (if r.stores then [] else r.d.toList) ++ wrOf r.op
def disj (a b : List Nat) : Bool := a.all fun t => !b.contains t
def apart (r r' : RO) : Bool := disj r.wr (r'.rd ++ r'.wr) && disj r'.wr r.rd


end Go.Proofs.Ytbikpgaiocjnoaa.Pad
