/- How what a code comes to is reckoned. -/
import Derived.Test.YtbikpgaiocjnoaaE12
set_option linter.unusedVariables false
set_option linter.unusedSimpArgs false
namespace Go.Proofs.Ytbikpgaiocjnoaa.Pad
section
variable {T : Tab} {Q : Ex → St → Prop} {s : St}
theorem WR_cons {o : RO} {os : List RO} {Q : St → Prop} {s : St} : WR T (o :: os) Q s = (need T o s ∧ WR T os Q (step T o s)) := rfl
theorem WR_nil {Q : St → Prop} {s : St} : WR T [] Q s = Q s := rfl
theorem W_skip : W T .skip Q s = Q .normal s := rfl
/-- What comes behind: by names, so that simp doesn't reckon it ahead of its time. -/
def Kreg (V : List Nat) (Q : Ex → St → Prop) : St → Prop := fun s' => Q .normal (s'.keep V)
def Kseq (T : Tab) (b : RC) (Q : Ex → St → Prop) : Ex → St → Prop := fun e s' => match e with | .normal => W T b Q s' | .exit i => Q (.exit i) s' | .ret => Q .ret s'
def Kblk (id : Nat) (Q : Ex → St → Prop) : Ex → St → Prop := fun e s' => match e with | .normal => Q .normal s' | .exit i => if i = id then Q .normal s' else Q (.exit i) s' | .ret => Q .ret s'
theorem Kreg_at {V : List Nat} : Kreg V Q s = Q .normal (s.keep V) := rfl
theorem Kseq_normal {b : RC} : Kseq T b Q .normal s = W T b Q s := rfl
theorem Kseq_exit {b : RC} {i : Nat} : Kseq T b Q (.exit i) s = Q (.exit i) s := rfl
theorem Kseq_ret {b : RC} : Kseq T b Q .ret s = Q .ret s := rfl
theorem Kblk_normal {id : Nat} : Kblk id Q .normal s = Q .normal s := rfl
theorem Kblk_exit {id i : Nat} : Kblk id Q (.exit i) s = if i = id then Q .normal s else Q (.exit i) s := rfl
theorem Kblk_ret {id : Nat} : Kblk id Q .ret s = Q .ret s := rfl
theorem W_reg {d : Bool} {ops : List RO} {V : List Nat} : W T (.reg d ops V) Q s = WR T ops (Kreg V Q) s := rfl
theorem W_seq {a b : RC} : W T (.seq a b) Q s = W T a (Kseq T b Q) s := rfl
theorem W_cond {t : Nat} {a b : RC} : W T (.cond t a b) Q s = (s.D t ∧ (s.env t).isC ∧ ((s.env t).mayT = true → W T a Q s) ∧ ((s.env t).mayF = true → W T b Q s)) := rfl
theorem W_condI {t : Nat} {a b : RC} : W T (.cond t a b) Q s = (s.D t ∧ (s.env t).isC ∧ if (s.env t).isAny = true then W T a Q s ∧ W T b Q s else if (s.env t).toB = true then W T a Q s else W T b Q s) := by
  rw [W_cond]
  cases s.env t <;> simp [AV.isC, AV.mayT, AV.mayF, AV.isAny, AV.toB]
  rename_i b
  cases b <;> simp
theorem W_block {id : Nat} {a : RC} : W T (.block id a) Q s = W T a (Kblk id Q) s := rfl
theorem W_exit {id : Nat} : W T (.exit id) Q s = Q (.exit id) s := rfl
theorem W_ret : W T .ret Q s = Q .ret s := rfl
theorem W_loop {a : RC} (I : St → Prop) (μ : St → Nat) (h0 : I s) (h : ∀ s', I s' → W T a (fun e s'' => match e with | .normal => I s'' ∧ μ s'' < μ s' | .exit i => Q (.exit i) s'' | .ret => Q .ret s'') s') : W T (.loop a) Q s := ⟨I, μ, h0, h⟩
end
attribute [simp ↓] WR_cons WR_nil W_skip W_reg W_seq W_condI W_block W_exit W_ret Kreg_at Kseq_normal Kseq_exit Kseq_ret Kblk_normal Kblk_exit Kblk_ret
attribute [simp] need step gd val dfn pre St.set St.env St.D St.K St.keep keepV St.refOk AV.isTo AV.nr R1.yields okVals valsAV AV.hasN aCallF dCallF AV.isOwn AV.isM AV.mlen AV.withInner AV.isAl aMm AV.thaw AV.frozen aB2sM dB2sM AV.rest aNxt AV.isIter aRng AV.isStr St.raw St.rd St.ok St.give giveArgs AV.share AV.good AV.toB AV.isB AV.cells AV.byte inK wr aInt dInt aStr dStr aBeq dBeq eqAVs fitS aBin dBin aUn dUn aConv dConv aB2s dB2s aS2b dS2b aLen dLen
  aSidx dSidx AV.toI AV.isI lowOf highOf okO aSsl AV.size dSsl aSlsl dSlsl aIdxA dIdxA aFldP dFldP aPart dPart AV.inner AV.isPtr AV.isBox AV.isAgg AV.isTup AV.refOff AV.refTo AV.lies AV.one splice fillAV okParts aApp dApp repeatAV aMake dMake argAV okArgs R1.plain
  initSt okRes okAll resAV RS.ok okOwn okArgsB argB isOf aAppM dAppM stolenN AV.vOff AV.vLen AV.isView AV.vCells AV.srcN AV.srcC AV.isSrc RS.av aIsNil dIsNil aAsI dAsI aCallC nCallC dCallC AV.viewTo AV.isClo AV.isOBox AV.isTree AV.isTreeB AV.left AV.isComp AV.isOTup AV.isBig AV.isBigB AV.isBigT RS.big anyBig RS.tmpIs okDist RS.part allGood partGood AV.toO AV.isC AV.mayT AV.mayF AV.isAny aNilS dNilS AV.lendC lendCs AV.whole wholes AV.lend AV.lendCells AV.isLend lendX winFits lendA okLend argLs okLs AV.flat flats AV.apartR
@[simp] theorem isU8_int (n : Int) : AV.isU8 (.int .u8 n) = True := rfl
@[simp] theorem ite_bool (c : Prop) [Decidable c] (a b : Bool) : (if c then AV.bool a else AV.bool b) = AV.bool (if c then a else b) := by split <;> rfl
@[simp] theorem ite_int (c : Prop) [Decidable c] (k : IntKind) (a b : Int) : (if c then AV.int k a else AV.int k b) = AV.int k (if c then a else b) := by split <;> rfl
@[simp] theorem ite_str (c : Prop) [Decidable c] (a b : List UInt8) : (if c then AV.str a else AV.str b) = AV.str (if c then a else b) := by split <;> rfl
end Go.Proofs.Ytbikpgaiocjnoaa.Pad
