import PyProof.Rows.All
import Wide.All
import OpenK.AllK
import Wide.FinOn
import PyProof.EqAt
import PyProof.EqKinds
import PyProof.TupleCall
import HandS.Base
import HandS.Call
import HandS.List
import HandS.Comp
import HandS.Ends
import HandS.Dict
import HandS.Iter
import HandS.Text
import HandS.Words
import HandS.WordsList
import HandS.WordsDict
import HandS.Exc
import HandS.ExcOwn
import HandS.TryOnly
import HandS.WordsExc
import HandS.IsInst
import HandS.ExcValue
import HandS.ExcIs
import HandS.Walk
import HandS.Codes
import HandS.Lambda
import HandS.EndBits
import HandS.EndTab
import PyProof.ReprRoads
import HandS.Style
import KE.GoesEnum
import KE.GoesMore
import KE.GoesZip
import HandS.Replace
import HandS.TupLe
import PySem.Challenge.RW_solvedtreads_k31_words_and_places
set_option Elab.async false
set_option linter.all false
set_option maxRecDepth 100000
set_option maxHeartbeats 4000000
/-! Own rules: readings that reduce by themselves (match on the values), calls of defs by one fact, exceptions kept as values. -/
namespace Xia
open PySem PySem.Spec PyProof.Rows L2

/-! ### names -/
def tV (i : Nat) : TE := fun σ H Q => match σ[i]? with | some (some v) => Q v H | _ => False
section
variable {X : Cx}
theorem pV (i : Nat) {x : Str} {pos : Pos} (hN : X.N[i]? = some x := by rfl) (hv : Vis X.env.scope x := by first | exact Or.inl rfl | exact Or.inr (Or.inl rfl) | exact Or.inr (Or.inr rfl)) (hd : (x == ("__debug__" : Str)) = false := by decide)
    (hcd : (x == ("__classdict__" : Str)) = false := by decide) : PE X (.Name x pos) (tV i) := by
  refine ⟨fun pins s σ H Q I h => (pe_var hN hv hd hcd).run pins s σ H Q I ?_⟩
  unfold tV at h
  split at h
  · rename_i v e
    exact ⟨v, e, h⟩
  · exact h.elim

/-! ### operators -/
def mAdd : R2 := fun x y H Q => match x, y with
  | .int i, .int j => Q (.int (i + j)) H
  | .str a, .str b => a.length + b.length ≤ sizeLine ∧ Q (.str (a ++ b)) H
  | .ref p, .ref q => ∃ xs ys, H p = some (.lst xs) ∧ H q = some (.lst ys) ∧ xs.length + ys.length ≤ sizeLine ∧ ∀ r, H r = none → Q (.ref r) (upd H r (.lst (xs ++ ys)))
  | _, _ => False
theorem oAdd : OpR X (binaryOp .Add) mAdd := by
  intro pins s σ H x y v u Q I rx ry h
  unfold mAdd at h
  split at h
  · exact op_add pins s σ H _ _ v u Q I rx ry ⟨_, _, rfl, rfl, h⟩
  · exact op_add_str pins s σ H _ _ v u Q I rx ry ⟨_, _, rfl, rfl, h⟩
  · obtain ⟨xs, ys, h1, h2, h3, h4⟩ := h
    exact op_cat pins s σ H _ _ v u Q I rx ry ⟨_, _, _, _, rfl, rfl, h1, h2, h3, h4⟩
  · exact h.elim
def mSub : R2 := fun x y H Q => match x, y with | .int i, .int j => Q (.int (i - j)) H | _, _ => False
theorem oSub : OpR X (binaryOp .Sub) mSub := by
  intro pins s σ H x y v u Q I rx ry h
  unfold mSub at h
  split at h
  · exact op_sub pins s σ H _ _ v u Q I rx ry ⟨_, _, rfl, rfl, h⟩
  · exact h.elim
/-- a text, n times -/
def repS (a : Str) (n : Int) : Str := Txt.mul a n
theorem op_mul_str : OpR X (binaryOp .Mult) (fun x y H Q => ∃ a i, x = .str a ∧ y = .int i ∧ MulOk a i ∧ Q (.str (Txt.mul a i)) H) := by
  intro pins s σ H x y v u Q I rx ry h
  obtain ⟨a, i, rfl, rfl, hc, q⟩ := h
  obtain ⟨t, rfl⟩ := rx
  obtain ⟨t', rfl⟩ := ry
  exact SB.mul hc fun t' k => ⟨.str _, H, I.tok k, ⟨_, rfl⟩, q⟩
def mMul : R2 := fun x y H Q => match x, y with
  | .int i, .int j => CMul i j ∧ Q (.int (i * j)) H
  | .str a, .int i => MulOk a i ∧ Q (.str (Txt.mul a i)) H
  | .ref l, .int k => ∃ xs, H l = some (.lst xs) ∧ -(2 ^ 63) ≤ k ∧ k < 2 ^ 63 ∧ xs.length * k.toNat ≤ sizeLine ∧ ∀ p, H p = none → Q (.ref p) (upd H p (.lst (List.replicate k.toNat xs).flatten))
  | _, _ => False
theorem oMul : OpR X (binaryOp .Mult) mMul := by
  intro pins s σ H x y v u Q I rx ry h
  unfold mMul at h
  split at h
  · exact op_mul pins s σ H _ _ v u Q I rx ry ⟨_, _, rfl, rfl, h⟩
  · exact op_mul_str pins s σ H _ _ v u Q I rx ry ⟨_, _, rfl, rfl, h⟩
  · obtain ⟨xs, h1, h2, h3, h4, h5⟩ := h
    exact op_rep pins s σ H _ _ v u Q I rx ry ⟨_, _, _, rfl, rfl, h1, h2, h3, h4, h5⟩
  · exact h.elim
def mMod : R2 := fun x y H Q => match x, y with | .int i, .int j => 0 < j ∧ Q (.int (i % j)) H | _, _ => False
theorem oMod : OpR X (binaryOp .Mod) mMod := by
  intro pins s σ H x y v u Q I rx ry h
  unfold mMod at h
  split at h
  · exact op_mod pins s σ H _ _ v u Q I rx ry ⟨_, _, rfl, rfl, h⟩
  · exact h.elim
def mFdiv : R2 := fun x y H Q => match x, y with | .int i, .int j => CDiv i j ∧ Q (.int (i / j)) H | _, _ => False
theorem oFdiv : OpR X (binaryOp .FloorDiv) mFdiv := by
  intro pins s σ H x y v u Q I rx ry h
  unfold mFdiv at h
  split at h
  · exact op_fdiv pins s σ H _ _ v u Q I rx ry ⟨_, _, rfl, rfl, h⟩
  · exact h.elim
def mPow : R2 := fun x y H Q => match x, y with | .int i, .int j => CPow i j ∧ Q (.int (i ^ j.toNat)) H | _, _ => False
theorem oPow : OpR X (binaryOp .Pow) mPow := by
  intro pins s σ H x y v u Q I rx ry h
  unfold mPow at h
  split at h
  · exact op_pow pins s σ H _ _ v u Q I rx ry ⟨_, _, rfl, rfl, h⟩
  · exact h.elim
def mNeg : V → Hp → VK → Prop := fun x H Q => match x with | .int i => Q (.int (-i)) H | _ => False
theorem oNeg : UnR X (unaryOp .USub) mNeg := by
  intro pins s σ H x v Q I rx h
  unfold mNeg at h
  split at h
  · exact un_neg pins s σ H _ v Q I rx ⟨_, rfl, h⟩
  · exact h.elim

/-! ### comparisons -/
/-- do the two stand for data, and are they equal -/
def EqB (K : PySem.W.Frag) (H : Hp) (x y : V) (b : Bool) : Prop := ∃ d e, Dp K H x d ∧ Dp K H y e ∧ SeqAt.shaped d = true ∧ SeqAt.shaped e = true ∧ b = PyData.eqv d e
def mEq (K : PySem.W.Frag) : R2 := fun x y H Q => match x, y with
  | .int i, .int j => Q (.bl (decide (i = j))) H
  | .str i, .str j => Q (.bl (decide (i = j))) H
  | .bl i, .bl j => Q (.bl (decide (i = j))) H
  | .int _, .non => Q (.bl false) H
  | .non, .non => Q (.bl true) H
  | x, y => ∃ b, EqB K H x y b ∧ Q (.bl b) H
theorem oEq {K : PySem.W.Frag} (hu : X.A.units + 64 < cLine) (hK : X.K = K := by rfl) : OpR X (compareOp .Eq) (mEq K) := by
  subst hK
  intro pins s σ H x y v u Q I rx ry h
  unfold mEq at h
  split at h
  · exact op_eq pins s σ H _ _ v u Q I rx ry ⟨rfl, by simpa using h⟩
  · exact op_eq pins s σ H _ _ v u Q I rx ry ⟨rfl, by simpa using h⟩
  · exact op_eq pins s σ H _ _ v u Q I rx ry ⟨rfl, by simpa using h⟩
  · exact op_eq pins s σ H _ _ v u Q I rx ry ⟨rfl, by simpa using h⟩
  · exact op_eq pins s σ H _ _ v u Q I rx ry ⟨rfl, by simpa using h⟩
  · obtain ⟨b, ⟨d, e, h1, h2, h3, h4, rfl⟩, q⟩ := h
    exact op_eqD hu pins s σ H _ _ v u Q I rx ry ⟨d, e, h1, h2, h3, h4, q⟩
def mNe (K : PySem.W.Frag) : R2 := fun x y H Q => match x, y with
  | .int i, .int j => Q (.bl (!decide (i = j))) H
  | .str i, .str j => Q (.bl (!decide (i = j))) H
  | .bl i, .bl j => Q (.bl (!decide (i = j))) H
  | .non, .non => Q (.bl false) H
  | x, y => ∃ b, EqB K H x y b ∧ Q (.bl (!b)) H
theorem oNe {K : PySem.W.Frag} (hu : X.A.units + 64 < cLine) (hK : X.K = K := by rfl) : OpR X (compareOp .NotEq) (mNe K) := by
  subst hK
  intro pins s σ H x y v u Q I rx ry h
  unfold mNe at h
  split at h
  · exact op_ne pins s σ H _ _ v u Q I rx ry ⟨rfl, by simpa using h⟩
  · exact op_ne pins s σ H _ _ v u Q I rx ry ⟨rfl, by simpa using h⟩
  · exact op_ne pins s σ H _ _ v u Q I rx ry ⟨rfl, by simpa using h⟩
  · exact op_ne pins s σ H _ _ v u Q I rx ry ⟨rfl, by simpa using h⟩
  · obtain ⟨b, ⟨d, e, h1, h2, h3, h4, rfl⟩, q⟩ := h
    exact op_neD hu pins s σ H _ _ v u Q I rx ry ⟨d, e, h1, h2, h3, h4, q⟩
def mII (g : Int → Int → Bool) : R2 := fun x y H Q => match x, y with | .int i, .int j => Q (.bl (g i j)) H | _, _ => False
theorem oII {f : Value → Value → Sem Value} {g : Int → Int → Bool} (h : OpR X f (rI0 fun i j => .bl (g i j))) : OpR X f (mII g) := by
  intro pins s σ H x y v u Q I rx ry q
  unfold mII at q
  split at q
  · exact h pins s σ H _ _ v u Q I rx ry ⟨_, _, rfl, rfl, q⟩
  · exact q.elim
theorem oLt : OpR X (compareOp .Lt) (mII fun i j => decide (i < j)) := oII op_lt
theorem oLe : OpR X (compareOp .LtE) (mII fun i j => decide (i ≤ j)) := oII op_le
theorem oGt : OpR X (compareOp .Gt) (mII fun i j => decide (j < i)) := oII op_gt
theorem oGe : OpR X (compareOp .GtE) (mII fun i j => decide (j ≤ i)) := oII op_ge
def mIsN : R2 := fun x y H Q => match y with | .non => Q (.bl (decide (x = .non))) H | _ => False
theorem oIs : OpR X (compareOp .Is) mIsN := by
  intro pins s σ H x y v u Q I rx ry h
  unfold mIsN at h
  split at h
  · exact op_isN pins s σ H _ _ v u Q I rx ry ⟨rfl, h⟩
  · exact h.elim
def mNotN : R2 := fun x y H Q => match y with | .non => Q (.bl (!decide (x = .non))) H | _ => False
theorem oIsNot : OpR X (compareOp .IsNot) mNotN := by
  intro pins s σ H x y v u Q I rx ry h
  unfold mNotN at h
  split at h
  · exact op_notN pins s σ H _ _ v u Q I rx ry ⟨rfl, h⟩
  · exact h.elim
/-- one sign in a text -/
def mInS (n : Bool) : R2 := fun x y H Q => match x, y with | .str c, .str z => c.cps.size = 1 ∧ Q (.bl (n != decide (c.cps.getD 0 0 ∈ z.cps.toList))) H | _, _ => False
theorem sign_of {c : Str} (h : c.cps.size = 1) : c = ⟨#[c.cps.getD 0 0]⟩ := by
  obtain ⟨⟨l⟩⟩ := c
  match l, h with
  | [a], _ => rfl
theorem oInS : OpR X (compareOp .In) (mInS false) := by
  intro pins s σ H x y v u Q I rx ry h
  unfold mInS at h
  split at h
  · rename_i c z
    obtain ⟨h1, h2⟩ := h
    refine op_in_sign pins s σ H _ _ v u Q I rx ry ⟨c.cps.getD 0 0, z, by rw [← sign_of h1], rfl, ?_⟩
    simpa using h2
  · exact h.elim
theorem oNotInS : OpR X (compareOp .NotIn) (mInS true) := by
  intro pins s σ H x y v u Q I rx ry h
  unfold mInS at h
  split at h
  · rename_i c z
    obtain ⟨h1, h2⟩ := h
    refine op_notIn_sign pins s σ H _ _ v u Q I rx ry ⟨c.cps.getD 0 0, z, by rw [← sign_of h1], rfl, ?_⟩
    simpa using h2
  · exact h.elim
/-! ### subscripts, len, int -/
def mIx (K : PySem.W.Frag) : R2 := fun x y H Q => match x, y with
  | .str z, .int i => z.length ≤ sizeLine ∧ ∃ c, atI z.cps.toList i = some c ∧ Q (.str ⟨#[c]⟩) H
  | .ref p, .int i => ∃ xs v, (SqL K H p xs ∨ SqT K H p xs) ∧ atI xs i = some v ∧ Q v H
  | _, _ => False
theorem xIx {K : PySem.W.Frag} (hK : X.K = K := by rfl) : IxR X (mIx K) := by
  subst hK
  intro value slice pins s σ H x y v u Q I rx ry h hs
  unfold mIx at h
  split at h
  · obtain ⟨h1, c, h2, h3⟩ := h
    exact ix_str value slice pins s σ H _ _ v u Q I rx ry ⟨_, _, _, rfl, rfl, h1, h2, h3⟩ hs
  · obtain ⟨xs, w', h1 | h1, h2, h3⟩ := h
    · exact ix_list value slice pins s σ H _ _ v u Q I rx ry ⟨_, _, _, _, rfl, rfl, h1, h2, h3⟩ hs
    · exact ix_tup value slice pins s σ H _ _ v u Q I rx ry ⟨_, _, _, _, rfl, rfl, h1, h2, h3⟩ hs
  · exact h.elim
def mLen (K : PySem.W.Frag) : List V → Hp → VK → Prop := fun xs H Q => match xs with
  | [.str z] => z.length ≤ sizeLine ∧ Q (.int z.length) H
  | [.ref p] => ∃ ys, (SqL K H p ys ∨ SqT K H p ys) ∧ Q (.int ys.length) H
  | _ => False
theorem cLen {K : PySem.W.Frag} (hK : X.K = K := by rfl) : CallR X (.builtin "len") (mLen K) := by
  subst hK
  intro pins s σ H xs us Q I r h
  unfold mLen at h
  split at h
  · exact call_len_str pins s σ H _ us Q I r ⟨_, rfl, h⟩
  · obtain ⟨ys, h1, h2⟩ := h
    exact call_len_seq pins s σ H _ us Q I r ⟨_, ys, rfl, h1, h2⟩
  · exact h.elim
def mInt1 : List V → Hp → VK → Prop := fun xs H Q => match xs with | [.int i] => Q (.int i) H | _ => False
theorem cInt : CallR X (.type "int") mInt1 := by
  intro pins s σ H xs us Q I r h
  unfold mInt1 at h
  split at h
  · exact call_int1 pins s σ H _ us Q I r (.inl ⟨_, rfl, h⟩)
  · exact h.elim
def mListOf (K : PySem.W.Frag) : List V → Hp → VK → Prop := fun xs H Q => match xs with
  | [.ref p] => ∃ ys, (SqL K H p ys ∨ SqT K H p ys) ∧ ∀ l, H l = none → Q (.ref l) (upd H l (.lst ys))
  | _ => False
theorem cListOf {K : PySem.W.Frag} (hK : X.K = K := by rfl) : CallR X (.type "list") (mListOf K) := by
  subst hK
  intro pins s σ H xs us Q I r h
  unfold mListOf at h
  split at h
  · obtain ⟨ys, h1, h2⟩ := h
    exact call_list_of pins s σ H _ us Q I r ⟨_, ys, rfl, h1, h2⟩
  · exact h.elim
/-! ### slices -/
def mSl (K : PySem.W.Frag) : V → Option Int → Option Int → Hp → VK → Prop := fun x lo hi H Q => match x with
  | .str z => z.length ≤ sizeLine ∧ Q (.str (cutS z lo hi)) H
  | .ref a => ∃ xs, SqL K H a xs ∧ ∀ p, H p = none → Q (.ref p) (upd H p (.lst (cutV xs lo hi)))
  | _ => False
theorem sSl {K : PySem.W.Frag} (hK : X.K = K := by rfl) : SlR X (mSl K) := by
  subst hK
  intro pins s σ H x v vl vu lo hi sl Q I rx hs pl pu h
  unfold mSl at h
  split at h
  · exact sl_str pins s σ H _ v vl vu lo hi sl Q I rx hs pl pu ⟨_, rfl, h⟩
  · obtain ⟨xs, h1, h2⟩ := h
    exact sl_list pins s σ H _ v vl vu lo hi sl Q I rx hs pl pu ⟨_, _, rfl, h1, h2⟩
  · exact h.elim
def mPart (te : TE) : TO := fun σ H Q => te σ H fun x H1 => match x with | .int i => Q (some i) H1 | _ => False
theorem oPart {e : Expr} {te : TE} (h : PE X e te) : PO X (some e) (mPart te) := by
  refine ⟨fun pins s σ H Q I hw => ?_⟩
  rw [evalPart_some]
  refine thn (h.run pins s σ H _ I hw) fun u s1 ⟨x, H1, I1, r1, q1⟩ => ?_
  cases x with
  | int i =>
    obtain ⟨t, rfl⟩ := r1
    exact ⟨some i, H1, I1, .int i t, q1⟩
  | _ => exact False.elim q1
/-! ### tests -/
def mT (t : TE) : TT := fun σ H Q => t σ H fun x H1 => match x with | .bl c => Q c H1 | _ => False
theorem tCm {a b : Expr} {ta tb : TE} {pos : Pos} {op : CmpOp} {r : R2} (ho : OpR X (compareOp op) r) (ha : PE X a ta) (hb : PE X b tb) (hm : behindInMarks op b = false) : PT X (.Compare a [op] [b] pos) (mT (tOp r ta tb)) := by
  refine ⟨fun pins s σ H Q I h => ?_⟩
  refine wpAny_isTrue_Compare1 (thn (ha.run pins s σ H _ I h) fun v s1 ⟨x, H1, I1, r1, q1⟩ => thn (hb.run pins s1 σ H1 _ I1 q1) fun u s2 ⟨y, H2, I2, r2, q2⟩ =>
    thn (ho pins s2 σ H2 x y v u _ I2 r1 r2 q2) fun c s3 ⟨z, H3, I3, r3, q3⟩ => ?_) hm
  cases z with
  | bl k =>
    cases r3
    exact wpAny_truthy_bool ⟨H3, I3, q3⟩
  | _ => exact False.elim q3
theorem tVal {e : Expr} {t : TE} (h : PE X e t) (he : ∀ whole, isTrue e X.env whole = (do let v ← whole; standAt e.pos; holding [v] (truthy v)) := by intro _; rfl) : PT X e (mT t) := by
  refine ⟨fun pins s σ H Q I hw => ?_⟩
  refine isTrue_plain (thn (h.run pins s σ H _ I hw) fun v s1 ⟨x, H1, I1, r1, q1⟩ => ?_) (he _)
  cases x with
  | bl k =>
    cases r1
    exact wpAny_truthy_bool ⟨H1, I1, q1⟩
  | _ => exact False.elim q1
/-- a not, as a value of a test -/
def mNotV (t : TT) : TE := fun σ H Q => t σ H fun c H1 => Q (.bl (!c)) H1
end
end Xia

/-! ### defs by one fact -/
namespace Xia
open PySem PySem.Spec PyProof.Rows L2
/-- the def called x keeps the promise sp -/
structure Dfn (P : Program) (w : World) (K : PySem.W.Frag) (mg : Str → Option Value) (base : Heap) (CX : CXT) (k : Nat) (x : Str) (ps : List Str) (sp : Sp) : Prop where
  ex : ∃ (f : Addr) (fd : FuncData), FnOk P w K mg base CX k f fd ps sp ∧ mg x = some (.ref f) ∧ PySem.W.keepIn K (.ref f) = true ∧ Binds K fd ps []
theorem Dfn.imp {P : Program} {w : World} {K : PySem.W.Frag} {mg : Str → Option Value} {base : Heap} {CX : CXT} {k : Nat} {x : Str} {ps : List Str} {sp sp' : Sp} (D : Dfn P w K mg base CX k x ps sp)
    (h : ∀ vs H Q E, sp' vs H Q E → sp vs H Q E) : Dfn P w K mg base CX k x ps sp' := by
  obtain ⟨f, fd, F, r⟩ := D.ex
  exact ⟨f, fd, F.imp h, r⟩
section
variable {X : Cx} {CX : CXT} {k : Nat} {x : Str} {ps : List Str} {sp : Sp} {E : XK} {p pos : Pos} {e : Expr} {es : List Expr} {t : TA}
theorem pC (D : Dfn X.prog X.w X.K X.mg X.base CX k x ps sp) (hr : Room k X.A) (hx : Passes CX X E) (ha : PA X (e :: es) t) (hg : Gl X x := by rfl)
    (hdb : (x == ("__debug__" : Str)) = false := by decide) (he : starEach (e :: es) X.env = (false, eval e X.env) :: starEach es X.env := by rfl) (hpl : (backTo pos (starEach es X.env)).any (·.1) = false := by rfl) :
    PE X (.Call (.Name x p) (e :: es) [] pos) (tCall sp [] E t) := by
  obtain ⟨f, fd, F, hm, hk, hb⟩ := D.ex
  exact pe_call F hr hg hm hk hb .nil hx ha hdb he hpl
/-- in a try's body: what is raised is wished for at the slots -/
theorem pCS {E : L2.St → XK} (D : Dfn X.prog X.w X.K X.mg X.base CX k x ps sp) (hr : Room k X.A) (hx : ∀ σ, PassesAt CX X σ (E σ)) (ha : PA X (e :: es) t) (hg : Gl X x := by rfl)
    (hdb : (x == ("__debug__" : Str)) = false := by decide) (he : starEach (e :: es) X.env = (false, eval e X.env) :: starEach es X.env := by rfl) (hpl : (backTo pos (starEach es X.env)).any (·.1) = false := by rfl) :
    PE X (.Call (.Name x p) (e :: es) [] pos) (tCallS sp E t) := by
  obtain ⟨f, fd, F, hm, hk, hb⟩ := D.ex
  exact pe_callS F hr hg hm hk hb hx ha hdb he hpl
end

/-! ### heaps -/
/-- all but what stands at p is as it was -/
def SameP (p : Addr) (H H' : Hp) : Prop := ∀ b o, b ≠ p → H b = some o → H' b = some o
theorem SameP.refl (p : Addr) (H : Hp) : SameP p H H := fun _ _ _ h => h
theorem SameP.trans {p : Addr} {H H1 H2 : Hp} (a : SameP p H H1) (b : SameP p H1 H2) : SameP p H H2 := fun c o n h => b c o n (a c o n h)
theorem SameP.of {p : Addr} {H H' : Hp} (h : Same H H') : SameP p H H' := fun b o _ e => h b o e
theorem same_upd {H : Hp} {p : Addr} {o : HO} (h : H p = none) : Same H (upd H p o) := fun b x e => by
  rw [upd_ne (ne_of_none e h)]
  exact e
theorem sameP_upd {H : Hp} {p : Addr} {o : HO} : SameP p H (upd H p o) := fun b x n e => by
  rw [upd_ne n]
  exact e
theorem _root_.L2.Same.tup {K : PySem.W.Frag} {H H' : Hp} {a : Addr} {xs : List V} (e : Same H H') (h : SqT K H a xs) : SqT K H' a xs := by
  rcases h with (h | ⟨o, h⟩) | h
  · exact .inl (.inl (e _ _ h))
  · exact .inl (.inr ⟨o, e _ _ h⟩)
  · exact .inr h
theorem SameP.seq {K : PySem.W.Frag} {H H' : Hp} {p a : Addr} {xs : List V} (e : SameP p H H') (n : a ≠ p) (h : SqL K H a xs) : SqL K H' a xs := by
  rcases h with (h | ⟨o, h⟩) | h
  · exact .inl (.inl (e _ _ n h))
  · exact .inl (.inr ⟨o, e _ _ n h⟩)
  · exact .inr h
theorem SameP.tup {K : PySem.W.Frag} {H H' : Hp} {p a : Addr} {xs : List V} (e : SameP p H H') (n : a ≠ p) (h : SqT K H a xs) : SqT K H' a xs := by
  rcases h with (h | ⟨o, h⟩) | h
  · exact .inl (.inl (e _ _ n h))
  · exact .inl (.inr ⟨o, e _ _ n h⟩)
  · exact .inr h
theorem _root_.L2.Same.upd_new {H H' : Hp} {p : Addr} {o : HO} (s : Same H H') (n : H p = none) : Same H (upd H' p o) := fun b x e => by
  rw [upd_ne (ne_of_none e n)]
  exact s b x e
theorem SameP.upd_new {H H' : Hp} {q p : Addr} {o : HO} (s : SameP q H H') (n : H p = none) : SameP q H (upd H' p o) := fun b x m e => by
  rw [upd_ne (ne_of_none e n)]
  exact s b x m e
theorem none_of_upd {H : Hp} {p q : Addr} {o : HO} (h : upd H p o q = none) : H q = none ∧ q ≠ p := by
  have n : q ≠ p := fun z => by rw [z, upd_same] at h; cases h
  rw [upd_ne n] at h
  exact ⟨h, n⟩
theorem ixN_n {n j : Nat} (h : j < n) : ixN n (j : Int) = some j := by
  unfold ixN
  rw [if_pos (by omega), if_pos (by omega), Int.toNat_natCast]
theorem at_int {α : Type} {xs : List α} {r : Int} (h0 : 0 ≤ r) (h1 : r < xs.length) : ∃ v ∈ xs, atI xs r = some v := by
  obtain ⟨j, rfl⟩ : ∃ j : Nat, r = j := ⟨r.toNat, by omega⟩
  have hj : j < xs.length := by omega
  exact ⟨xs[j], List.getElem_mem hj, atI_nat (List.getElem?_eq_getElem hj)⟩
theorem str_len (z : Str) : z.cps.toList.length = z.length := by simp [Str.length]
/-! ### exceptions as values -/
/-- an exception object of the own class at D, without a dict, caught or made -/
def ExK (D : Addr) (a : Addr) : HO := .ext fun h => ∃ (oe : Obj) (vs : Array Value), h.get? a = some oe ∧ Zc (.ref D) none oe ∧ oe.data = .fields vs
theorem exK_ok {P : Program} {w : World} {H : Hp} {h : Heap} {a D : Addr} {oe : Obj} {vs : Array Value} (e : h.get? a = some oe) (z : Zc (.ref D) none oe) (d : oe.data = .fields vs) : ObjOk P w H h a (ExK D a) :=
  ⟨⟨oe, vs, e, z, d⟩, ⟨oe, e⟩, fun _ _ ⟨o, v, q, r⟩ k => ⟨o, v, k o q, r⟩⟩
def ExAt (H : Hp) (a D : Addr) : Prop := H a = some (ExO (.ref D) a) ∨ H a = some (ExK D a)
theorem ExAt.inst {P : Program} {w : World} {H : Hp} {h : Heap} {a D : Addr} (x : ExAt H a D) (ok : HOk P w H h) : ∃ oe, PySem.W.InstAt h a oe D none := by
  have : ∃ (oe : Obj) (vs : Array Value), h.get? a = some oe ∧ Zc (.ref D) none oe ∧ oe.data = .fields vs := by
    rcases x with x | x
    · obtain ⟨⟨oe, vs, e, z, d, _⟩, _⟩ := ok a _ x
      exact ⟨oe, vs, e, z, d⟩
    · obtain ⟨⟨oe, vs, e, z, d⟩, _⟩ := ok a _ x
      exact ⟨oe, vs, e, z, d⟩
  obtain ⟨oe, vs, e, z, d⟩ := this
  refine ⟨oe, ?_⟩
  obtain ⟨oc, od, oda, osl⟩ := oe
  obtain ⟨h1, h2⟩ := z
  dsimp only at h1 h2 d
  subst h1 h2 d
  exact ⟨e, rfl, rfl, trivial⟩
theorem ExAt.same {H H' : Hp} {a D : Addr} (x : ExAt H a D) (s : Same H H') : ExAt H' a D := x.imp (s _ _) (s _ _)
theorem ExAt.sameP {H H' : Hp} {a D p : Addr} (x : ExAt H a D) (s : SameP p H H') (n : a ≠ p) : ExAt H' a D := x.imp (s _ _ n) (s _ _ n)
/-- isinstance of an exception object -/
def rIsX (K : PySem.W.Frag) : List V → Hp → VK → Prop := fun xs H Q => ∃ (a D : Addr) (c : V) (u : Value) (b : Bool), xs = [.ref a, c] ∧ ClsV c u ∧ ExAt H a D ∧ ExcC K D ∧ PySem.W.kitOne K (.ref D) u = some b ∧ Q (.bl b) H
theorem cIsX {X : Cx} : CallR X (.builtin "isinstance") (rIsX X.K) := by
  intro pins s σ H xs us Q I r h
  obtain ⟨a, D, c, u, b, rfl, k, hx, C, e, q⟩ := h
  obtain ⟨u1, u2, rfl, r1, r2⟩ := vals2 r
  have e2 := k.eq r2
  subst e2
  cases (show u1 = Value.ref a from r1)
  obtain ⟨oe, J⟩ := hx.inst I.hok
  exact PySem.W.kia_one (PySem.W.handS_kitx_exc C.hg C.hk C.hs C.hd C.ha C.hn C.ht C.hm) I.kIn J e (fun z => nomatch z) fun tk => ⟨.bl b, H, I.tok tk, rfl, q⟩
/-- both: of a plain value or of an exception object -/
def rIs (K : PySem.W.Frag) : List V → Hp → VK → Prop := fun xs H Q => rIsi K xs H Q ∨ rIsX K xs H Q
theorem cIs {X : Cx} {K : PySem.W.Frag} (hK : X.K = K := by rfl) : CallR X (.builtin "isinstance") (rIs K) := by
  subst hK
  intro pins s σ H xs us Q I r h
  rcases h with h | h
  · exact call_isi pins s σ H xs us Q I r h
  · exact cIsX pins s σ H xs us Q I r h
/-- a caught exception is tracked from now on -/
theorem Inv.track {X : Cx} {pins : List (Addr × Obj)} {σ : L2.St} {H : Hp} {s : Shared} {a : Addr} {o : HO} (I : Inv X pins σ H s) (na : H a = none) (nL : a ≠ X.env.locals) (nF : a ∉ X.fs)
    (nC : ∀ x c, X.env.cells.lookup x = some c → c ≠ a) (nP : ∀ p ∈ X.pn ++ pins, p.1 ≠ a) (n0 : X.s_0.heap.get? a = none) (new : ObjOk X.prog X.w (upd H a o) s.heap a o) : Inv X pins σ (upd H a o) s := by
  have ne : ∀ b u, H b = some u → b ≠ a := fun b u e => ne_of_none e na
  refine ⟨I.ok, I.os, I.bare, ⟨fun b ob e n hb hx => I.base.keep b ob e n hb hx, fun b ob e n hb hx => I.base.slot b ob e n hb hx, fun b ob e n hx => ?_, I.base.there, fun b xs e => ?_, fun b ob u e => ?_, fun b ps e => ?_⟩, I.loc, I.cell, ?_, fun x c e => ?_, fun p hp => ?_, fun b u e => ?_, I.len⟩
  · rw [upd_ne (fun z => by rw [z, n0] at e; cases e)]
    exact I.base.free b ob e n hx
  · have q := I.base.tups b xs e
    rw [upd_ne (ne b _ q)]
    exact q
  · have q := I.base.frzs b ob u e
    rw [upd_ne (ne b _ q)]
    exact q
  · obtain ⟨m, q⟩ := I.base.tbls b ps e
    exact ⟨m, by rw [upd_ne (ne b _ q)]; exact q⟩
  · rw [upd_ne (Ne.symm nL)]
    exact I.free
  · rw [upd_ne (nC x c e)]
    exact I.freeC x c e
  · obtain ⟨e, n, h1, h2, h3⟩ := I.pin p hp
    exact ⟨e, by rw [upd_ne (nP p hp)]; exact n, h1, h2, h3⟩
  · by_cases hb : b = a
    · subst hb
      rw [upd_same] at e
      cases e
      exact new
    · rw [upd_ne hb] at e
      exact (I.hok b u e).stay (fun c v _ q => q) (fun c q => by rw [upd_ne (ne c _ q)]; exact q) fun c xs q => by rw [upd_ne (ne c _ q)]; exact q
theorem Inv.suiteN {X : Cx} {pins : List (Addr × Obj)} {σ : L2.St} {H : Hp} {s : Shared} (I : Inv X pins σ H s) (a : Addr) : Inv (X.suite a (X.pn ++ pins)) [] σ H s :=
  ⟨I.ok.suite _ _, I.os, I.bare, I.base, I.loc, I.cell, I.free, I.freeC, fun p hp => I.pin p (by rw [List.append_nil] at hp; exact hp), I.hok, I.len⟩
theorem Inv.unsuiteN {X : Cx} {pins pn' : List (Addr × Obj)} {σ : L2.St} {H : Hp} {s : Shared} {a : Addr} (I : Inv (X.suite a (X.pn ++ pins)) pn' σ H s) (ok : X.Ok) : Inv X pins σ H s :=
  ⟨ok, I.os, I.bare, I.base, I.loc, I.cell, I.free, I.freeC, fun p hp => I.pin p (List.mem_append_left _ hp), I.hok, I.len⟩
/-- what the clause «except x as n» wishes, where the exception outlives it: slot i is n's; in the suite the exception stands at a, tracked -/
def wCt (K : PySem.W.Frag) (c : Value) (i : Nat) (ts : TS) (Wout : WX) (D : Ends) : WX := fun cls d σ H =>
  ∃ b, PySem.W.exmOne K cls c = some b ∧ (b = true → ∃ C, cls = .ref C ∧ d = none ∧ ∀ a, H a = none → ts { nx := fun σ' H' => D.nx (σ'.set i none) H', rt := D.rt, bk := fun σ' H' => D.bk (σ'.set i none) H', ct := fun σ' H' => D.ct (σ'.set i none) H' } (σ.set i (some (.ref a))) (upd H a (ExK C a))) ∧
    (b = false → Wout cls d σ H)
section
variable {X : Cx} {x n : Str} {c : Value} {i : Nat} {body suite : List Stmt} {b₀ : Stmt} {np pos pos' : Pos} {tb : WX → TS} {ts : TS} {Wout : WX}
theorem sCatch (hs : X.stack = X.env :: X.outer) (hf : X.env.frame = some X.env.locals) (hex : X.ex = []) (hN : X.N.Nodup) (hi : X.N[i]? = some n) (hln : X.env.kindOf n = some .local) (hc : Names X x c) (tk : Takes X Wout)
    (hb : ∀ (W : WX) (pn : List (Addr × Obj)) (xe : Value → Shared → Prop), Takes (X.tr pn xe) W → PassesOwn (model X.prog X.w) X.A X.env xe → PSs (X.tr pn xe) body (tb W))
    (hsu : ∀ (a : Addr) (pn : List (Addr × Obj)), PSs (X.suite a pn) (b₀ :: suite) ts) :
    PS X (.Try body [.ExceptHandler (some (.Name x np)) (some n) (b₀ :: suite) pos'] [] [] pos) (fun D σ H => tb (wCt X.K c i ts Wout D) D σ H) := by
  refine ⟨fun pins s σ H D I h => ?_⟩
  have ok := I.ok
  have hfr : X.A.frames = some (X.env :: X.outer) := by rw [ok.frames, hs]
  have hloc : Loc X.env.scope n := .inl hln
  refine wpAny_Try_except ?_
  refine wpAny_mono ((hb (wCt X.K c i ts Wout D) (X.pn ++ pins) (fun e s₁ => wpAny (model X.prog X.w) X.A (noteFrame e X.env) (fun _ s₂ => wpAny (model X.prog X.w) X.A (setFlight e none) (fun _ s₃ =>
    wpAny (model X.prog X.w) X.A (handleBy e X.env [.ExceptHandler (some (.Name x np)) (some n) (b₀ :: suite) pos']) (SP X pins D) X.xe s₃) X.xe s₂) X.xe s₁) (fun u s' xx => ?_) PassesOwn.looking).run [] s σ H D (I.toTry _) h) (fun f s1 hsp => ?_) (fun e s1 he => he)
  · -- the catch
    obtain ⟨a, B, sI, pins', σ', H', cls, d, rfl, J', nb, up, sky, na, os, ag, b, hb1, hyes, hno⟩ := xx
    have J : Inv X pins σ' H' sI := J'.ofTry ok
    have sky' : Sky B (X.env :: X.outer) a (Zc cls d) X.env.locals s'.heap := by rw [← hs]; exact sky
    show wpAny (model X.prog X.w) X.A (noteFrame (.ref a) X.env) _ _ _
    refine Sky.land Zc.steady hfr hf sky' fun h3 fl3 up3 => ?_
    have J3 : Inv X pins σ' H' { s' with heap := h3 } := J.landed nb fl3.1 (up.trans up3) os ag
    obtain ⟨oe3, vs3, he3, hz3, hd3⟩ := fl3.there
    have hB : B.get? a = none := fl3.2.1
    have notFr : ∀ {h : Heap} {o : Obj} {vs : Array Value}, h.FunFrames B (X.env :: X.outer) → h.get? a = some o → o.data = .fields vs → a ∉ frs (X.env :: X.outer) := fun {h o vs} ff e dd hm => by
      obtain ⟨_, o', e', hnf⟩ := ff.mem hm
      rw [e] at e'; cases e'
      exact hnf _ dd
    have nfr := notFr fl3.2.2.1 he3 hd3
    have nL : a ≠ X.env.locals := fun z => nfr (List.mem_filterMap.mpr ⟨X.env, List.mem_cons_self, by rw [hf, z]⟩)
    have nF : a ∉ X.fs := fun hm => by
      obtain ⟨e, he, q⟩ := List.mem_filterMap.mp hm
      exact nfr (List.mem_filterMap.mpr ⟨e, List.mem_cons_of_mem _ he, q⟩)
    have nI : ∀ b o, sI.heap.get? b = some o → b ≠ X.env.locals → b ∉ X.fs → b ≠ a := fun b o e h1 h2 z => by
      subst z
      have q := nb b o e fun hm => by rw [hs] at hm; exact nfr hm
      rw [hB] at q; cases q
    have n0 : X.s_0.heap.get? a = none := by
      cases e : X.s_0.heap.get? a with
      | none => rfl
      | some o =>
        obtain ⟨o', e'⟩ := J.base.there a o e (by rw [hex]; exact fun z => nomatch z)
        exact absurd rfl (nI a o' e' nL nF)
    have nP : ∀ p ∈ X.pn ++ pins, p.1 ≠ a := fun p hp => by
      obtain ⟨e, _, h1, h2, _⟩ := J.pin p hp
      exact nI p.1 p.2 e h1 h2
    have S3 := J3.suite he3 hd3 na nL nF
    refine wpAny_handleBy_cons (codeAny_handlers_test ?_) (by intro q; cases q)
    have LT : PySem.W.Looks (model X.prog X.w) h3 (typeOf (.ref a)) cls := fun A Q E s k q => wpAny_typeOf_ref (k _ _ he3) (by rw [hz3.1]; exact q)
    have LM := PySem.W.exm_one (M := model X.prog X.w) (J3.kIn) LT hb1
    have test : ∀ {Q : Value → Shared → Prop} {E : Value → Shared → Prop}, Q c { s' with heap := h3 } → wpAny (model X.prog X.w) (X.A.mark (some (.ref a))) (eval (.Name x np) X.env) Q E { s' with heap := h3 } := fun {Q E} q => by
      obtain ⟨hg, hdbg, hm | ⟨hm, hv, hnn⟩⟩ := hc
      · exact ld_glob (X := X.suite a ((a, oe3) :: (X.pn ++ pins))) S3 hg hm q hdbg
      · exact ld_blt (X := X.suite a ((a, oe3) :: (X.pn ++ pins))) S3 hg hm hv q hnn hdbg
    refine test (LM.here ?_)
    cases b with
    | true =>
      obtain ⟨C, e1, e2, hy2⟩ := hyes rfl
      subst e1
      subst e2
      refine codeAny_handlers_suite_as ?_
      refine HandSPX.lands_againZ fl3 fun h4 fl4 up4 => ?_
      have J4 : Inv X pins σ' H' { s' with heap := h4 } := J.landed nb fl4.1 ((up.trans up3).trans up4) os ag
      obtain ⟨oe4, vs4, he4, hz4, hd4⟩ := fl4.there
      have nC : ∀ x c, X.env.cells.lookup x = some c → c ≠ a := fun x c e z => by
        obtain ⟨v, o, ho, hd⟩ := J4.cell x c e
        rw [z] at ho
        have e1 := ho.symm.trans he4
        cases e1
        rw [hd4] at hd; cases hd
      have T4 : Inv X pins σ' (upd H' a (ExK C a)) { s' with heap := h4 } := Inv.track J4 na nL nF nC nP n0 (exK_ok he4 hz4 hd4)
      have S4 := Inv.suiteN T4 a
      refine store_ok (X := X.suite a (X.pn ++ pins)) (v := .ref a) S4 hN hi hloc rfl (fun s5 S5 => ?_) (.inr hln)
      refine wpAny_mono ((hsu a (X.pn ++ pins)).run [] s5 _ _ _ S5 (hy2 a na)) (fun f s6 hsp => ?_) (fun _ _ z => False.elim z)
      have end_ : ∀ {σ6 : L2.St} {H6 : Hp} {Q : Shared → Prop}, Inv (X.suite a (X.pn ++ pins)) [] σ6 H6 s6 → (∀ s7, Inv X pins (σ6.set i none) H6 s7 → Q s7) →
          wpAny (model X.prog X.w) X.A (do bindName X.env n .none; unbindBehindTheSuite X.env n pos') (fun _ s7 => Q s7) X.xe s6 := fun {σ6 H6 Q} S6 hq => gone_ok (Inv.unsuiteN S6 ok) hN hi hln hq
      cases f with
      | next =>
        obtain ⟨σ6, H6, S6, q6⟩ := hsp
        exact end_ S6 fun s7 J7 => ⟨_, _, J7, q6⟩
      | brk =>
        obtain ⟨σ6, H6, S6, q6⟩ := hsp
        exact end_ S6 fun s7 J7 => ⟨_, _, J7, q6⟩
      | cont =>
        obtain ⟨σ6, H6, S6, q6⟩ := hsp
        exact end_ S6 fun s7 J7 => ⟨_, _, J7, q6⟩
      | ret u =>
        obtain ⟨v6, σ6, H6, S6, r6, q6⟩ := hsp
        exact end_ S6 fun s7 J7 => ⟨_, _, _, J7, r6, q6⟩
    | false =>
      show wpAny _ X.A (handleBy (.ref a) X.env []) _ _ _
      refine wpAny_handleBy_nil ?_
      obtain ⟨k1, k2, k3, oe, vs, T, oT, ts', he, hz, hd, h1, hr⟩ := id fl3
      unfold PySem.passOn
      refine wpAny_bind (wpAny_field he hd h1 ?_)
      rw [if_neg (show ¬ ((Value.ref T == Value.none) = true) from by simp)]
      have fin : wpAny (model X.prog X.w) X.A (setFlight (.ref a) X.env.frame) (fun _ s4 => wpAny (model X.prog X.w) X.A (throw (.ref a) : Sem Flow) (SP X pins D) X.xe s4) X.xe { s' with heap := h3 } := by
        rw [hf]
        refine HandSPX.setFlight_upZ fl3 fun h4 hh4 up4 => wpAny_throw (tk _ _ ?_)
        exact ⟨a, B, sI, pins, σ', H', cls, d, rfl, J, nb, (up.trans up3).trans up4, .inr (.inr (by rw [hs]; exact hh4)), na, os, ag, hno rfl⟩
      first
        | exact wpAny_bind (wpAny_pure (wpAny_bind fin))
        | exact wpAny_bind fin
  · cases f with
    | next =>
      obtain ⟨σ', H', J', q⟩ := hsp
      exact wpAny_execs_nil ⟨σ', H', J'.ofTry ok, q⟩
    | brk =>
      obtain ⟨σ', H', J', q⟩ := hsp
      exact ⟨σ', H', J'.ofTry ok, q⟩
    | cont =>
      obtain ⟨σ', H', J', q⟩ := hsp
      exact ⟨σ', H', J'.ofTry ok, q⟩
    | ret u =>
      obtain ⟨v, σ', H', J', r, q⟩ := hsp
      exact ⟨v, σ', H', J'.ofTry ok, r, q⟩
end
end Xia

/-! ### promises by the number of arguments; walks of any kind -/
namespace Xia
open PySem PySem.Spec PyProof.Rows L2
def Sp1 (B : V → Hp → VK → XK → Prop) : Sp := fun vs H Q E => match vs with | [x] => B x H Q E | _ => False
def Sp2 (B : V → V → Hp → VK → XK → Prop) : Sp := fun vs H Q E => match vs with | [x, y] => B x y H Q E | _ => False
def Sp3 (B : V → V → V → Hp → VK → XK → Prop) : Sp := fun vs H Q E => match vs with | [x, y, z] => B x y z H Q E | _ => False
def Sp4 (B : V → V → V → V → Hp → VK → XK → Prop) : Sp := fun vs H Q E => match vs with | [x, y, z, u] => B x y z u H Q E | _ => False
section
variable {vs : List V} {H : Hp} {Q : VK} {E : XK}
theorem Sp1.of {B : V → Hp → VK → XK → Prop} (h : Sp1 B vs H Q E) : ∃ x, vs = [x] ∧ B x H Q E := by
  match vs, h with
  | [x], h => exact ⟨x, rfl, h⟩
  | [], h => exact False.elim h
  | _ :: _ :: _, h => exact False.elim h
theorem Sp2.of {B : V → V → Hp → VK → XK → Prop} (h : Sp2 B vs H Q E) : ∃ x y, vs = [x, y] ∧ B x y H Q E := by
  match vs, h with
  | [x, y], h => exact ⟨x, y, rfl, h⟩
  | [], h => exact False.elim h
  | [_], h => exact False.elim h
  | _ :: _ :: _ :: _, h => exact False.elim h
theorem Sp3.of {B : V → V → V → Hp → VK → XK → Prop} (h : Sp3 B vs H Q E) : ∃ x y z, vs = [x, y, z] ∧ B x y z H Q E := by
  match vs, h with
  | [x, y, z], h => exact ⟨x, y, z, rfl, h⟩
  | [], h => exact False.elim h
  | [_], h => exact False.elim h
  | [_, _], h => exact False.elim h
  | _ :: _ :: _ :: _ :: _, h => exact False.elim h
theorem Sp4.of {B : V → V → V → V → Hp → VK → XK → Prop} (h : Sp4 B vs H Q E) : ∃ x y z u, vs = [x, y, z, u] ∧ B x y z u H Q E := by
  match vs, h with
  | [x, y, z, u], h => exact ⟨x, y, z, u, rfl, h⟩
  | [], h => exact False.elim h
  | [_], h => exact False.elim h
  | [_, _], h => exact False.elim h
  | [_, _, _], h => exact False.elim h
  | _ :: _ :: _ :: _ :: _ :: _, h => exact False.elim h
theorem Sp1.len {B : V → Hp → VK → XK → Prop} (h : Sp1 B vs H Q E) : vs.length = 1 := by
  obtain ⟨x, rfl, _⟩ := h.of; rfl
theorem Sp2.len {B : V → V → Hp → VK → XK → Prop} (h : Sp2 B vs H Q E) : vs.length = 2 := by
  obtain ⟨x, y, rfl, _⟩ := h.of; rfl
theorem Sp3.len {B : V → V → V → Hp → VK → XK → Prop} (h : Sp3 B vs H Q E) : vs.length = 3 := by
  obtain ⟨x, y, z, rfl, _⟩ := h.of; rfl
theorem Sp4.len {B : V → V → V → V → Hp → VK → XK → Prop} (h : Sp4 B vs H Q E) : vs.length = 4 := by
  obtain ⟨x, y, z, u, rfl, _⟩ := h.of; rfl
end
section
variable {P : Program} {w : World} {K : PySem.W.Frag} {mg : Str → Option Value} {base : Heap} {x : Str} {st : Stmt} {f : Addr} {fd : FuncData} {N ps : List Str} {k : Nat} {sp : Sp}
/-- a def that lets nothing out -/
theorem Dfn.mk0 (F : Fun K x x st f fd) (hm : mg x = some (.ref f)) (hb : Binds K fd ps []) (S : FnScope N ps (defScope st)) (len : ∀ vs H Q E, sp vs H Q E → vs.length = ps.length)
    (hbody : ∀ (cdv : Value) (A : Around) (outer : List Env) (s : Shared) (H : Hp) (vs : List V) (Q : VK) (E : XK), Room k (A.deeper (envOfC x (defScope st) s.heap.objs.size f cdv)) → sp vs H Q E →
      ∃ t, PSs (cxOf CX0 P w K mg base N x (defScope st) f cdv A outer s H E).nox (defBody st) t ∧ t { nx := fun _ H' => Q .non H', rt := Q } (start N vs) H) : Dfn P w K mg base CX0 (k + 1) x ps sp :=
  ⟨f, fd, F.ok S len hbody, hm, F.kp, hb⟩
/-- a def that may raise -/
theorem Dfn.mkX (F : Fun K x x st f fd) (hm : mg x = some (.ref f)) (hb : Binds K fd ps []) (S : FnScope N ps (defScope st)) (len : ∀ vs H Q E, sp vs H Q E → vs.length = ps.length)
    (hbody : ∀ (cdv : Value) (A : Around) (outer : List Env) (s : Shared) (H : Hp) (vs : List V) (Q : VK) (E : XK), Room k (A.deeper (envOfC x (defScope st) s.heap.objs.size f cdv)) → sp vs H Q E →
      ∃ t, PSs (cxOf (L2.CX P w) P w K mg base N x (defScope st) f cdv A outer s H E) (defBody st) t ∧ t { nx := fun _ H' => Q .non H', rt := Q } (start N vs) H) : Dfn P w K mg base (L2.CX P w) (k + 1) x ps sp :=
  ⟨f, fd, F.okX S len hbody, hm, F.kp, hb⟩
end
section
variable {X : Cx} {tg e : Expr} {te : TE}
/-- a text, a list or a tuple is walked -/
def iAny (K : PySem.W.Frag) (te : TE) : TI := fun σ H R => te σ H fun v H1 => match v with
  | .str z => R (Its z) H1
  | .ref a => (∃ xs, SqL K H1 a xs ∧ R (Itl K a) H1) ∨ (∃ xs, SqT K H1 a xs ∧ R (Itt K a) H1)
  | _ => False
def iVal (K : PySem.W.Frag) (v : V) : TI := fun _ H R => match v with
  | .str z => R (Its z) H
  | .ref a => (∃ xs, SqL K H a xs ∧ R (Itl K a) H) ∨ (∃ xs, SqT K H a xs ∧ R (Itt K a) H)
  | _ => False
theorem pI {K : PySem.W.Frag} (he : PE X e te) (hK : X.K = K := by rfl) : PI X tg e (iAny K te) := by
  subst hK
  refine ⟨fun pins s σ H R I h => ?_⟩
  refine thn (he.run pins s σ H _ I h) fun v s1 ⟨y, H1, I1, r1, q⟩ => ?_
  cases y with
  | str x =>
    obtain ⟨t, rfl⟩ := r1
    cases ha : x.cps.all (· < 128)
    · exact wpAny_pyIter_wide ha (pi_one (tk := s1.toks) I1 _ (turn_str _ x t "str_iterator" (.inr rfl)) ⟨_, Heap.get?_push_size _ rfl, rfl, rfl⟩ q)
    · exact wpAny_pyIter_ascii ha (pi_one (tk := s1.toks) I1 _ (turn_str _ x t "str_ascii_iterator" (.inl rfl)) ⟨_, Heap.get?_push_size _ rfl, rfl, rfl⟩ q)
  | ref a =>
    cases (show v = Value.ref a from r1)
    rcases q with ⟨xs, hq, q⟩ | ⟨xs, hq, q⟩
    · obtain ⟨its, rv, p, hz⟩ := I1.list hq
      refine wpAny_pyIter_list p.isList ?_
      refine ⟨s1.heap.objs.size, [s1.heap.objs.size], _, _, H1, rfl, I1.kept (t' := s1.toks) fun b o e => Heap.get?_push_of_some _ e, turn_list a _, ⟨_, Heap.get?_push_size _ rfl, rfl, rfl⟩, fun b hb => ?_, q⟩
      have e : b = s1.heap.objs.size := by simpa using hb
      subst e
      exact I1.fpOk (Nat.le_refl _) (I1.hok.fresh (Nat.le_refl _))
    · obtain ⟨its, rv, p, hz⟩ := I1.tuple hq
      refine wpAny_pyIter_tuple (show s1.heap.IsTuple a its.toArray from p) ?_
      refine ⟨s1.heap.objs.size, [s1.heap.objs.size], _, _, H1, rfl, I1.kept (t' := s1.toks) fun b o e => Heap.get?_push_of_some _ e, turn_tuple a _, ⟨_, Heap.get?_push_size _ rfl, rfl, rfl⟩, fun b hb => ?_, q⟩
      have e : b = s1.heap.objs.size := by simpa using hb
      subst e
      exact I1.fpOk (Nat.le_refl _) (I1.hok.fresh (Nat.le_refl _))
  | _ => exact False.elim q
end
end Xia

/-! ### an exception's class -/
namespace Xia
open PySem PySem.Spec PyProof.Rows L2
/-- a constant of the module -/
def Cst (mg : Str → Option Value) (x : Str) (v : V) : Prop := ∃ u, mg x = some u ∧ RelV v u
theorem pK {X : Cx} {x : Str} {v : V} {pos : Pos} (h : Cst X.mg x v) (hg : Gl X x := by rfl) (hd : (x == ("__debug__" : Str)) = false := by decide) : PE X (.Name x pos) (tC v) := by
  obtain ⟨u, h1, h2⟩ := h
  exact pe_glob hg h1 h2 hd
abbrev veAll : List Value := [.type "ValueError", .type "Exception", .type "BaseException", .type "object"]
structure XC (K : PySem.W.Frag) (mg : Str → Option Value) (x : Str) (C : Addr) : Prop where
  gC : mg x = some (.ref C)
  ex : PySem.W.excIn K C veAll "ValueError.__new__" = true
  kp : PySem.W.keepIn K (.ref C) = true
  sub : PySem.W.subIn K (.ref C) (.type "BaseException") = some true
  ty : PySem.W.typeIn K (.ref C) = some (.type "type")
  cls : ExcC K C
def excCB (K : PySem.W.Frag) (C : Addr) : Bool :=
  PySem.W.keepIn K (.ref C) && PySem.W.subIn K (.ref C) (.type "BaseException") == some true && PySem.W.typeIn K (.ref C) == some (.type "type") &&
  PySem.W.findIn K (.ref C) "__getattribute__" == some (some (.builtin "BaseException.__getattribute__")) && PySem.W.findIn K (.ref C) "__getattr__" == some none && PySem.W.hasDictIn K C &&
  PySem.W.findIn K (.ref C) "__class__" == some (some (.builtin "object.__class__")) && PySem.W.specialIn K (.builtin "object.__class__") "__get__" == some (some (.builtin "getset_descriptor.__get__")) &&
  PySem.W.takesIn K (.builtin "object.__class__") == some true && PySem.W.mroIn K C (.type "object") == some true
theorem XC.of {K : PySem.W.Frag} {h : Heap} {mg : Str → Option Value} {x : Str} {C : Addr} (X : K.In h) (G : h.Ns mainGlobals mg) (e : PySem.W.nsIn K mainGlobals x = some (some (.ref C)))
    (y : PySem.W.excIn K C veAll "ValueError.__new__" = true) (w : excCB K C = true) : XC K mg x C := by
  unfold excCB at w
  simp only [Bool.and_eq_true, beq_iff_eq] at w
  obtain ⟨⟨⟨⟨⟨⟨⟨⟨⟨w1, w2⟩, w3⟩, w4⟩, w5⟩, w6⟩, w7⟩, w8⟩, w9⟩, w10⟩ := w
  exact ⟨PySem.W.mg_of X G e, y, w1, w2, w3, ⟨w4, w5, w2, w6, w7, w8, w9, w10⟩⟩
theorem XC.rs {X : Cx} {x : Str} {C : Addr} (c : XC X.K X.mg x C) : Raises X (.ref C) := raises_own c.sub c.ty
theorem XC.names {X : Cx} {x : Str} {C : Addr} (c : XC X.K X.mg x C) (hg : Gl X x := by rfl) (hd : (x == ("__debug__" : Str)) = false := by decide) : Names X x (.ref C) := ⟨hg, hd, .inl c.gC⟩
/-- what isinstance of the own classes answers: rows by columns -/
def kitTab (K : PySem.W.Frag) (ts cs : List Value) (r : List (List Bool)) : Bool :=
  (ts.zip r).all fun p => (cs.zip p.2).all fun q => PySem.W.kitOne K p.1 q.1 == some q.2
theorem all_ix {α : Type} {p : α → Bool} {l : List α} (h : l.all p = true) {i : Nat} {x : α} (e : l[i]? = some x) : p x = true := List.all_eq_true.mp h x (List.mem_of_getElem? e)
theorem kitTab_at {K : PySem.W.Frag} {ts cs : List Value} {r : List (List Bool)} (h : kitTab K ts cs r = true) {i j : Nat} {t c : Value} {row : List Bool} {b : Bool} (e1 : ts[i]? = some t) (e2 : r[i]? = some row) (e3 : cs[j]? = some c) (e4 : row[j]? = some b) : PySem.W.kitOne K t c = some b := by
  unfold kitTab at h
  have z1 : (ts.zip r)[i]? = some (t, row) := by rw [List.getElem?_zip_eq_some]; exact ⟨e1, e2⟩
  have q := all_ix h z1
  have z2 : (cs.zip row)[j]? = some (c, b) := by rw [List.getElem?_zip_eq_some]; exact ⟨e3, e4⟩
  have q2 := all_ix q z2
  exact beq_iff_eq.mp q2
/-! ### data -/
theorem dp_bls {K : PySem.W.Frag} {H : Hp} : ∀ bs : List Bool, DpAll K H (bs.map V.bl) (bs.map PyData.bool)
  | [] => .nil
  | b :: r => .cons (.bl b) (dp_bls r)
theorem bls_lay : ∀ bs : List Bool, PyData.canLayAll0 (bs.map PyData.bool) = true ∧ PyData.depthAll (bs.map PyData.bool) = 0
  | [] => ⟨rfl, rfl⟩
  | b :: r => by
    obtain ⟨h1, h2⟩ := bls_lay r
    refine ⟨?_, ?_⟩
    · show (PyData.canLay0 (.bool b) && PyData.canLayAll0 (r.map PyData.bool)) = true
      rw [h1]; rfl
    · show max (PyData.depth (.bool b)) (PyData.depthAll (r.map PyData.bool)) = 0
      rw [h2]; rfl
theorem canLay_bls (bs : List Bool) : (PyData.list (bs.map PyData.bool)).canLay0 = true ∧ (PyData.list (bs.map PyData.bool)).depth ≤ 64 := by
  obtain ⟨h1, h2⟩ := bls_lay bs
  refine ⟨h1, ?_⟩
  show PyData.depthAll (bs.map PyData.bool) + 1 ≤ 64
  omega
theorem eqb_bls {K : PySem.W.Frag} {H : Hp} {p q : Addr} {bs cs : List Bool} (h1 : SqL K H p (bs.map V.bl)) (h2 : SqL K H q (cs.map V.bl)) (e : bs = cs) : EqB K H (.ref p) (.ref q) true := by
  subst e
  obtain ⟨c1, c2⟩ := canLay_bls bs
  have sh : SeqAt.shaped (PyData.list (bs.map PyData.bool)) = true := by
    unfold SeqAt.shaped
    rw [c1, decide_eq_true c2]
    rfl
  exact ⟨_, _, .lst h1 (dp_bls bs), .lst h2 (dp_bls bs), sh, sh, (SeqAt.eqv_refl _ c1).symm⟩
/-- a text may be repeated so often -/
theorem mulOk {x : Str} {n : Int} (h0 : 0 ≤ n) (h1 : n ≤ 1000000) (h2 : x.length * n.toNat ≤ 16777216) (h3 : x.length ≤ 1000000) : MulOk x n := by
  have hz := sizeLine_eq
  refine ⟨?_, fun c _ => ?_, fun _ _ => ?_⟩
  · rw [decide_eq_false (by omega), decide_eq_false (by omega)]; rfl
  · have e : (2 ^ 63 - 1 : Int) / n ≥ 9000000000000 := by
      refine Int.le_ediv_of_mul_le (by omega) ?_
      omega
    omega
  · unfold Builtin.Str.tooLong
    rw [decide_eq_false (by omega)]
end Xia

set_option Elab.async false
set_option linter.all false
set_option maxRecDepth 100000
set_option maxHeartbeats 4000000
/-! ### defs in which a list's text is made: no such text is under way around them -/
namespace Xia
open PySem PySem.Spec PyProof.Rows L2
abbrev NoRep (A : Around) : Prop := A.guards = some []
structure FnG (P : Program) (w : World) (K : PySem.W.Frag) (mg : Str → Option Value) (base : Heap) (CX : CXT) (k : Nat) (f : Addr) (fd : FuncData) (ps : List Str) (sp : Sp) : Prop where
  sz : ∀ ws H Q E, sp ws H Q E → ws.length = ps.length
  go : ∀ (A : Around) (out : List Env) (s : Shared) (H : Hp) (ar : Args) (us : List Value) (ws : List V) (Q : VK) (E : XK), Room k A → NoRep A → Env0 P w K mg base A out s H →
    BindsTo s fd ar (ps.zip us) → Vals ws us → sp ws H Q E → codeAny (model P w) A (.call (.ref f) ar) (CR CX out P w H s Q E) s
theorem FnG.of {P : Program} {w : World} {K : PySem.W.Frag} {mg : Str → Option Value} {base : Heap} {CX : CXT} {k : Nat} {f : Addr} {fd : FuncData} {ps : List Str} {sp : Sp} (F : FnOk P w K mg base CX k f fd ps sp) : FnG P w K mg base CX k f fd ps sp :=
  ⟨F.len, fun A out s H ar us ws Q E hr _ => F.run A out s H ar us ws Q E hr⟩
structure DfnG (P : Program) (w : World) (K : PySem.W.Frag) (mg : Str → Option Value) (base : Heap) (CX : CXT) (k : Nat) (x : Str) (ps : List Str) (sp : Sp) : Prop where
  ex : ∃ (f : Addr) (fd : FuncData), FnG P w K mg base CX k f fd ps sp ∧ mg x = some (.ref f) ∧ PySem.W.keepIn K (.ref f) = true ∧ Binds K fd ps []
section
variable {P : Program} {w : World} {K : PySem.W.Frag} {mg : Str → Option Value} {base : Heap} {x : Str} {st : Stmt} {f : Addr} {fd : FuncData} {N ps : List Str} {k : Nat} {sp : Sp}
theorem fnG_of (F : Fun K x x st f fd) (S : FnScope N ps (defScope st)) (len : ∀ ws H Q E, sp ws H Q E → ws.length = ps.length)
    (hbody : ∀ (cdv : Value) (A : Around) (out : List Env) (s : Shared) (H : Hp) (ws : List V) (Q : VK) (E : XK), Room k (A.deeper (envOfC x (defScope st) s.heap.objs.size f cdv)) → NoRep A → PySem.W.codeIn K cdv x = true → sp ws H Q E →
      (∃ (oc kV doc pm ct : Value) (od an : Option Addr) (osl : Array (Option Value)), K.lookup f = some ⟨oc, od, .func (PySem.W.fnOf x x (defArgs st) (defBody st) (defScope st) .none kV doc pm an cdv ct), osl⟩) →
      ∃ t, PSs (cxOf CX0 P w K mg base N x (defScope st) f cdv A out s H E).nox (defBody st) t ∧ t { nx := fun _ H' => Q .non H', rt := Q } (start N ws) H) : FnG P w K mg base CX0 (k + 1) f fd ps sp := by
  obtain ⟨oc, od, kV, doc, pm, an, cdv, ct, osl, rfl, lk, hcd⟩ := F.ex
  refine ⟨len, fun A out s H ar us ws Q E hr hg e0 hb r h => ?_⟩
  refine LamX.run_ofS lk hcd S hr e0 hb r (len _ _ _ _ h) fun hr' => ?_
  obtain ⟨t, ht, hq⟩ := hbody cdv A out s H ws Q E hr' hg hcd h ⟨_, _, _, _, _, _, _, _, lk⟩
  exact ⟨t, ht.nox, hq⟩
theorem DfnG.mk0 (F : Fun K x x st f fd) (hm : mg x = some (.ref f)) (hb : Binds K fd ps []) (S : FnScope N ps (defScope st)) (len : ∀ ws H Q E, sp ws H Q E → ws.length = ps.length)
    (hbody : ∀ (cdv : Value) (A : Around) (out : List Env) (s : Shared) (H : Hp) (ws : List V) (Q : VK) (E : XK), Room k (A.deeper (envOfC x (defScope st) s.heap.objs.size f cdv)) → NoRep A → PySem.W.codeIn K cdv x = true → sp ws H Q E →
      (∃ (oc kV doc pm ct : Value) (od an : Option Addr) (osl : Array (Option Value)), K.lookup f = some ⟨oc, od, .func (PySem.W.fnOf x x (defArgs st) (defBody st) (defScope st) .none kV doc pm an cdv ct), osl⟩) →
      ∃ t, PSs (cxOf CX0 P w K mg base N x (defScope st) f cdv A out s H E).nox (defBody st) t ∧ t { nx := fun _ H' => Q .non H', rt := Q } (start N ws) H) : DfnG P w K mg base CX0 (k + 1) x ps sp :=
  ⟨f, fd, fnG_of F S len hbody, hm, F.kp, hb⟩
end
section
variable {X : Cx} {CX : CXT} {k : Nat} {x : Str} {ps : List Str} {sp : Sp} {E : XK} {p pos : Pos} {e : Expr} {es : List Expr} {t : TA}
theorem pCG (D : DfnG X.prog X.w X.K X.mg X.base CX k x ps sp) (hr : Room k X.A) (hG : NoRep X.A) (hx : Passes CX X E) (ha : PA X (e :: es) t) (hg : Gl X x := by rfl)
    (hdb : (x == ("__debug__" : Str)) = false := by decide) (he : starEach (e :: es) X.env = (false, eval e X.env) :: starEach es X.env := by rfl) (hpl : (backTo pos (starEach es X.env)).any (·.1) = false := by rfl) :
    PE X (.Call (.Name x p) (e :: es) [] pos) (tCall sp [] E t) := by
  obtain ⟨f, fd, F, hm, hk, hb⟩ := D.ex
  constructor
  intro pins s σ H Q I h
  refine wpAny_Call_Name_kw (ld_glob I hg hm ?_ hdb)
  refine PySem.W.callWith_K (h₀ := X.base) I.ok.mod.kin hk (thn (ha.run pos pins s σ H _ I h) fun us s1 ⟨ws, H1, I1, r, q⟩ => ?_) he hpl
  refine ⟨I1.kIn, ?_⟩
  have q : sp (ws ++ []) H1 Q E := q
  rw [List.append_nil] at q
  have b := hb s1 us I1.kIn (by rw [List.append_nil, ← r.length]; exact F.sz _ _ _ _ q)
  rw [List.append_nil] at b
  refine wpAny_call (codeAny_mono (F.go X.A X.stack s1 H1 ⟨us, []⟩ us ws Q E hr hG I1.env0 b r q) fun z s2 hz => ?_)
  match z, hz with
  | .error u, hz => exact hx pins σ H1 s1 u s2 I1 hz
  | .ok (.ret u), hz => exact I1.after hz
  | .ok .next, hz => exact hz.elim
  | .ok .brk, hz => exact hz.elim
  | .ok .cont, hz => exact hz.elim
end

/-! ### repr of data -/
structure Shows (d : PyData) : Prop where
  ok : d.showable = true
  dp : d.depth ≤ 60
  sz : d.shown.length ≤ sizeLine
mutual
theorem noDict {K : PySem.W.Frag} {H : Hp} : ∀ (d : PyData) (v : V), Dp K H v d → d.hasDict = false
  | .none, _, _ => rfl
  | .bool _, _, _ => rfl
  | .int _, _, _ => rfl
  | .str _, _, _ => rfl
  | .list ds, _, h => by
    cases h with
    | lst _ ha => exact noDictAll ds _ ha
  | .tuple ds, _, h => by
    cases h with
    | tup _ ha => exact noDictAll ds _ ha
  | .dict _, _, h => by cases h
theorem noDictAll {K : PySem.W.Frag} {H : Hp} : ∀ (ds : List PyData) (vs : List V), DpAll K H vs ds → PyData.hasDictAll ds = false
  | [], _, _ => rfl
  | d :: ds, _, h => by
    cases h with
    | cons h1 h2 =>
      show (d.hasDict || PyData.hasDictAll ds) = false
      rw [noDict d _ h1, noDictAll ds _ h2]
      rfl
end
def rRepr (K : PySem.W.Frag) : List V → Hp → VK → Prop := fun xs H Q => match xs with
  | [v] => ∃ d, Dp K H v d ∧ Shows d ∧ Q (.str d.shown) H
  | _ => False
theorem cRepr {X : Cx} {K : PySem.W.Frag} (hG : NoRep X.A) (hu : X.A.units + 64 < cLine) (hK : X.K = K := by rfl) : CallR X (.builtin "repr") (rRepr K) := by
  subst hK
  intro pins s σ H xs us Q I r h
  unfold rRepr at h
  split at h
  · rename_i v
    obtain ⟨d, hd, ⟨h1, h2, h3⟩, q⟩ := h
    obtain ⟨u, rfl, ru⟩ := vals1 r
    obtain ⟨as, rd⟩ := Dp.reads I d v u hd ru
    have nd := noDict d v hd
    cases hd with
    | non =>
      cases ru
      exact PySem.P.repr_of_none ⟨.str _, H, I.tok _, ⟨_, rfl⟩, q⟩
    | bl b =>
      cases ru
      exact PySem.P.repr_of_bool ⟨.str _, H, I.tok _, ⟨_, rfl⟩, q⟩
    | int i =>
      obtain ⟨t, rfl⟩ := ru
      exact PySem.P.repr_of_int (of_decide_eq_true h1) ⟨.str _, H, I.tok _, ⟨_, rfl⟩, q⟩
    | str z =>
      obtain ⟨t, rfl⟩ := ru
      exact PySem.P.repr_of_str ⟨.str _, H, I.tok _, ⟨_, rfl⟩, q⟩ h3
    | lst _ _ =>
      cases ru
      exact repr_of_reads' rd h1 (fun e => by rw [nd] at e; cases e) hG (by omega) (fun _ _ e => e) (fun h' u tk hk => ⟨.str _, H, I.kept hk, ⟨_, rfl⟩, q⟩) h3
    | tup _ _ =>
      cases ru
      exact repr_of_reads' rd h1 (fun e => by rw [nd] at e; cases e) hG (by omega) (fun _ _ e => e) (fun h' u tk hk => ⟨.str _, H, I.kept hk, ⟨_, rfl⟩, q⟩) h3
  · exact h.elim
end Xia

set_option Elab.async false
set_option linter.all false
set_option maxRecDepth 100000
set_option maxHeartbeats 4000000
/-! ### the end: the law's def is called at the head's state; tables of code objects are tracked -/
namespace Xia
open PySem PySem.Spec PyProof.Rows L2 LamX
section
variable {K : PySem.W.Frag} {T : List Addr} {a : Addr} {ob : Obj} {zs : List V}
/-- what is tracked there: the tables, and the script where it is none of the module's own -/
def atCall (K : PySem.W.Frag) (T : List Addr) (a : Addr) (ob : Obj) (zs : List V) : Hp := fun b => if b ∈ T then some (.tbl #[]) else if b = a ∧ K.lookup a = none then some (.frz ob (.lst zs)) else none
theorem atCall_tab {b : Addr} (h : b ∈ T) : atCall K T a ob zs b = some (.tbl #[]) := if_pos h
theorem atCall_by (b : Addr) : atCall K T a ob zs b = none ∨ (b ∈ T ∧ atCall K T a ob zs b = some (.tbl #[])) ∨ (b ∉ T ∧ b = a ∧ K.lookup a = none ∧ atCall K T a ob zs b = some (.frz ob (.lst zs))) := by
  unfold atCall
  by_cases h1 : b ∈ T
  · exact .inr (.inl ⟨h1, if_pos h1⟩)
  by_cases h2 : b = a ∧ K.lookup a = none
  · exact .inr (.inr ⟨h1, h2.1, h2.2, by rw [if_neg h1, if_pos h2]⟩)
  · exact .inl (by rw [if_neg h1, if_neg h2])
end
section
variable {P : Program} {w : World} {K : PySem.W.Frag} {mg mb : Str → Option Value} {k : Nat} {fa a : Addr} {cs : List (Addr × Addr)} {fd : FuncData} {x : Str} {sp : Sp} {S : Shared} {vs : List Value} {ns : List Int}
theorem lawG (KX : K.In S.heap) (n1 : S.heap.Ns mainGlobals mg) (n2 : S.heap.Ns builtinsNs mb) (n3 : ∀ z : Str, z ≠ "__name__" → mb z = bootBuiltins z) (n4 : S.heap.NoLimit) (n5 : S.gens = #[])
    (t1 : ∀ p ∈ cs, S.heap.get? p.2 = some { cls := .none, data := .fields #[] }) (t2 : ∀ p ∈ cs, K.lookup p.2 = none) (t3 : ∀ p ∈ cs, PySem.W.CodeHd S.heap p.1 p.2)
    (bmx : ∃ (bm : Addr) (o : Obj), mg "__builtins__" = some (.ref bm) ∧ bm ≠ builtinsNs ∧ S.heap.get? bm = some o ∧ o.cls = .type "module" ∧ o.dict = some builtinsNs ∧ o.data = .plain)
    (sc : S.heap.get? a = some { cls := .type "list", data := .seq vs.toArray }) (hi : IntsAre vs ns) (hl : ns.length ≤ sizeLine) (hr : Room k callerA)
    (F : ∀ base : Heap, K.In base → base.Ns mainGlobals mg → (∀ p ∈ cs, TabB base mg p.1 p.2) → FnG P w K mg base CX0 k fa fd [x] sp) (hbind : ∀ (s : Shared) (u : Value), BindsTo s fd ⟨[u], []⟩ [(x, u)])
    (hsp : ∀ H : Hp, (∀ p ∈ cs, H p.2 = some (.tbl #[])) → SqL K H a (ns.map V.int) → sp [.ref a] H (fun v _ => v = .bl true) E0) :
    codeAny (model P w) callerA (.call (.ref fa) ⟨[.ref a], []⟩) (fun r s' => r = .ok (.ret (.bool true)) ∧ OldK S.heap s'.heap ∧ s'.os = S.os ∧ AllBare s'.gens) S := by
  let T := cs.map (·.2)
  have tabs : ∀ b ∈ T, S.heap.get? b = some { cls := .none, data := .fields #[] } ∧ K.lookup b = none := fun b hb => by
    obtain ⟨p, hp, rfl⟩ := List.mem_map.mp hb
    exact ⟨t1 p hp, t2 p hp⟩
  generalize hob : ({ cls := .type "list", data := .seq vs.toArray } : Obj) = ob at sc
  have obD : ∀ us, ob.data ≠ .fields us := fun us e => by rw [← hob] at e; cases e
  let H := atCall K T a ob (ns.map V.int)
  have by_ := fun b => atCall_by (K := K) (T := T) (a := a) (ob := ob) (zs := ns.map V.int) b
  have hT : ∀ p ∈ cs, H p.2 = some (.tbl #[]) := fun p hp => atCall_tab (List.mem_map.mpr ⟨p, hp, rfl⟩)
  -- what is not hidden
  have seen : ∀ {b : Addr} {o : Obj}, S.heap.get? b = some o → o.data ≠ .fields #[] → (∀ q n, o.data ≠ .seq q n) → (hidT S.heap H).get? b = some o := fun {b o} e d1 d2 => by
    refine hidT_get e ?_
    rcases by_ b with q | ⟨q, _⟩ | ⟨_, q, _⟩
    · exact q
    · rw [(tabs b q).1] at e
      cases e
      exact absurd rfl d1
    · rw [q, sc, ← hob] at e
      cases e
      exact absurd rfl (d2 _ _)
  have nsx : ∀ {b : Addr} {m : Str → Option Value}, S.heap.Ns b m → (hidT S.heap H).Ns b m := fun ⟨o, es, ep, e, d, r⟩ =>
    ⟨o, es, ep, seen e (fun z => by rw [d] at z; cases z) (fun _ _ z => by rw [d] at z; cases z), d, r⟩
  have kx : K.In (hidT S.heap H) := fun b o e => by
    refine hidT_get (KX b o e) ?_
    rcases by_ b with q | ⟨q, _⟩ | ⟨_, q, n, _⟩
    · exact q
    · rw [(tabs b q).2] at e
      cases e
    · rw [q, n] at e
      cases e
  have mod : L2.Mod K mg (hidT S.heap H) := ⟨kx, nsx n1, ⟨mb, nsx n2, n3⟩, by obtain ⟨mc, h1, h2⟩ := n4; exact ⟨mc, nsx h1, h2⟩⟩
  have TB : ∀ p ∈ cs, TabB (hidT S.heap H) mg p.1 p.2 := fun p hp => by
    constructor
    · obtain ⟨o, us, u1, u2, u3, u4, u5, u6, u7, c1, c2, c3, c4⟩ := t3 p hp
      refine ⟨o, us, u1, u2, u3, u4, u5, u6, u7, seen c1 (fun z => ?_) (fun _ _ z => by rw [c3] at z; cases z), c2, c3, c4⟩
      rw [c3] at z
      cases z
      exact absurd c4.1 (by simp)
    · obtain ⟨bm, o, b1, b2, b3, b4, b5, b6⟩ := bmx
      refine ⟨bm, o, b1, b2, fun z => ?_, fun z => ?_, seen b3 (fun z => by rw [b6] at z; cases z) (fun _ _ z => by rw [b6] at z; cases z), b4, b5, b6⟩
      · obtain ⟨o', es, ep, e, d, _⟩ := n1
        rw [z, e] at b3
        cases b3
        rw [d] at b6
        cases b6
      · rw [z, t1 p hp] at b3
        cases b3
        cases b6
    · intro z
      obtain ⟨o', es, ep, e, d, _⟩ := n1
      rw [z, t1 p hp] at e
      cases e
      cases d
  have rv : Vals (ns.map V.int) vs := vals_ints hi
  have sq : SqL K H a (ns.map V.int) := by
    by_cases hk : K.lookup a = none
    · refine .inl (.inr ⟨ob, ?_⟩)
      rcases by_ a with q | ⟨q, _⟩ | ⟨_, _, _, q⟩
      · have hn : a ∉ T := fun m => by
          have e := (tabs a m).1
          rw [sc] at e
          cases e
          exact obD _ rfl
        have e : H a = some (.frz ob (.lst (ns.map V.int))) := by
          show (if a ∈ T then _ else _) = _
          rw [if_neg hn, if_pos ⟨rfl, hk⟩]
        exact e
      · have e := (tabs a q).1
        rw [sc] at e
        cases e
        exact absurd rfl (obD _)
      · exact q
    · cases e : K.lookup a with
      | none => exact absurd e hk
      | some o =>
        have q := KX a o e
        rw [sc, ← hob] at q
        cases q
        exact .inr ⟨_, vs.toArray, _, e, rfl, rfl, rfl, by rw [List.size_toArray, hi.length]; exact hl, by simpa using rv⟩
  have hok : HOk P w H S.heap := fun b o e => by
    rcases by_ b with q | ⟨q, z⟩ | ⟨_, q, _, z⟩
    · exact absurd (q.symm.trans e) (by simp)
    · cases z.symm.trans e
      exact (tabs b q).1
    · cases z.symm.trans e
      rw [q]
      exact ⟨sc, by rw [List.length_map]; exact hl, vs, _, rv, by rw [sc, ← hob]⟩
  have e0 : Env0 P w K mg (hidT S.heap H) callerA [] S H := ⟨rfl, mod, fun b o e => of_hidT e, Nat.le_of_eq (hidT_size _ _), trivial, fun b hb => absurd hb (List.not_mem_nil), hok, .of_eq n5⟩
  refine codeAny_mono ((F _ kx (nsx n1) TB).go callerA [] S H ⟨[.ref a], []⟩ [.ref a] [.ref a] _ _ hr rfl e0 (hbind S (.ref a)) (.cons rfl .nil) (hsp H hT sq)) fun z s' hz => ?_
  match z, hz with
  | .error _, hz => exact False.elim hz
  | .ok .next, hz => exact False.elim hz
  | .ok .brk, hz => exact False.elim hz
  | .ok .cont, hz => exact False.elim hz
  | .ok (.ret u), hz =>
    obtain ⟨v, H', c1, c2, un, ok', rv', qv⟩ := hz
    cases (show v = V.bl true from qv)
    cases (show u = Value.bool true from rv')
    have tb : ∀ b ∈ T, ∃ more : Array Value, s'.heap.get? b = some { cls := .none, data := .fields more } := fun b hb => by
      obtain ⟨more, z⟩ := un.tbls b #[] (atCall_tab hb)
      exact ⟨_, ok' b _ z⟩
    have other : ∀ b o, b ∉ T → S.heap.get? b = some o → s'.heap.get? b = some o := fun b o nb e => by
      rcases by_ b with q | ⟨q, _⟩ | ⟨_, q, _, z⟩
      · exact un.keep b o e q (List.not_mem_nil) (List.not_mem_nil)
      · exact absurd q nb
      · have z2 := (ok' b _ (un.frzs b ob _ z)).1
        rw [q, sc] at e
        cases e
        exact z2
    refine ⟨rfl, ⟨fun b o e => ?_, fun b o e => ?_⟩, c1, c2⟩
    · by_cases hb : b ∈ T
      · obtain ⟨more, hm⟩ := tb b hb
        obtain ⟨p, hp, rfl⟩ := List.mem_map.mp hb
        have e' := t1 p hp
        rw [e] at e'
        cases e'
        exact .inr (.inl ⟨((t3 p hp).tab (t1 p hp)).isCodeTable, rfl, #[], more, rfl, by rw [Array.empty_append]; exact hm⟩)
      · exact .inl (other b o hb e)
    · by_cases hb : b ∈ T
      · obtain ⟨more, hm⟩ := tb b hb
        exact ⟨_, hm⟩
      · exact ⟨o, other b o hb e⟩
end
/-- the table of the code of the def called x, as the module's written part has it -/
def tabOf (K : PySem.W.Frag) (f : Addr) : Option (Addr × Addr) := match K.lookup f with
  | some ⟨_, _, .func fd, _⟩ => (match fd.code with
    | .ref c => (match K.lookup c with
      | some ⟨_, _, .fields vs, _⟩ => (match (vs[11]? : Option Value) with
        | some (Value.ref P) => if (K.lookup P).isNone then some (c, P) else none
        | _ => none)
      | _ => none)
    | _ => none)
  | _ => none
theorem tabOf_is {K : PySem.W.Frag} {f c P : Addr} (h : tabOf K f = some (c, P)) : K.lookup P = none ∧ ∃ (o : Obj) (fd : FuncData) (o2 : Obj) (vs : Array Value), K.lookup f = some o ∧ o.data = .func fd ∧ fd.code = .ref c ∧ K.lookup c = some o2 ∧ o2.data = .fields vs ∧ vs[11]? = some (.ref P) := by
  unfold tabOf at h
  split at h
  · rename_i a1 a2 fd a3 e1
    split at h
    · rename_i c1 e2
      split at h
      · rename_i b1 b2 vs b3 e3
        split at h
        · rename_i P1 e4
          split at h
          · rename_i e5
            cases h
            exact ⟨Option.isNone_iff_eq_none.mp e5, _, fd, _, vs, e1, rfl, e2, e3, rfl, e4⟩
          · cases h
        · cases h
      · cases h
    · cases h
  · cases h
theorem walkG {l : PySem.W.OpenLaw} {n k : Nat} {q : Program} {loose : List Str} {XP : (Str → Option Value) → Heap → Prop} {YP : World → Heap → Prop} {d : DefRec} {K : Params → PySem.W.Frag} {x : Str}
    (hn : l.most = some n) (hn2 : n ≤ sizeLine) (hdf : d.params.defaults = []) (hr : Room k callerA) (hY : ∀ (w : World) (h : Heap), YP w h → (K w.params).In h)
    (F : ∀ (w : World) (mg : Str → Option Value) (fa : Addr) (h : Heap), (K w.params).In h → h.Ns mainGlobals mg → mg d.name = some (.ref fa) →
      ∃ (fd : FuncData) (ts : List (Str × Addr × Addr × Addr)) (sp : Sp), (∀ t ∈ ts, ((recsOf q).any fun e => e.name == t.1) = true ∧ mg t.1 = some (.ref t.2.1) ∧ tabOf (K w.params) t.2.1 = some t.2.2) ∧ (∀ (s : Shared) (u : Value), BindsTo s fd ⟨[u], []⟩ [(x, u)]) ∧
        (∀ (H : Hp) (a : Addr) (ns : List Int), ns.length ≤ n → (∀ t ∈ ts, H t.2.2.2 = some (.tbl #[])) → SqL (K w.params) H a (ns.map V.int) → sp [.ref a] H (fun v _ => v = .bl true) E0) ∧
        ∀ base : Heap, (K w.params).In base → base.Ns mainGlobals mg → (∀ t ∈ ts, TabB base mg t.2.2.1 t.2.2.2) → FnG l.prog w (K w.params) mg base CX0 k fa fd [x] sp) :
    PySem.W.WalkO q loose XP YP l.row.toRowW d [] (fun f vs => PySem.call f vs) := by
  refine Att.attach_callB hn hdf fun w s₀ s₁ mg mb fa o pm cd doc a vs ns G Y ho hd hcd hmg hobj hints hlen hbits hg => ?_
  have KX := hY w _ Y
  obtain ⟨fd, ts, sp, hts, hb, hsp, hF⟩ := F w mg fa _ KX G.T.g hmg
  have at_ : ∀ p ∈ ts.map (·.2.2), (K w.params).lookup p.2 = none ∧ s₁.heap.get? p.2 = some { cls := .none, data := .fields #[] } ∧ PySem.W.CodeHd s₁.heap p.1 p.2 := fun p hp => by
    obtain ⟨t, ht, rfl⟩ := List.mem_map.mp hp
    obtain ⟨r1, r2, r3⟩ := hts t ht
    obtain ⟨m1, o1, fd1, o2, vs2, k1, k2, k3, k4, k5, k6⟩ := tabOf_is (c := t.2.2.1) (P := t.2.2.2) r3
    obtain ⟨dL, hm, hnm⟩ := List.any_eq_true.mp r1
    obtain ⟨a', o', fd', c', P', h1, h2, h3, h4, h5, h6⟩ := G.T.tab dL hm
    rw [beq_iff_eq.mp hnm, r2] at h1
    cases h1
    rw [KX _ _ k1] at h2
    cases h2
    rw [k2] at h3
    cases h3
    rw [k3] at h4
    cases h4
    have h6' := h6
    obtain ⟨⟨oc, vc, e1, _, e3, e4⟩, hP⟩ := h6
    rw [KX _ _ k4] at e1
    cases e1
    rw [k5] at e3
    cases e3
    rw [k6] at e4
    cases e4
    exact ⟨m1, hP, PySem.W.CodeHd.of h5 h6'⟩
  exact lawG (cs := ts.map (·.2.2)) KX G.T.g G.T.b G.T.builtins G.T.nolimit hg (fun p hp => (at_ p hp).2.1) (fun p hp => (at_ p hp).1) (fun p hp => (at_ p hp).2.2) G.T.bmain hobj hints (Nat.le_trans hlen hn2) hr
    (fun base h1 h2 h3 => hF base h1 h2 fun t ht => h3 _ (List.mem_map.mpr ⟨t, ht, rfl⟩)) hb (fun H h1 h2 => hsp H a ns hlen (fun t ht => h1 _ (List.mem_map.mpr ⟨t, ht, rfl⟩)) h2)
end Xia

set_option Elab.async false
set_option linter.all false
set_option maxRecDepth 100000
set_option maxHeartbeats 4000000
/-! ### texts: swapcase, backward, two side by side -/
namespace Xia
open PySem PySem.Spec PyProof.Rows L2 SX
section
variable {X : Cx}
theorem mt_swapcase : MtR X "str.swapcase" (fun x xs H Q => ∃ a, x = .str a ∧ xs = [] ∧ a.length ≤ 5592405 ∧ Q (.str (Txt.swapcase a)) H) :=
  mt0 (C := fun a => a.length ≤ 5592405) (g := fun a => .str (Txt.swapcase a)) fun a _ s _ hc h =>
    PySem.SC.swapcase (fit_swapcase hc) (h _ (s.toks + 1) ⟨_, rfl⟩)
/-- a text or a list, backward -/
def mBack (K : PySem.W.Frag) (te : TE) : TE := fun σ H Q => te σ H fun x H1 => match x with
  | .str z => z.length ≤ sizeLine ∧ Q (.str (S z.cps.toList.reverse)) H1
  | .ref a => ∃ xs, SqL K H1 a xs ∧ ∀ p, H1 p = none → Q (.ref p) (upd H1 p (.lst xs.reverse))
  | _ => False
theorem back_is (z : Str) (u : Tok) : Txt.sliceBy z none none (-1, u) = S z.cps.toList.reverse := by
  have h := step_rev_list z u
  have e : (List.range z.length).map (fun k => z.cps.getD (z.length - 1 - k) 0) = z.cps.toList.reverse := by
    refine List.ext_getElem ?_ fun i h1 h2 => ?_
    · rw [List.length_map, List.length_range, List.length_reverse]
      simp [Str.length]
    · rw [List.length_map, List.length_range] at h1
      rw [List.getElem_map, List.getElem_range, List.getElem_reverse]
      have hz : z.cps.size = z.length := rfl
      have : z.length - 1 - i < z.cps.size := by omega
      rw [Array.getD, dif_pos this]
      simp
      rfl
  exact TL.ext_tl (h.trans e)
theorem pe_back {K : PySem.W.Frag} {e : Expr} {te : TE} {k : Nat} {p1 p2 p3 pos : Pos} (he : PE X e te) (hK : X.K = K := by rfl) : PE X (.Subscript e (.Slice none none (some (.UnaryOp .USub (.Constant (.int 1) k p1) p2)) p3) pos) (mBack K te) := by
  subst hK
  constructor
  intro pins s σ H Q I h
  refine Subscript_ (thn (he.run pins s σ H _ I h) fun v s1 ⟨x, H1, I1, r1, q1⟩ => ?_)
  have hst : PO X (some (.UnaryOp .USub (.Constant (.int 1) k p1) p2)) (tPart (tUn (rU fun i => .int (-i)) (tC (.int 1)))) := po_some (pe_un un_neg pe_int)
  refine wpAny_Slice (thn (po_none.run pins s1 σ H1 (fun o G => o = none ∧ G = H1) I1 ⟨rfl, rfl⟩) fun vl s2 ⟨l, H2, I2, pl, el, e2⟩ => ?_)
  subst el e2
  refine thn (po_none.run pins s2 σ H2 (fun o G => o = none ∧ G = H2) I2 ⟨rfl, rfl⟩) fun vu s3 ⟨u, H3, I3, pu, eu, e3⟩ => ?_
  subst eu e3
  refine thn (hst.run pins s3 σ H3 (fun o G => o = some (-1) ∧ G = H3) I3 ⟨1, rfl, -1, rfl, rfl, rfl⟩) fun vs s4 ⟨o, H4, I4, ps, eo, e4⟩ => ?_
  subst eo e4
  generalize hsl : ({ cls := .type "slice", data := .fields #[vl, vu, vs] } : Obj) = so
  have I5 : Inv X pins σ H4 { s4 with heap := s4.heap.push so } := I4.kept (t' := s4.toks) fun b ob q => Heap.get?_push_of_some _ q
  have sof : (s4.heap.push so).IsSliceOf s4.heap.objs.size vl vu vs := by rw [← hsl]; exact Heap.IsSliceOf.new _ vl vu vs
  show wpAny (model X.prog X.w) X.A (subscriptTail e (.Slice none none (some (.UnaryOp .USub (.Constant (.int 1) k p1) p2)) p3) v (.ref s4.heap.objs.size)) (EP X pins σ Q) X.xe { s4 with heap := s4.heap.push so }
  cases x with
  | str z =>
    obtain ⟨t, rfl⟩ := r1
    obtain ⟨hz, q⟩ := q1
    refine tail_any (ops := [.str z t, .ref s4.heap.objs.size]) (typeIs_str _ _ _) (PySem.F.slot_str_getitem.lookup) ?_ (by with_unfolding_all rfl)
    obtain ⟨l0, rfl, e0⟩ := IsPart.raw pl
    obtain ⟨u0, rfl, e1⟩ := IsPart.raw pu
    obtain ⟨w0, rfl, e2⟩ := IsPart.raw ps
    cases l0 with
    | some _ => cases e0
    | none =>
    cases u0 with
    | some _ => cases e1
    | none =>
    cases w0 with
    | none => cases e2
    | some w1 =>
    obtain ⟨i, tk⟩ := w1
    cases e2
    obtain ⟨os, hos, hcs, hds⟩ := sof
    refine wpAny_getItem_str_slice (l := none) (u := none) (st := some (Int.negSucc 0, tk)) ⟨os, hos, hcs, hds⟩ rfl ?_
    have em : sliceMade z t none none (some (Int.negSucc 0, tk)) = Made.str (S z.cps.toList.reverse) := by
      rw [← back_is z tk]
      unfold sliceMade Txt.sliceBy slicePicked
      rw [if_neg (fun z => by cases z), if_neg (fun z => by cases z)]
      rfl
    rw [em]
    exact ⟨by rw [S_len, List.length_reverse, str_len]; exact hz, .str _, H4, I5.tok _, ⟨_, rfl⟩, q⟩
  | ref a =>
    cases (show v = Value.ref a from r1)
    obtain ⟨xs, hx, q⟩ := q1
    obtain ⟨its, r, ht, hz⟩ := I5.list hx
    have hlen := r.length
    refine tail_any (ops := [.ref a, .ref s4.heap.objs.size]) ht.isList.typeIs (PySem.slot_list_getitem.lookup) ?_ (by with_unfolding_all rfl)
    refine wpAny_getItem_list_slice ht.isList sof pl pu ps (by decide) ?_ (by rw [List.size_toArray]; omega)
    rw [PySem.W.krv_pick]
    refine ⟨.ref _, _, I5.laid (t' := s4.toks) (o := .lst xs.reverse) (fun b ob z => Heap.get?_push_of_some _ z) (Nat.le_refl _) ?_, rfl, q _ (I5.hok.fresh (Nat.le_refl _))⟩
    exact ⟨by rw [List.length_reverse]; exact hz, _, 0, r.reverse, Heap.get?_push_size _ rfl⟩
  | _ => exact False.elim q1
end
/-! ### zip of two texts -/
def Itzs (x y : Str) : It := ⟨fun i _ => i < min x.cps.size y.cps.size,
  fun i H v H' => ∃ T c d, v = .ref T ∧ H T = none ∧ H' = upd H T (.tup [.str ⟨#[c]⟩, .str ⟨#[d]⟩]) ∧ x.cps[i]? = some c ∧ y.cps[i]? = some d,
  fun i _ => i = min x.cps.size y.cps.size⟩
theorem turn_zips {P : Program} {w : World} {K : PySem.W.Frag} {elts : List Expr} {kk : Nat} {tpos : Pos} {z TI TO i1 i2 : Addr} (x y : Str) (t u : Tok) (D : ZipSep2 z TI TO i1 i2 [i1] [i2]) :
    Turn P w K (.Tuple elts kk tpos) (Itzs x y) [z, TI, TO, i1, i2] z
      (fun i h => IsZip h z TI TO .none ∧ IsTupOf2 h TI (.ref i1) (.ref i2) ∧ (∃ a b, IsTupOf2 h TO a b) ∧ h.IsStrIter i1 (strIterType x) x t i ∧ h.IsStrIter i2 (strIterType y) y u i) where
  mem := by simp
  obj := fun i h st c hc => by
    obtain ⟨s1, s2, ⟨a, b, s3⟩, ⟨o1, e1, _, d1⟩, ⟨o2, e2, _, d2⟩⟩ := st
    simp only [List.mem_cons, List.not_mem_nil, or_false] at hc
    rcases hc with rfl | rfl | rfl | rfl | rfl
    · exact ⟨_, s1, fun v q => nomatch q⟩
    · exact ⟨_, s2, fun v q => nomatch q⟩
    · exact ⟨_, s3, fun v q => nomatch q⟩
    · exact ⟨o1, e1, fun v q => by rw [d1] at q; cases q⟩
    · exact ⟨o2, e2, fun v q => by rw [d2] at q; cases q⟩
  keep := fun i h h' st k => by
    obtain ⟨s1, s2, ⟨a, b, s3⟩, ⟨o1, e1, r1⟩, ⟨o2, e2, r2⟩⟩ := st
    exact ⟨k z (by simp) _ s1, k TI (by simp) _ s2, ⟨a, b, k TO (by simp) _ s3⟩, ⟨o1, k i1 (by simp) _ e1, r1⟩, ⟨o2, k i2 (by simp) _ e2, r2⟩⟩
  item := by
    intro X hP hw hK hc i pins s σ H E I hf st hg
    subst hP hw hK
    obtain ⟨s1, s2, ⟨a, b, s3⟩, s4, s5⟩ := st
    have hg : i < min x.cps.size y.cps.size := hg
    have hzl : z < s.heap.objs.size := Heap.lt_size s1
    have hh : X.A.in1.handled = none := I.ok.hd hc
    refine wpAny_pyNext_zipD2_item D (.text hh i1 x t) (.text hh i2 y u) s1 s2 s3 s4 s5 (by omega) (by omega) fun v1 v2 h' tk p1 p2 z1 z3 z4 z5 hT hsz hk => ?_
    obtain ⟨c, tc, hcx, rfl⟩ := p1
    obtain ⟨d, td, hdy, rfl⟩ := p2
    refine ⟨_, rfl, wpAny_letOwnedTupleGo_zip (s := { s with heap := h', toks := tk }) z1 fun h'' z1' sb => ?_⟩
    have hT2 : h''.get? s.heap.objs.size = some { cls := .type "tuple", data := .seq #[.str ⟨#[c]⟩ tc, .str ⟨#[d]⟩ td] } := (sb.2 _ (Nat.ne_of_gt hzl)).trans hT
    have new : ObjOk X.prog X.w (upd H s.heap.objs.size (.tup [.str ⟨#[c]⟩, .str ⟨#[d]⟩])) h'' s.heap.objs.size (.tup [.str ⟨#[c]⟩, .str ⟨#[d]⟩]) :=
      ⟨by show 2 ≤ sizeLine; decide, [.str ⟨#[c]⟩ tc, .str ⟨#[d]⟩ td], .cons ⟨_, rfl⟩ (.cons ⟨_, rfl⟩ .nil), ⟨_, hT2, rfl, _, rfl⟩⟩
    have I1 : Inv X pins σ (upd H s.heap.objs.size (.tup [.str ⟨#[c]⟩, .str ⟨#[d]⟩])) { s with heap := h'', toks := tk } :=
      I.turnedNew (t' := tk) (ch := [z, TI, TO, i1, i2]) (fun e o hb q => (sb.2 e (fun q' => hb (by simp [q']))).trans (hk e o (fun q' => hb (by simp [q'])) (fun q' => hb (by simp [q'])) (fun q' => hb (by simp [q'])) (fun q' => hb (by simp [q'])) q)) hf (Nat.le_refl _) new
    have cut : ∀ {j : Addr} {ty : String} {q : Str} {tq : Tok} {m : Nat}, j ≠ z → h'.IsStrIter j ty q tq m → h''.IsStrIter j ty q tq m := fun n ⟨o, e, r⟩ => ⟨o, (sb.2 _ n).trans e, r⟩
    refine ⟨.ref s.heap.objs.size, _, I1, rfl, ⟨_, c, d, rfl, I.hok.fresh (Nat.le_refl _), rfl, hcx, hdy⟩, ⟨z1', ?_, ⟨_, _, (sb.2 _ D.TOz).trans z3⟩, cut (Ne.symm D.zi1) z4, cut (Ne.symm D.zi2) z5⟩, fun e he => ?_⟩
    · exact (sb.2 _ D.TIz).trans (hk _ _ D.TIz D.TITO D.TIi1 D.TIi2 s2)
    · have hlt : e < s.heap.objs.size := by
        simp only [List.mem_cons, List.not_mem_nil, or_false] at he
        rcases he with rfl | rfl | rfl | rfl | rfl
        · exact hzl
        · exact Heap.lt_size s2
        · exact Heap.lt_size s3
        · obtain ⟨_, e1, _⟩ := s4; exact Heap.lt_size e1
        · obtain ⟨_, e1, _⟩ := s5; exact Heap.lt_size e1
      rw [upd_ne (Nat.ne_of_lt hlt)]
      exact (hf e he).1
  done := by
    intro X hP hw hK hc i pins s σ H E I hf st hg
    subst hP hw hK
    obtain ⟨s1, s2, ⟨a, b, s3⟩, s4, s5⟩ := st
    have hg : i = min x.cps.size y.cps.size := hg
    have hh : X.A.in1.handled = none := I.ok.hd hc
    exact wpAny_pyNext_zipD2_end D (.text hh i1 x t) (.text hh i2 y u) s1 s2 s3 s4 s5 (by omega) (by omega) (by omega) fun h' tk hk => ⟨rfl, I.turnedL (t' := tk) (ch := [z, TI, TO, i1, i2]) (fun c o hb q =>
      hk c o (fun q' => hb (by simp [q'])) (fun q' => hb (by simp [q'])) (fun q' => hb (by simp [q'])) (fun q' => hb (by simp [q'])) q) hf⟩
  self := fun A i s Q E st h => wpAny_pyIter_zip st.1 h
def iZips (ta : TA) : TI := fun σ H R => ta σ H fun vs H1 => match vs with
  | [.str x, .str y] => R (Itzs x y) H1
  | _ => False
theorem pi_zips {X : Cx} {e e2 : Expr} {ta : TA} {p pos tpos : Pos} {elts : List Expr} {kk : Nat} (hg : Gl X "zip") (hm : X.mg "zip" = none) (ha : PA X [e, e2] ta)
    (hs : starEach [e, e2] X.env = (false, eval e X.env) :: starEach [e2] X.env := by rfl) (hpl : (backTo pos (starEach [e2] X.env)).any (·.1) = false := by rfl) :
    PI X (.Tuple elts kk tpos) (.Call (.Name "zip" p) [e, e2] [] pos) (iZips ta) := by
  constructor
  intro pins s σ H R I h
  refine Call_ (ld_blt I hg hm PyProof.Rows.boot_zip (PyProof.Rows.callWith_type1 (thn (ha.run pos pins s σ H _ I h) fun us s1 ⟨vs, H1, I1, r1, q1⟩ => ?_) hs hpl))
  obtain ⟨x, y, rfl, q⟩ : ∃ x y, vs = [.str x, .str y] ∧ R (Itzs x y) H1 := by
    dsimp only at q1
    split at q1
    · exact ⟨_, _, rfl, q1⟩
    · exact q1.elim
  obtain ⟨u1, u2, rfl, ⟨t, rfl⟩, ⟨t2, rfl⟩⟩ := vals2 r1
  · skip
    generalize hn : s1.heap.objs.size = n
    refine zip_begins2 (begins_text x t) (begins_text y t2) trivial trivial fun h' z1 z2 z3 g1 g2 hsz hk => wpAny_pyIter_zip z1 ?_
    rw [hn] at z1 z2 z3 g1 g2 hsz ⊢
    have I2 : Inv X pins σ H1 { s1 with heap := h' } := I1.kept (t' := s1.toks) hk
    refine ⟨n + 4, [n + 4, n + 2, n + 3, n, n + 1], _, _, H1, rfl, I2, turn_zips x y t t2 (zip_sep2 (fp1 := []) (fp2 := []) (fun b hb => by cases hb) (fun b hb => by cases hb)), ⟨z1, z2, ⟨_, _, z3⟩, ⟨_, g1, rfl, rfl⟩, ⟨_, g2, rfl, rfl⟩⟩, fun c hcm => ?_, q⟩
    have hle : s1.heap.objs.size ≤ c := by
      rw [hn]
      simp only [List.mem_cons, List.not_mem_nil, or_false] at hcm
      rcases hcm with rfl | rfl | rfl | rfl | rfl
      · exact Nat.le_add_right _ _
      · exact Nat.le_add_right _ _
      · exact Nat.le_add_right _ _
      · exact Nat.le_refl _
      · exact Nat.le_add_right _ _
    exact I1.fpOk hle (I1.hok.fresh hle)
theorem walk_zips (x y : Str) : Walk (Itzs x y) (min x.cps.size y.cps.size) (fun _ => True) (fun i H v H' => ∃ T c d, v = .ref T ∧ H T = none ∧ H' = upd H T (.tup [.str ⟨#[c]⟩, .str ⟨#[d]⟩]) ∧ x.cps[i]? = some c ∧ y.cps[i]? = some d) :=
  ⟨fun i _ hi _ => hi, fun _ _ => rfl, fun i H v H' _ _ y => y⟩
end Xia

set_option Elab.async false
set_option linter.all false
set_option maxRecDepth 100000
set_option maxHeartbeats 4000000
/-! ### words, places: lists of code points -/
namespace Xia
open PySem PySem.Spec PyProof.Rows L2 SX
def letC : List Nat := [65, 66, 67, 68, 97, 98, 99, 100]
def IsL (w : List Nat) : Prop := ∀ c ∈ w, c ∈ letC
/-- the back of a letter -/
def oth (c : Nat) : Nat := if c < 97 then c + 32 else c - 32
def mir (w : List Nat) : List Nat := (w.map oth).reverse
def stp (p : List Nat) (c : Nat) : List Nat := if p.getLast? = some (oth c) then p.dropLast else p ++ [c]
def fol (p w : List Nat) : List Nat := w.foldl stp p
def isP : List Nat → Bool
  | c :: d :: r => decide (d ≠ oth c) && isP (d :: r)
  | _ => true
theorem oth_mem {c : Nat} (h : c ∈ letC) : oth c ∈ letC := by revert c; decide
theorem oth_oth {c : Nat} (h : c ∈ letC) : oth (oth c) = c := by revert c; decide
theorem IsL.nil : IsL [] := fun _ h => by cases h
theorem IsL.app {a b : List Nat} (h : IsL a) (k : IsL b) : IsL (a ++ b) := fun c hc => (List.mem_append.mp hc).elim (h c) (k c)
theorem IsL.one {c : Nat} (h : c ∈ letC) : IsL [c] := fun d hd => by rw [List.mem_singleton.mp hd]; exact h
theorem IsL.sub {a b : List Nat} (h : IsL b) (k : ∀ c ∈ a, c ∈ b) : IsL a := fun c hc => h c (k c hc)
theorem IsL.take {a : List Nat} (h : IsL a) (n : Nat) : IsL (a.take n) := h.sub fun _ hc => List.mem_of_mem_take hc
theorem IsL.drop {a : List Nat} (h : IsL a) (n : Nat) : IsL (a.drop n) := h.sub fun _ hc => List.mem_of_mem_drop hc
theorem IsL.mir {a : List Nat} (h : IsL a) : IsL (mir a) := fun c hc => by
  obtain ⟨d, hd, rfl⟩ := List.mem_map.mp (List.mem_reverse.mp hc)
  exact oth_mem (h d hd)
theorem IsL.dropLast {a : List Nat} (h : IsL a) : IsL a.dropLast := h.sub fun _ hc => by rw [List.dropLast_eq_take] at hc; exact List.mem_of_mem_take hc
theorem IsL.stp {p : List Nat} {c : Nat} (h : IsL p) (k : c ∈ letC) : IsL (stp p c) := by
  unfold Xia.stp
  split
  · exact h.dropLast
  · exact h.app (.one k)
theorem fol_cons (p : List Nat) (c : Nat) (w : List Nat) : fol p (c :: w) = fol (stp p c) w := rfl
theorem fol_app (p a b : List Nat) : fol p (a ++ b) = fol (fol p a) b := by unfold fol; rw [List.foldl_append]
theorem IsL.fol {w : List Nat} : ∀ {p : List Nat}, IsL p → IsL w → IsL (fol p w) := by
  induction w with
  | nil => exact fun h _ => h
  | cons c w ih => exact fun h k => ih (h.stp (k c (List.mem_cons_self ..))) (k.sub fun _ hc => List.mem_cons_of_mem _ hc)
theorem stp_len (p : List Nat) (c : Nat) : (stp p c).length ≤ p.length + 1 := by
  unfold stp
  split
  · rw [List.length_dropLast]; omega
  · rw [List.length_append]; exact Nat.le_refl _
theorem fol_len {w : List Nat} : ∀ {p : List Nat}, (fol p w).length ≤ p.length + w.length := by
  induction w with
  | nil => intro p; exact Nat.le_refl _
  | cons c w ih =>
    intro p
    have h1 := stp_len p c
    have h2 := ih (p := stp p c)
    rw [fol_cons, List.length_cons]
    omega
theorem mir_len (w : List Nat) : (mir w).length = w.length := by unfold mir; rw [List.length_reverse, List.length_map]
/-! places -/
theorem isP_tail {c : Nat} {r : List Nat} (h : isP (c :: r) = true) : isP r = true := by
  cases r with
  | nil => rfl
  | cons d r => exact (Bool.and_eq_true_iff.mp h).2
/-- no two neighbors are each other's backs -/
theorem isP_iff : ∀ {w : List Nat}, isP w = true ↔ ∀ i c d, w[i]? = some c → w[i + 1]? = some d → d ≠ oth c
  | [] => ⟨fun _ i c d h => by simp at h, fun _ => rfl⟩
  | [a] => ⟨fun _ i c d _ h => by simp at h, fun _ => rfl⟩
  | a :: b :: r => by
    constructor
    · intro h i c d h1 h2
      obtain ⟨e1, e2⟩ := Bool.and_eq_true_iff.mp h
      cases i with
      | zero =>
        cases h1
        cases h2
        exact of_decide_eq_true e1
      | succ i => exact isP_iff.mp e2 i c d h1 h2
    · intro h
      refine Bool.and_eq_true_iff.mpr ⟨decide_eq_true (h 0 a b rfl rfl), isP_iff.mpr fun i c d h1 h2 => h (i + 1) c d h1 h2⟩
theorem isP_app {a b : List Nat} (h1 : isP a = true) (h2 : isP b = true) (h3 : ∀ c d, a.getLast? = some c → b.head? = some d → d ≠ oth c) : isP (a ++ b) = true := by
  refine isP_iff.mpr fun i c d e1 e2 => ?_
  rcases Nat.lt_trichotomy (i + 1) a.length with h | h | h
  · rw [List.getElem?_append_left (by omega)] at e1 e2
    exact isP_iff.mp h1 i c d e1 e2
  · rw [List.getElem?_append_left (by omega)] at e1
    rw [List.getElem?_append_right (by omega), show i + 1 - a.length = 0 by omega] at e2
    refine h3 c d ?_ (by rw [List.head?_eq_getElem?]; exact e2)
    rw [List.getLast?_eq_getElem?, show a.length - 1 = i by omega]
    exact e1
  · rw [List.getElem?_append_right (by omega)] at e1 e2
    rw [show i + 1 - a.length = (i - a.length) + 1 by omega] at e2
    exact isP_iff.mp h2 _ c d e1 e2
theorem isP_left {a b : List Nat} (h : isP (a ++ b) = true) : isP a = true := isP_iff.mpr fun i c d e1 e2 => by
  have l2 := (List.getElem?_eq_some_iff.mp e2).1
  exact isP_iff.mp h i c d (by rw [List.getElem?_append_left (by omega)]; exact e1) (by rw [List.getElem?_append_left l2]; exact e2)
theorem isP_right {a b : List Nat} (h : isP (a ++ b) = true) : isP b = true := isP_iff.mpr fun i c d e1 e2 =>
  isP_iff.mp h (a.length + i) c d (by rw [List.getElem?_append_right (by omega), Nat.add_sub_cancel_left]; exact e1)
    (by rw [List.getElem?_append_right (by omega), show a.length + i + 1 - a.length = i + 1 by omega]; exact e2)
theorem isP_take {a : List Nat} (h : isP a = true) (n : Nat) : isP (a.take n) = true := isP_left (b := a.drop n) (by rw [List.take_append_drop]; exact h)
theorem isP_drop {a : List Nat} (h : isP a = true) (n : Nat) : isP (a.drop n) = true := isP_right (a := a.take n) (by rw [List.take_append_drop]; exact h)
theorem isP_dropLast {a : List Nat} (h : isP a = true) : isP a.dropLast = true := by rw [List.dropLast_eq_take]; exact isP_take h _
theorem isP_stp {p : List Nat} {c : Nat} (hp : IsL p) (h : isP p = true) : isP (stp p c) = true := by
  unfold stp
  split
  · exact isP_dropLast h
  · rename_i n
    refine isP_app h rfl fun a d e1 e2 e => n ?_
    cases e2
    have ha : a ∈ letC := hp a (List.mem_of_getLast? e1)
    rw [e1, e, oth_oth ha]
theorem isP_fol {w : List Nat} : ∀ {p : List Nat}, IsL p → IsL w → isP p = true → isP (fol p w) = true := by
  induction w with
  | nil => exact fun _ _ h => h
  | cons c w ih => exact fun h k hp => ih (h.stp (k c (List.mem_cons_self ..))) (k.sub fun _ hc => List.mem_cons_of_mem _ hc) (isP_stp h hp)
/-- a place goes on as it stands -/
theorem fol_place {w : List Nat} : ∀ {p : List Nat}, IsL p → IsL w → isP (p ++ w) = true → fol p w = p ++ w := by
  induction w with
  | nil => intro p _ _ _; rw [List.append_nil]; rfl
  | cons c w ih =>
    intro p hp hw h
    have hc : c ∈ letC := hw c (List.mem_cons_self ..)
    have e : stp p c = p ++ [c] := by
      unfold stp
      rw [if_neg fun e => ?_]
      have h2 : isP (p ++ ([c] ++ w)) = true := h
      rw [← List.append_assoc] at h2
      have h3 := isP_left h2
      have hl : 0 < p.length := by
        cases p with
        | nil => cases e
        | cons _ _ => exact Nat.succ_pos _
      refine isP_iff.mp h3 (p.length - 1) (oth c) c ?_ ?_ (oth_oth hc).symm
      · rw [List.getElem?_append_left (by omega), ← List.getLast?_eq_getElem?]
        exact e
      · rw [List.getElem?_append_right (by omega), show p.length - 1 + 1 - p.length = 0 by omega]
        rfl
    rw [fol_cons, e, ih (hp.app (.one hc)) (hw.sub fun _ hd => List.mem_cons_of_mem _ hd) (by rw [List.append_assoc]; exact h), List.append_assoc]
    rfl
theorem fol_nil {w : List Nat} (hw : IsL w) (h : isP w = true) : fol [] w = w := fol_place .nil hw h
/-- one step and back -/
theorem stp_stp {p : List Nat} {c : Nat} (hp : IsL p) (h : isP p = true) (hc : c ∈ letC) : stp (stp p c) (oth c) = p := by
  by_cases e : p.getLast? = some (oth c)
  · have e1 : stp p c = p.dropLast := if_pos e
    obtain ⟨q, rfl⟩ : ∃ q, p = q ++ [oth c] := by
      refine ⟨p.dropLast, ?_⟩
      have hne : p ≠ [] := fun z => by rw [z] at e; cases e
      rw [List.getLast?_eq_some_getLast hne] at e
      rw [← Option.some.inj e, List.dropLast_concat_getLast]
    rw [e1, List.dropLast_concat]
    unfold stp
    rw [oth_oth hc, if_neg fun z => ?_]
    have hl : 0 < q.length := by
      cases q with
      | nil => cases z
      | cons _ _ => exact Nat.succ_pos _
    refine isP_iff.mp h (q.length - 1) c (oth c) ?_ ?_ rfl
    · rw [List.getElem?_append_left (by omega), ← List.getLast?_eq_getElem?]
      exact z
    · rw [List.getElem?_append_right (by omega), show q.length - 1 + 1 - q.length = 0 by omega]
      rfl
  · have e1 : stp p c = p ++ [c] := if_neg e
    rw [e1]
    unfold stp
    rw [oth_oth hc, if_pos (by simp), List.dropLast_concat]
theorem mir_cons (c : Nat) (w : List Nat) : mir (c :: w) = mir w ++ [oth c] := by unfold mir; rw [List.map_cons, List.reverse_cons]
theorem mir_app (a b : List Nat) : mir (a ++ b) = mir b ++ mir a := by unfold mir; rw [List.map_append, List.reverse_append]
/-- along a word and back again -/
theorem fol_mir {w : List Nat} : ∀ {p : List Nat}, IsL p → isP p = true → IsL w → fol (fol p w) (mir w) = p := by
  induction w with
  | nil => intro p _ _ _; rfl
  | cons c w ih =>
    intro p hp h hw
    have hc : c ∈ letC := hw c (List.mem_cons_self ..)
    rw [fol_cons, mir_cons, fol_app, ih (hp.stp hc) (isP_stp hp h) (hw.sub fun _ hd => List.mem_cons_of_mem _ hd)]
    exact stp_stp hp h hc
/-! a row repeated -/
def rep (r : List Nat) (n : Nat) : List Nat := (List.replicate n r).flatten
theorem rep_succ (r : List Nat) (n : Nat) : rep r (n + 1) = r ++ rep r n := by unfold rep; rw [List.replicate_succ, List.flatten_cons]
theorem rep_len (r : List Nat) (n : Nat) : (rep r n).length = n * r.length := by
  induction n with
  | zero => simp [rep]
  | succ n ih => rw [rep_succ, List.length_append, ih, Nat.succ_mul, Nat.add_comm]
theorem rep_l {r : List Nat} (h : IsL r) (n : Nat) : IsL (rep r n) := fun c hc => by
  obtain ⟨l, hl, hcl⟩ := List.mem_flatten.mp hc
  rw [(List.mem_replicate.mp hl).2] at hcl
  exact h c hcl
theorem rep_isP {r : List Nat} (h : isP (r ++ r) = true) (hne : r ≠ []) : ∀ n, isP (rep r n) = true
  | 0 => rfl
  | 1 => by rw [rep_succ]; exact isP_left (a := r) (b := r) h |> fun z => by rw [show rep r 0 = [] from rfl, List.append_nil]; exact z
  | n + 2 => by
    rw [rep_succ]
    refine isP_app (isP_left h) (rep_isP h hne (n + 1)) fun c d e1 e2 => ?_
    have hl : 0 < r.length := List.length_pos_iff.mpr hne
    refine isP_iff.mp h (r.length - 1) c d ?_ ?_
    · rw [List.getElem?_append_left (by omega), ← List.getLast?_eq_getElem?]
      exact e1
    · rw [List.getElem?_append_right (by omega), show r.length - 1 + 1 - r.length = 0 by omega, ← List.head?_eq_getElem?]
      rw [rep_succ] at e2
      cases r with
      | nil => exact absurd rfl hne
      | cons a r => exact e2
/-! ### the same of texts -/
theorem swap_letters {w : List Nat} (h : IsL w) : Txt.swapcase (S w) = S (w.map oth) := by
  unfold Txt.swapcase
  refine congrArg Str.mk ?_
  rw [placed_single (S w) _ oth fun i c hc => ?_]
  · exact List.map_toArray.symm ▸ rfl
  · have hm : c ∈ letC := h c (List.mem_of_getElem? hc)
    have hc' : (S w).cps[i]? = some c := by simpa using hc
    have key : ∀ c ∈ letC, (Unicode.isUpper c = true ∧ Unicode.lowerOf c = [oth c]) ∨ (Unicode.isUpper c = false ∧ Unicode.isLower c = true ∧ Unicode.upperOf c = [oth c]) := by decide +kernel
    have ne : ∀ c ∈ letC, (c == 0x3A3) = false := by decide
    rcases key c hm with ⟨k1, k2⟩ | ⟨k1, k2, k3⟩
    · rw [if_pos k1]
      unfold Unicode.lowerAt
      rw [hc']
      simp only [ne c hm, Bool.false_and, Bool.false_eq_true, if_false]
      exact k2
    · rw [if_neg (by rw [k1]; exact Bool.false_ne_true), if_pos k2]
      exact k3
theorem ends_one (p : List Nat) (c : Nat) : Txt.endswith (S p) (S [c]) = decide (p.getLast? = some c) := by
  unfold Txt.endswith
  rw [StrLaws.subAt_eq]
  show (decide (0 + (S [c]).length ≤ (S p).length) && ((p.drop ((S p).length - (S [c]).length)).take (S [c]).length == [c])) = _
  rw [S_len, S_len]
  cases hp : p with
  | nil => rfl
  | cons a r =>
    rw [← hp]
    have hl : 0 < p.length := by rw [hp]; exact Nat.succ_pos _
    have e : (p.drop (p.length - 1)).take 1 = [p[p.length - 1]] := by
      rw [List.drop_eq_getElem_cons (by omega)]
      rfl
    rw [show ([c] : List Nat).length = 1 from rfl, e, List.getLast?_eq_getElem?, List.getElem?_eq_getElem (by omega)]
    rw [decide_eq_true (by omega), Bool.true_and]
    by_cases hc : p[p.length - 1] = c
    · rw [hc]; simp
    · rw [decide_eq_false (fun z => hc (Option.some.inj z))]
      exact beq_eq_false_iff_ne.mpr fun z => hc (List.cons.inj z).1
theorem sIx_m1 (n d : Nat) : HT.sIx n d (some (-1)) = n - 1 := by
  show (if (-1 : Int) < 0 then (-1 + (n : Int)).toNat else min (-1 : Int).toNat n) = n - 1
  rw [if_pos (by decide)]
  omega
theorem cut_butlast (p : List Nat) : cutS (S p) none (some (-1)) = S p.dropLast := by
  unfold cutS
  rw [HT.sIx_none, S_len, sIx_m1]
  show S ((p.drop 0).take (p.length - 1 - 0)) = _
  rw [List.drop_zero, Nat.sub_zero, List.dropLast_eq_take]
theorem cut_last (p : List Nat) : cutS (S p) (some (-1)) none = S (p.drop (p.length - 1)) := by
  unfold cutS
  rw [HT.sIx_none, S_len, sIx_m1]
  show S ((p.drop (p.length - 1)).take (p.length - (p.length - 1))) = _
  rw [List.take_of_length_le (by rw [List.length_drop]; exact Nat.le_refl _)]
theorem cut_to (p : List Nat) {i : Int} (h : 0 ≤ i) : cutS (S p) none (some i) = S (p.take i.toNat) := by
  obtain ⟨n, rfl⟩ : ∃ n : Nat, i = n := ⟨i.toNat, by omega⟩
  unfold cutS
  rw [HT.sIx_none, S_len, HT.sIx_nat, Int.toNat_natCast]
  show S ((p.drop 0).take (min n p.length - 0)) = _
  rw [List.drop_zero, Nat.sub_zero]
  refine congrArg S ?_
  by_cases c : n ≤ p.length
  · rw [Nat.min_eq_left c]
  · rw [Nat.min_eq_right (by omega), List.take_length, List.take_of_length_le (by omega)]
theorem cut_from (p : List Nat) {i : Int} (h : 0 ≤ i) : cutS (S p) (some i) none = S (p.drop i.toNat) := by
  obtain ⟨n, rfl⟩ : ∃ n : Nat, i = n := ⟨i.toNat, by omega⟩
  unfold cutS
  rw [HT.sIx_none, S_len, HT.sIx_nat, Int.toNat_natCast]
  show S ((p.drop (min n p.length)).take (p.length - min n p.length)) = _
  refine congrArg S ?_
  by_cases c : n ≤ p.length
  · rw [Nat.min_eq_left c, List.take_of_length_le (by rw [List.length_drop]; exact Nat.le_refl _)]
  · rw [Nat.min_eq_right (by omega), List.drop_length, List.drop_of_length_le (by omega), List.take_nil]
theorem mul_S (r : List Nat) {n : Int} (h : 0 ≤ n) : Txt.mul (S r) n = S (rep r n.toNat) := by
  unfold Txt.mul
  by_cases h1 : n < 1
  · rw [if_pos h1, show n.toNat = 0 by omega]
    rfl
  rw [if_neg h1]
  have fl : ∀ (l : List (Array Nat)) (acc : Array Nat), (l.foldl (· ++ ·) acc).toList = acc.toList ++ (l.map Array.toList).flatten := by
    intro l
    induction l with
    | nil => intro acc; simp
    | cons a l ih => intro acc; rw [List.foldl_cons, ih]; simp
  by_cases h2 : (n == 1 || (S r).length == 0) = true
  · rw [if_pos h2]
    rcases Bool.or_eq_true_iff.mp h2 with h3 | h3
    · rw [eq_of_beq h3]
      show S r = S (rep r 1)
      rw [rep_succ, show rep r 0 = [] from rfl, List.append_nil]
    · have e := eq_of_beq h3
      rw [S_len] at e
      cases r with
      | nil =>
        refine congrArg S ?_
        have := rep_len [] n.toNat
        cases hr : rep [] n.toNat with
        | nil => rfl
        | cons a l => rw [hr] at this; cases this
      | cons a l => cases e
  · rw [if_neg h2]
    refine TL.ext_tl ?_
    show ((List.replicate n.toNat (S r).cps).foldl (· ++ ·) #[]).toList = rep r n.toNat
    rw [fl]
    unfold rep
    rw [List.map_replicate]
    rfl
end Xia

set_option Elab.async false
set_option linter.all false
set_option maxRecDepth 100000
set_option maxHeartbeats 4000000
/-! ### counting truths; a lambda called in a try; a lambda handed on -/
namespace Xia
open PySem PySem.Spec PyProof.Rows L2 SX LamX
def isTrueV (v : Value) : Bool := match v with
  | .bool b => b
  | _ => false
theorem trues {bs : List Bool} : ∀ {us : List Value}, Vals (bs.map V.bl) us → us = bs.map Value.bool := by
  induction bs with
  | nil => intro us h; cases h; rfl
  | cons b bs ih =>
    intro us h
    cases h with
    | cons r rs =>
      rw [ih rs, show _ = Value.bool b from r]
      rfl
def rCntB (K : PySem.W.Frag) : V → List V → Hp → VK → Prop := fun x xs H Q => ∃ (p : Addr) (bs : List Bool), x = .ref p ∧ xs = [.bl true] ∧ SqL K H p (bs.map V.bl) ∧ Q (.int (bs.count true : Nat)) H
theorem mt_countB {X : Cx} {K : PySem.W.Frag} (hK : X.K = K := by rfl) : MtR X "list.count" (rCntB K) := by
  subst hK
  intro pins s σ H x xs v us Q I rx rxs h
  obtain ⟨p, bs, rfl, rfl, hs, q⟩ := h
  cases rx
  obtain ⟨u, rfl, ru⟩ := rxs.one
  cases (show u = Value.bool true from ru)
  obtain ⟨its, rv, ⟨⟨cls, dd, data, sl⟩, n, ho, hc, hdn, hd⟩, hlen⟩ := I.list hs
  simp only at hc hd
  subst hc hd
  have hi := trues rv
  refine call_meets PySem.F.slot_list_count ⟨_, ho, rfl⟩ PySem.F.entry_list_count (PySem.F.args_list_count_2 _ _) (SeqAt.list_countAt p its.toArray n dd sl (.bool true) isTrueV) ⟨ho, fun y hy => ?_, ?_⟩
  · have hy' : y ∈ its := by simpa using hy
    rw [hi] at hy'
    obtain ⟨b, _, rfl⟩ := List.mem_map.mp hy'
    have e := eqAt_V (A := X.A.in1) (s := s) (y := .bl b) (x := .bl true) (u := .bool b) (v := .bool true) rfl rfl rfl rfl
    have eb : eqV (.bl b) (.bl true) = isTrueV (.bool b) := by cases b <;> rfl
    rw [eb] at e
    exact e
  have ec : its.toArray.toList.countP isTrueV = bs.count true := by
    show its.countP isTrueV = _
    rw [hi, List.countP_map]
    unfold List.count
    congr 1
    funext b
    cases b <;> rfl
  refine ⟨.int (bs.count true : Nat), H, I.tok _, ⟨s.toks, ?_⟩, q⟩
  show Value.int ((its.toArray.toList.countP isTrueV : Nat) : Int) s.toks = _
  rw [ec]
theorem _root_.L2.Takes.len {X : Cx} {W : WX} (t : Takes X W) : Takes X (fun c d σ H => σ.length = X.N.length → W c d σ H) := fun u s' x => by
  obtain ⟨a, B, sI, pins, σ, H, cls, d, e, I, nb, up, sky, na, os, ag, w⟩ := x
  exact t u s' ⟨a, B, sI, pins, σ, H, cls, d, e, I, nb, up, sky, na, os, ag, w I.len⟩
/-- act(), in the body of a try: what it does is told of the lambda's reading tl -/
def tAct (n : Nat) (f c' : Addr) (q : Str) (tl : XK → Hp → VK → Prop) (W : WX) : TE := fun σ H Q => ∃ E : XK, (∀ cls d σ' H', σ'.length = n → E cls d H' → W cls d σ' H') ∧ σ[0]? = some (some (.ref f)) ∧ H c' = some (CodeO c' q) ∧ tl E H Q
/-- what a def knows of the lambda that it got -/
def Acts (Z : Cx) (a : Str) (f c' : Addr) (q : Str) (tl : XK → Hp → VK → Prop) : Prop := ∀ (W : WX) (pn : List (Addr × Obj)) (xe : Value → Shared → Prop) (E : XK) (p1 p2 : Pos), Takes (Z.tr pn xe) W → (∀ cls d σ' H', E cls d H' → W cls d σ' H') →
  PE (Z.tr pn xe) (.Call (.Name a p1) [] [] p2) (fun σZ HZ Q => σZ[0]? = some (some (.ref f)) ∧ HZ c' = some (CodeO c' q) ∧ tl E HZ Q)
theorem pAct {Z : Cx} {a : Str} {f c' : Addr} {q : Str} {tl : XK → Hp → VK → Prop} (act : Acts Z a f c' q tl) {W : WX} {pn : List (Addr × Obj)} {xe : Value → Shared → Prop} (tk : Takes (Z.tr pn xe) W) {p1 p2 : Pos} :
    PE (Z.tr pn xe) (.Call (.Name a p1) [] [] p2) (tAct Z.N.length f c' q tl W) := by
  constructor
  intro pins s σ H Q I h
  obtain ⟨E, hW, h1, h2, h3⟩ := h
  exact (act _ pn xe E p1 p2 tk.len fun cls d σ' H' he hl => hW cls d σ' H' hl he).run pins s σ H Q I ⟨h1, h2, h3⟩
/-- the named classes: what _law_z_error tells of an exception of each -/
def TTerr (ws : List (Addr × Str)) : (XK → Hp → VK → Prop) → Hp → VK → Prop := fun tl H Q =>
  tl (fun cls d H' => d = none ∧ ∃ (D : Addr) (z : Str), cls = .ref D ∧ (D, z) ∈ ws ∧ ∀ H'', Same H' H'' → Q (.str z) H'') H fun _ H' => Q (.str "fine") H'
/-- a def that gets a lambda: what a call of it with one needs -/
structure LamD (P : Program) (w : World) (K : PySem.W.Frag) (mg : Str → Option Value) (base : Heap) (k : Nat) (x a : Str) (TT : (XK → Hp → VK → Prop) → Hp → VK → Prop) : Prop where
  ex : ∃ (g : Addr) (oc kV doc pm cdv ct : Value) (od an : Option Addr) (osl : Array (Option Value)) (pg : Arguments) (bg : List Stmt) (sg : Scope) (Ng : List Str),
    K.lookup g = some ⟨oc, od, .func (PySem.W.fnOf x x pg bg sg .none kV doc pm an cdv ct), osl⟩ ∧ PySem.W.codeIn K cdv x = true ∧ mg x = some (.ref g) ∧ PySem.W.keepIn K (.ref g) = true ∧
    L2.Binds K (PySem.W.fnOf x x pg bg sg .none kV doc pm an cdv ct) [a] [] ∧ FnScope Ng [a] sg ∧ Ng[0]? = some a ∧ Vis sg a ∧
    ∀ (X : Cx) (q : Str), X.prog = P → X.w = w → X.K = K → X.mg = mg → X.base = base → Room (k + 1) X.A → GivesTo X Ng x sg g cdv bg a q TT
theorem LamD.mk0 {P : Program} {w : World} {K : PySem.W.Frag} {mg : Str → Option Value} {base : Heap} {k : Nat} {x a : Str} {TT : (XK → Hp → VK → Prop) → Hp → VK → Prop} {st : Stmt} {f : Addr} {fd : FuncData} {N : List Str}
    (F : Fun K x x st f fd) (hm : mg x = some (.ref f)) (hb : Binds K fd [a] []) (S : FnScope N [a] (defScope st)) (hN : N[0]? = some a) (hv : Vis (defScope st) a)
    (hG : ∀ (X : Cx) (cdv : Value) (q : Str), X.prog = P → X.w = w → X.K = K → X.mg = mg → X.base = base → Room (k + 1) X.A → GivesTo X N x (defScope st) f cdv (defBody st) a q TT) : LamD P w K mg base k x a TT := by
  have kp := F.kp
  obtain ⟨oc, od, kV, doc, pm, an, cdv, ct, osl, rfl, lk, hcd⟩ := F.ex
  exact ⟨f, oc, kV, doc, pm, cdv, ct, od, an, osl, _, _, _, N, lk, hcd, hm, kp, hb, S, hN, hv, fun X q => hG X cdv q⟩
/-- x(lambda: body) -/
theorem pLam {X : Cx} {T : List (Addr × Str)} {TT : (XK → Hp → VK → Prop) → Hp → VK → Prop} {x a : Str} {c P : Addr} {k j : Nat} {params : Arguments} {body : Expr} {scope : Scope} {t : XK → TE} {p lpos pos : Pos}
    (D : LamD X.prog X.w X.K X.mg X.base j x a TT) (hr : Room (k + 2) X.A) (hr2 : Room (j + 1) X.A) (TB : TabB X.base X.mg c P) (hcode : X.env.code = .ref c) (hT : T = [(P, X.env.qual ++ "<lambda>")]) (L : LamS X.env.scope scope) (hdef : defaultsOf params X.env = ([], []))
    (hbind : ∀ (q : Str) (cl : List (Str × Addr)) (pm cv ctv : Value), bindArgs (PySem.W.kla_fn "<lambda>" q params body scope cl pm cv ctv) ⟨[], []⟩ = pure [])
    (hbody : ∀ (A : Around) (out : List Env) (s : Shared) (H : Hp) (E : XK) (f c' : Addr), Room k (A.deeper (lamEnv X scope s.heap.objs.size f c')) → PE (lamCx X A out s H E scope f c') body (t E)) (hg : Gl X x := by rfl)
    (hdb : (x == ("__debug__" : Str)) = false := by decide) (hd : (a == ("__debug__" : Str)) = false := by decide) (hcd : (a == ("__classdict__" : Str)) = false := by decide) :
    PE X (.Call (.Name x p) [.Lambda params body scope lpos] [] pos) (tLam T TT t) := by
  obtain ⟨g, oc, kV, doc, pm, cdv, ct, od, an, osl, pg, bg, sg, Ng, lk, hcg, hm, hk, hb, Sg, hN, hv, hG⟩ := D.ex
  subst hT
  refine pe_lamcall (c := c) (P := P) hg hm hk lk hcg hb Sg hN hv (hG X _ rfl rfl rfl rfl rfl hr2) TB hcode (List.mem_singleton.mpr rfl) (fun p hp e => ?_) hr L hdef hbind hbody hdb hd hcd
  rw [List.mem_singleton.mp hp]
theorem passLam {X : Cx} {A : Around} {out : List Env} {s : Shared} {H : Hp} {E : XK} {scope : Scope} {f c' : Addr} : Passes (L2.CX X.prog X.w) (lamCx X A out s H E scope f c') E :=
  passes_call (takes_of rfl rfl rfl rfl) (fun _ _ _ _ z => z)
theorem XC.names' {X : Cx} {K : PySem.W.Frag} {mg : Str → Option Value} {x : Str} {C : Addr} (c : XC K mg x C) (h1 : X.K = K) (h2 : X.mg = mg) (hg : Gl X x := by rfl) (hd : (x == ("__debug__" : Str)) = false := by decide) : Names X x (.ref C) := by
  subst h1 h2
  exact c.names hg hd
/-! tables stay -/
theorem _root_.LamX.Tabs.same {T : List (Addr × Str)} {H H' : Hp} (t : Tabs T H) (s : Same H H') : Tabs T H' := t.ext s
theorem _root_.LamX.Tabs.sameP {T : List (Addr × Str)} {H H' : Hp} {p : Addr} {xs : List V} (t : Tabs T H) (s : SameP p H H') (hp : H p = some (.lst xs)) : Tabs T H' := fun e he => by
  obtain ⟨ps, h1, h2, h3⟩ := t e he
  refine ⟨ps, s _ _ (ne_of h1 hp (by intro z; cases z)) h1, h2, fun pos cv hc => ?_⟩
  obtain ⟨c, e1, e2⟩ := h3 pos cv hc
  exact ⟨c, e1, s _ _ (ne_of e2 hp (by unfold CodeO; intro z; cases z)) e2⟩
end Xia

set_option Elab.async false
set_option linter.all false
set_option maxRecDepth 100000
set_option maxHeartbeats 4000000
/-! ### is not of truths; how long the text of a list of words is -/
namespace Xia
open PySem PySem.Spec PyProof.Rows L2 SX
def mNot2 : R2 := fun x y H Q => match x, y with
  | .bl a, .bl b => Q (.bl (!decide (a = b))) H
  | x, .non => Q (.bl (!decide (x = .non))) H
  | _, _ => False
theorem oIsNot2 {X : Cx} : OpR X (compareOp .IsNot) mNot2 := by
  intro pins s σ H x y v u Q I rx ry h
  unfold mNot2 at h
  split at h
  · exact op_isnot_bl pins s σ H _ _ v u Q I rx ry ⟨_, _, rfl, rfl, h⟩
  · exact op_notN pins s σ H _ _ v u Q I rx ry ⟨rfl, h⟩
  · exact h.elim
theorem len_cat (a b : Str) : (a ++ b).length = a.length + b.length := by
  have h := congrArg List.length (TL.tl_append a b)
  rw [List.length_append] at h
  exact (str_len (a ++ b)).symm.trans (h.trans (by show a.cps.toList.length + b.cps.toList.length = _; rw [str_len, str_len]))
theorem textFrom_le : ∀ (ts : List Str) (k : Nat) (acc : Str), (textFrom k acc ts).length ≤ acc.length + (ts.map fun t => t.length + 2).sum
  | [], k, acc => Nat.le_refl _
  | t :: r, k, acc => by
    have ih := textFrom_le r (k + 1) (acc ++ (if k > 0 then ", " else "" : String) ++ t)
    rw [len_cat, len_cat] at ih
    have h2 : ((if k > 0 then ", " else "" : String) : Str).length ≤ 2 := by
      by_cases c : k > 0
      · rw [if_pos c]; decide
      · rw [if_neg c]; decide
    rw [List.map_cons, List.sum_cons]
    refine Nat.le_trans ih ?_
    omega
def wordsD (us : List (List Nat)) : PyData := .list (us.map fun u => .str (S u))
theorem shownAll_words : ∀ us : List (List Nat), PyData.shownAll (us.map fun u => .str (S u)) = us.map fun u => reprText (S u)
  | [] => rfl
  | u :: us => congrArg (reprText (S u) :: ·) (shownAll_words us)
theorem showableAll_words : ∀ us : List (List Nat), PyData.showableAll (us.map fun u => .str (S u)) = true ∧ PyData.depthAll (us.map fun u => .str (S u)) = 0
  | [] => ⟨rfl, rfl⟩
  | u :: us => by
    obtain ⟨h1, h2⟩ := showableAll_words us
    exact ⟨by show (true && _) = true; rw [h1]; rfl, by show max 0 _ = 0; rw [h2]; rfl⟩
theorem letC_lt {c : Nat} (h : c ∈ letC) : c < 16 ^ 8 := by revert c; decide
theorem shows_words {us : List (List Nat)} (h1 : us.length ≤ 20) (h2 : ∀ u ∈ us, IsL u ∧ u.length ≤ 10000) : Shows (wordsD us) := by
  have hz := sizeLine_eq
  obtain ⟨g1, g2⟩ := showableAll_words us
  refine ⟨g1, ?_, ?_⟩
  · show PyData.depthAll (us.map fun u => .str (S u)) + 1 ≤ 60
    omega
  · show (listText (PyData.shownAll (us.map fun u => .str (S u)))).length ≤ sizeLine
    rw [shownAll_words]
    unfold listText
    rw [len_cat]
    have k := textFrom_le (us.map fun u => reprText (S u)) 0 "["
    have b : ∀ vs : List (List Nat), (∀ u ∈ vs, IsL u ∧ u.length ≤ 10000) → ((vs.map fun u => reprText (S u)).map fun t => t.length + 2).sum ≤ vs.length * 100004 := by
      intro vs
      induction vs with
      | nil => intro _; exact Nat.le_refl _
      | cons v vs ih =>
        intro hv
        have h3 := ih fun u hu => hv u (List.mem_cons_of_mem _ hu)
        obtain ⟨h4, h5⟩ := hv v (List.mem_cons_self ..)
        have h6 := StrLaws.reprText_len (S v) fun c hc => letC_lt (h4 c hc)
        have h7 : (S v).length = v.length := S_len v
        rw [h7] at h6
        rw [List.map_cons, List.map_cons, List.sum_cons, List.length_cons, Nat.succ_mul]
        refine Nat.le_trans (Nat.add_le_add (Nat.add_le_add_right h6 2) h3) ?_
        have h8 : 10 * v.length + 2 + 2 ≤ 100004 := by omega
        rw [Nat.add_comm]
        exact Nat.add_le_add_left h8 _
    have b2 := b us h2
    have e1 : (("[" : String) : Str).length = 1 := by decide
    have e2 : (("]" : String) : Str).length = 1 := by decide
    have b3 : us.length * 100004 ≤ 20 * 100004 := Nat.mul_le_mul_right _ h1
    rw [e1] at k
    rw [e2]
    omega
theorem dp_words {K : PySem.W.Frag} {H : Hp} : ∀ us : List (List Nat), DpAll K H (us.map fun u => V.str (S u)) (us.map fun u => PyData.str (S u))
  | [] => .nil
  | u :: r => .cons (.str _) (dp_words r)
end Xia

set_option Elab.async false
set_option linter.all false
set_option maxRecDepth 100000
set_option maxHeartbeats 4000000
namespace K31
open PySem PySem.Spec PyProof.Rows L2 Xia SX LamX
/-! ### the text -/
def topS (i : Nat) : Stmt := PySem.Challenge.pw_solvedtreads_k31_words_and_places.main.body.getD i (.Pass ⟨0, 0, 0, 0⟩)
abbrev s__law_spread : Stmt := topS 29
abbrev N__law_spread : List Str := ["cell", "at", "primes", "one", "two", "three"]
theorem sc__law_spread : FnScope N__law_spread ["cell", "at"] (defScope s__law_spread) := ⟨rfl, rfl, rfl, by decide +kernel, rfl, by decide +kernel, by decide +kernel⟩
abbrev s__law_open : Stmt := topS 30
abbrev N__law_open : List Str := ["script", "cells", "nth", "cell"]
theorem sc__law_open : FnScope N__law_open ["script"] (defScope s__law_open) := ⟨rfl, rfl, rfl, by decide +kernel, rfl, by decide +kernel, by decide +kernel⟩
abbrev s__law_take : Stmt := topS 31
abbrev N__law_take : List Str := ["pen", "many", "at", "cell", "found"]
theorem sc__law_take : FnScope N__law_take ["pen", "many"] (defScope s__law_take) := ⟨rfl, rfl, rfl, by decide +kernel, rfl, by decide +kernel, by decide +kernel⟩
abbrev s__law_z_pick : Stmt := topS 32
abbrev N__law_z_pick : List Str := ["pen", "some"]
theorem sc__law_z_pick : FnScope N__law_z_pick ["pen", "some"] (defScope s__law_z_pick) := ⟨rfl, rfl, rfl, by decide +kernel, rfl, by decide +kernel, by decide +kernel⟩
abbrev s_is_word : Stmt := topS 18
abbrev N_is_word : List Str := ["thing", "letter"]
theorem sc_is_word : FnScope N_is_word ["thing"] (defScope s_is_word) := ⟨rfl, rfl, rfl, by decide +kernel, rfl, by decide +kernel, by decide +kernel⟩
abbrev s_is_place : Stmt := topS 19
abbrev N_is_place : List Str := ["thing", "letter", "following"]
theorem sc_is_place : FnScope N_is_place ["thing"] (defScope s_is_place) := ⟨rfl, rfl, rfl, by decide +kernel, rfl, by decide +kernel, by decide +kernel⟩
abbrev s_check_word : Stmt := topS 20
abbrev N_check_word : List Str := ["word"]
theorem sc_check_word : FnScope N_check_word ["word"] (defScope s_check_word) := ⟨rfl, rfl, rfl, by decide +kernel, rfl, by decide +kernel, by decide +kernel⟩
abbrev s_turn : Stmt := topS 22
abbrev N_turn : List Str := ["word"]
theorem sc_turn : FnScope N_turn ["word"] (defScope s_turn) := ⟨rfl, rfl, rfl, by decide +kernel, rfl, by decide +kernel, by decide +kernel⟩
abbrev s_step : Stmt := topS 23
abbrev N_step : List Str := ["place", "letter"]
theorem sc_step : FnScope N_step ["place", "letter"] (defScope s_step) := ⟨rfl, rfl, rfl, by decide +kernel, rfl, by decide +kernel, by decide +kernel⟩
abbrev s_follow : Stmt := topS 24
abbrev N_follow : List Str := ["place", "word", "letter"]
theorem sc_follow : FnScope N_follow ["place", "word"] (defScope s_follow) := ⟨rfl, rfl, rfl, by decide +kernel, rfl, by decide +kernel, by decide +kernel⟩
abbrev s_check_place : Stmt := topS 21
abbrev N_check_place : List Str := ["place"]
theorem sc_check_place : FnScope N_check_place ["place"] (defScope s_check_place) := ⟨rfl, rfl, rfl, by decide +kernel, rfl, by decide +kernel, by decide +kernel⟩
abbrev s_back : Stmt := topS 25
abbrev N_back : List Str := ["word"]
theorem sc_back : FnScope N_back ["word"] (defScope s_back) := ⟨rfl, rfl, rfl, by decide +kernel, rfl, by decide +kernel, by decide +kernel⟩
abbrev s_reduced : Stmt := topS 26
abbrev N_reduced : List Str := ["word"]
theorem sc_reduced : FnScope N_reduced ["word"] (defScope s_reduced) := ⟨rfl, rfl, rfl, by decide +kernel, rfl, by decide +kernel, by decide +kernel⟩
abbrev s_behind : Stmt := topS 27
abbrev N_behind : List Str := ["place", "word"]
theorem sc_behind : FnScope N_behind ["place", "word"] (defScope s_behind) := ⟨rfl, rfl, rfl, by decide +kernel, rfl, by decide +kernel, by decide +kernel⟩
abbrev s__law_z_other : Stmt := topS 33
abbrev N__law_z_other : List Str := ["letter"]
theorem sc__law_z_other : FnScope N__law_z_other ["letter"] (defScope s__law_z_other) := ⟨rfl, rfl, rfl, by decide +kernel, rfl, by decide +kernel, by decide +kernel⟩
abbrev s__law_z_mirror : Stmt := topS 34
abbrev N__law_z_mirror : List Str := ["word", "letter"]
theorem sc__law_z_mirror : FnScope N__law_z_mirror ["word"] (defScope s__law_z_mirror) := ⟨rfl, rfl, rfl, by decide +kernel, rfl, by decide +kernel, by decide +kernel⟩
abbrev s__law_z_behind : Stmt := topS 35
abbrev N__law_z_behind : List Str := ["place", "word", "letter"]
theorem sc__law_z_behind : FnScope N__law_z_behind ["place", "word"] (defScope s__law_z_behind) := ⟨rfl, rfl, rfl, by decide +kernel, rfl, by decide +kernel, by decide +kernel⟩
abbrev s__law_z_signs : Stmt := topS 36
abbrev N__law_z_signs : List Str := ["pen"]
theorem sc__law_z_signs : FnScope N__law_z_signs ["pen"] (defScope s__law_z_signs) := ⟨rfl, rfl, rfl, by decide +kernel, rfl, by decide +kernel, by decide +kernel⟩
abbrev s__law_z_path : Stmt := topS 37
abbrev N__law_z_path : List Str := ["pen", "most", "signs", "word", "place", "turn_v", "letter"]
theorem sc__law_z_path : FnScope N__law_z_path ["pen", "most", "signs"] (defScope s__law_z_path) := ⟨rfl, rfl, rfl, by decide +kernel, rfl, by decide +kernel, by decide +kernel⟩
abbrev s__law_z_far : Stmt := topS 38
abbrev N__law_z_far : List Str := ["pen", "many", "row"]
theorem sc__law_z_far : FnScope N__law_z_far ["pen", "many"] (defScope s__law_z_far) := ⟨rfl, rfl, rfl, by decide +kernel, rfl, by decide +kernel, by decide +kernel⟩
abbrev s__law_z_odd : Stmt := topS 39
abbrev N__law_z_odd : List Str := ["pen", "word", "signs", "at", "sign", "spoiled", "some"]
theorem sc__law_z_odd : FnScope N__law_z_odd ["pen", "word"] (defScope s__law_z_odd) := ⟨rfl, rfl, rfl, by decide +kernel, rfl, by decide +kernel, by decide +kernel⟩
abbrev s__law_z_error : Stmt := topS 40
abbrev N__law_z_error : List Str := ["act", "caught", "e", "some", "words"]
theorem sc__law_z_error : FnScope N__law_z_error ["act"] (defScope s__law_z_error) := ⟨rfl, rfl, rfl, by decide +kernel, rfl, by decide +kernel, by decide +kernel⟩
abbrev s__law_z_refused_right : Stmt := topS 41
abbrev N__law_z_refused_right : List Str := ["pen", "word", "place", "odd", "many", "long", "far", "pair", "at", "double", "bent", "rows", "row"]
theorem sc__law_z_refused_right : FnScope N__law_z_refused_right ["pen", "word", "place"] (defScope s__law_z_refused_right) := ⟨rfl, rfl, rfl, by decide +kernel, rfl, by decide +kernel, by decide +kernel⟩
abbrev s_law : Stmt := topS 42
abbrev N_law : List Str := ["script", "pen", "turn_v", "signs", "word", "place", "long", "far", "text", "due", "told", "wanted", "huge", "at", "bent", "nested", "wrong"]
theorem sc_law : FnScope N_law ["script"] (defScope s_law) := ⟨rfl, rfl, rfl, by decide +kernel, rfl, by decide +kernel, by decide +kernel⟩
structure Txt (K : PySem.W.Frag) (mg : Str → Option Value) (C_TreadError : Addr) (C_NoWord : Addr) (C_NoPlace : Addr) (C_NoTread : Addr) (C_NoPower : Addr) (C_NoNumber : Addr) (C_NoMakers : Addr) (C_NoWalk : Addr) (C_NoAnswers : Addr) (C_NoWishes : Addr) (C_NoUndo : Addr) (C_NoThings : Addr) (C_NoMatch : Addr) (C_TooGreat : Addr) : Prop where
  x_TreadError : XC K mg "TreadError" C_TreadError
  x_NoWord : XC K mg "NoWord" C_NoWord
  x_NoPlace : XC K mg "NoPlace" C_NoPlace
  x_NoTread : XC K mg "NoTread" C_NoTread
  x_NoPower : XC K mg "NoPower" C_NoPower
  x_NoNumber : XC K mg "NoNumber" C_NoNumber
  x_NoMakers : XC K mg "NoMakers" C_NoMakers
  x_NoWalk : XC K mg "NoWalk" C_NoWalk
  x_NoAnswers : XC K mg "NoAnswers" C_NoAnswers
  x_NoWishes : XC K mg "NoWishes" C_NoWishes
  x_NoUndo : XC K mg "NoUndo" C_NoUndo
  x_NoThings : XC K mg "NoThings" C_NoThings
  x_NoMatch : XC K mg "NoMatch" C_NoMatch
  x_TooGreat : XC K mg "TooGreat" C_TooGreat
  b_ValueError : mg "ValueError" = none
  b_enumerate : mg "enumerate" = none
  b_int : mg "int" = none
  b_isinstance : mg "isinstance" = none
  b_len : mg "len" = none
  b_list : mg "list" = none
  b_range : mg "range" = none
  b_repr : mg "repr" = none
  b_str : mg "str" = none
  b_zip : mg "zip" = none
  k_LETTERS : Cst mg "LETTERS" (.str "ABCDabcd")
  k_MOST_LETTERS : Cst mg "MOST_LETTERS" (.int 200)

/-! ### the pen -/
structure PenAt (n : Nat) (H : Hp) (p : Addr) : Prop where
  ex : ∃ (c : Addr) (cells : List Int) (at_ rest : Int), H p = some (.lst [.ref c, .int at_, .int rest]) ∧ H c = some (.lst (cells.map V.int)) ∧ c ≠ p ∧ 0 ≤ at_ ∧ at_ ≤ n ∧ 0 ≤ rest
theorem _root_.L2.Same.pen {H H' : Hp} {n : Nat} {p : Addr} (s : Same H H') (h : PenAt n H p) : PenAt n H' p := by
  obtain ⟨c, cells, a, r, h1, h2, h3⟩ := h.ex
  exact ⟨c, cells, a, r, s _ _ h1, s _ _ h2, h3⟩
theorem PenAt.mono {H : Hp} {n m : Nat} {p : Addr} (h : PenAt n H p) (l : n ≤ m) : PenAt m H p := by
  obtain ⟨c, cells, a, r, h1, h2, h3, h4, h5, h6⟩ := h.ex
  exact ⟨c, cells, a, r, h1, h2, h3, h4, by omega, h6⟩
def spSpread : Sp := Sp2 fun x y H Q E => ∃ c a : Int, x = .int c ∧ y = .int a ∧ 0 ≤ a ∧ a ≤ 4000000000 ∧ ∀ r H', 0 ≤ r → Same H H' → Q (.int r) H'
def spOpen (K : PySem.W.Frag) : Sp := Sp1 fun x H Q E => ∃ (a : Addr) (ns : List Int), x = .ref a ∧ SqL K H a (ns.map V.int) ∧ ns.length ≤ 63 ∧ ∀ p H', Same H H' → H p = none → PenAt 0 H' p → Q (.ref p) H'
def spTake : Sp := Sp2 fun x y H Q E => ∃ (p : Addr) (n : Nat) (many : Int), x = .ref p ∧ y = .int many ∧ PenAt n H p ∧ n < 4000000000 ∧ 0 < many ∧ many < 1073741824 ∧
  ∀ r H', 0 ≤ r → r < many → SameP p H H' → PenAt (n + 1) H' p → Q (.int r) H'
def spPick (K : PySem.W.Frag) : Sp := Sp2 fun x y H Q E => ∃ (p : Addr) (n : Nat), x = .ref p ∧ PenAt n H p ∧ n < 4000000000 ∧ match y with
  | .str z => 0 < z.length ∧ z.length ≤ sizeLine ∧ ∀ c ∈ z.cps.toList, ∀ H', SameP p H H' → PenAt (n + 1) H' p → Q (.str ⟨#[c]⟩) H'
  | .ref a => ∃ xs, (SqL K H a xs ∨ SqT K H a xs) ∧ a ≠ p ∧ xs ≠ [] ∧ xs.length ≤ sizeLine ∧ ∀ v ∈ xs, ∀ H', SameP p H H' → PenAt (n + 1) H' p → Q v H'
  | _ => False
def primesI : List Int := [2147483629, 2147483587, 2147483579, 2147483563, 2147483549, 2147483543, 2147483497, 2147483489, 2147483477, 2147483423, 2147483399, 2147483353, 2147483323]
theorem primes_at (k : Int) (h0 : 0 ≤ k) (h1 : k < 13) : ∃ pr : Int, atI (primesI.map V.int) k = some (.int pr) ∧ 2147483323 ≤ pr ∧ pr ≤ 2147483629 := by
  have hk : k = 0 ∨ k = 1 ∨ k = 2 ∨ k = 3 ∨ k = 4 ∨ k = 5 ∨ k = 6 ∨ k = 7 ∨ k = 8 ∨ k = 9 ∨ k = 10 ∨ k = 11 ∨ k = 12 := by omega
  rcases hk with rfl | rfl | rfl | rfl | rfl | rfl | rfl | rfl | rfl | rfl | rfl | rfl | rfl <;> exact ⟨_, rfl, by decide, by decide⟩
theorem mul_lt {x y A B : Int} (h1 : 0 ≤ x) (h2 : x ≤ A) (h3 : 0 ≤ y) (h4 : y ≤ B) : 0 ≤ x * y ∧ x * y ≤ A * B :=
  ⟨Int.mul_nonneg h1 h3, Int.mul_le_mul h2 h4 h3 (Int.le_trans h1 h2)⟩
/-! ### words -/
def isW (z : Str) : Bool := z.cps.toList.all fun c => decide (c ∈ letC)
def NoStr (K : PySem.W.Frag) (H : Hp) (v : V) : Prop := ∃ t, TyX K H v (.type t) ∧ PySem.W.kitOne K (.type t) (.type "str") = some false
def WordB (K : PySem.W.Frag) (H : Hp) (x : V) (b : Bool) : Prop := (∃ z, x = .str z ∧ b = isW z) ∨ (NoStr K H x ∧ b = false)
def spIsWord (K : PySem.W.Frag) : Sp := Sp1 fun x H Q E => ∃ b, WordB K H x b ∧ Q (.bl b) H
def spCheckWord (K : PySem.W.Frag) (C : Addr) : Sp := Sp1 fun x H Q E => (∃ z, x = .str z ∧ z.length ≤ sizeLine ∧ (isW z = true → z.length ≤ 200 → Q .non H) ∧ (¬ (isW z = true ∧ z.length ≤ 200) → E (.ref C) none H)) ∨ (NoStr K H x ∧ E (.ref C) none H)
theorem letters_eq : (("ABCDabcd" : Str)).cps.toList = letC := by decide +kernel
theorem PenAt.ne {n : Nat} {H : Hp} {p l : Addr} (h : PenAt n H p) (nl : H l = none) : l ≠ p := by
  obtain ⟨c, cells, at_, rest, hP, _⟩ := h.ex
  exact fun z => ne_of_none hP nl z.symm
theorem row_c {xs : List Addr} {ys : List Value} {x : List Unit} {j : Nat} {c : Addr} (h : xs[j]? = some c) : (xs.map Value.ref ++ ys)[j]? = some (.ref c) := by
  have hj := (List.getElem?_eq_some_iff.mp h).1
  rw [List.getElem?_append_left (by rw [List.length_map]; exact hj), List.getElem?_map, h]
  rfl
theorem row_b {xs ys : List Bool} {j : Nat} {b : Bool} (h : xs[j]? = some b) : (xs ++ ys)[j]? = some b := by
  have hj := (List.getElem?_eq_some_iff.mp h).1
  rw [List.getElem?_append_left hj, h]

/-! ### words and places -/
def BadW (K : PySem.W.Frag) (H : Hp) (v : V) : Prop := (∃ z, v = .str z ∧ z.length ≤ sizeLine ∧ ¬ (isW z = true ∧ z.length ≤ 200)) ∨ NoStr K H v
def BadP (K : PySem.W.Frag) (H : Hp) (v : V) : Prop := (∃ z, v = .str z ∧ z.length ≤ sizeLine ∧ ¬ (isW z = true ∧ isP z.cps.toList = true ∧ z.length ≤ 200)) ∨ NoStr K H v
theorem isW_S {u : List Nat} (h : IsL u) : isW (S u) = true := List.all_eq_true.mpr fun c hc => decide_eq_true (h c hc)
theorem of_isW {z : Str} (h : isW z = true) : IsL z.cps.toList := fun c hc => of_decide_eq_true (List.all_eq_true.mp h c hc)
def PlaceB (K : PySem.W.Frag) (H : Hp) (x : V) (b : Bool) : Prop := (∃ z, x = .str z ∧ z.length ≤ sizeLine ∧ b = (isW z && isP z.cps.toList)) ∨ (NoStr K H x ∧ b = false)
def spIsPlace (K : PySem.W.Frag) : Sp := Sp1 fun x H Q E => ∃ b, PlaceB K H x b ∧ ∀ H', Same H H' → Q (.bl b) H'
def spTurn : Sp := Sp1 fun x H Q E => ∃ u, x = .str (S u) ∧ IsL u ∧ u.length ≤ 1000000 ∧ Q (.str (S (mir u))) H
def spStep : Sp := Sp2 fun x y H Q E => ∃ u c, x = .str (S u) ∧ y = .str (S [c]) ∧ c ∈ letC ∧ u.length ≤ 1000000 ∧ Q (.str (S (stp u c))) H
def spFollow : Sp := Sp2 fun x y H Q E => ∃ u v, x = .str (S u) ∧ y = .str (S v) ∧ IsL v ∧ u.length + v.length ≤ 1000000 ∧ Q (.str (S (fol u v))) H
def spCheckPlace (K : PySem.W.Frag) (C : Addr) : Sp := Sp1 fun x H Q E => (∃ u, x = .str (S u) ∧ IsL u ∧ isP u = true ∧ u.length ≤ 200 ∧ ∀ H', Same H H' → Q .non H') ∨ (BadP K H x ∧ ∀ H', Same H H' → E (.ref C) none H')
def spBack (K : PySem.W.Frag) (C : Addr) : Sp := Sp1 fun x H Q E => (∃ u, x = .str (S u) ∧ IsL u ∧ u.length ≤ 200 ∧ Q (.str (S (mir u))) H) ∨ (BadW K H x ∧ E (.ref C) none H)
def spReduced (K : PySem.W.Frag) (C : Addr) : Sp := Sp1 fun x H Q E => (∃ u, x = .str (S u) ∧ IsL u ∧ u.length ≤ 200 ∧ Q (.str (S (fol [] u))) H) ∨ (BadW K H x ∧ E (.ref C) none H)
def spBehind (K : PySem.W.Frag) (C D : Addr) : Sp := Sp2 fun x y H Q E => (BadP K H x ∧ ∀ H', Same H H' → E (.ref D) none H') ∨
  (∃ u, x = .str (S u) ∧ IsL u ∧ isP u = true ∧ u.length ≤ 200 ∧ ((BadW K H y ∧ ∀ H', Same H H' → E (.ref C) none H') ∨ ∃ v, y = .str (S v) ∧ IsL v ∧ v.length ≤ 200 ∧ ∀ H', Same H H' → Q (.str (S (fol u v))) H'))
theorem TyX.move {K : PySem.W.Frag} {H H' : Hp} {v : V} {t : Value} (h : TyX K H v t) (s : ∀ a o, v = .ref a → (∀ ps, o ≠ .tbl ps) → H a = some o → H' a = some o) : TyX K H' v t := by
  cases h with
  | base h =>
    refine .base ?_
    cases h with
    | non => exact .non
    | bl x => exact .bl x
    | int i => exact .int i
    | str x => exact .str x
    | flt x => exact .flt x
    | lst e => exact .lst (s _ _ rfl (by intro ps z; cases z) e)
    | frz e => exact .frz (s _ _ rfl (by intro ps z; cases z) e)
    | tup e => exact .tup (s _ _ rfl (by intro ps z; cases z) e)
    | dK e => exact .dK (s _ _ rfl (by intro ps z; cases z) e)
    | dT e => exact .dT (s _ _ rfl (by intro ps z; cases z) e)
    | ins e a b c d g => exact .ins (s _ _ rfl (by intro ps z; cases z) e) a b c d g
  | byt b => exact .byt b
  | set e => exact .set (s _ _ rfl (by intro ps z; cases z) e)
  | kList e c => exact .kList e c
  | kTuple e c => exact .kTuple e c
  | kDict e c => exact .kDict e c
  | fTuple e => exact .fTuple (s _ _ rfl (by intro ps z; cases z) e)
  | fDict e => exact .fDict (s _ _ rfl (by intro ps z; cases z) e)
theorem NoStr.move {K : PySem.W.Frag} {H H' : Hp} {v : V} (h : NoStr K H v) (s : ∀ a o, v = .ref a → (∀ ps, o ≠ .tbl ps) → H a = some o → H' a = some o) : NoStr K H' v := by
  obtain ⟨t, h1, h2⟩ := h
  exact ⟨t, TyX.move h1 s, h2⟩
theorem BadW.same {K : PySem.W.Frag} {H H' : Hp} {v : V} (h : BadW K H v) (s : Same H H') : BadW K H' v := h.imp id fun n => n.move fun a o _ _ e => s a o e
/-! ### the law's own helpers -/
def spOther : Sp := Sp1 fun x H Q E => ∃ c, x = .str (S [c]) ∧ c ∈ letC ∧ Q (.str (S [oth c])) H
theorem other_at : ∀ c ∈ letC, ∃ i : Nat, Builtin.Str.occurrences ("aAbBcCdD" : Str) (S [c]) 0 ("aAbBcCdD" : Str).length 1 = [i] ∧ atI ("AaBbCcDd" : Str).cps.toList (i : Int) = some (oth c) := by
  intro c hc
  simp only [letC, List.mem_cons, List.not_mem_nil, or_false] at hc
  rcases hc with rfl | rfl | rfl | rfl | rfl | rfl | rfl | rfl
  · exact ⟨1, by decide +kernel, by decide +kernel⟩
  · exact ⟨3, by decide +kernel, by decide +kernel⟩
  · exact ⟨5, by decide +kernel, by decide +kernel⟩
  · exact ⟨7, by decide +kernel, by decide +kernel⟩
  · exact ⟨0, by decide +kernel, by decide +kernel⟩
  · exact ⟨2, by decide +kernel, by decide +kernel⟩
  · exact ⟨4, by decide +kernel, by decide +kernel⟩
  · exact ⟨6, by decide +kernel, by decide +kernel⟩
def spMirror : Sp := Sp1 fun x H Q E => ∃ u, x = .str (S u) ∧ IsL u ∧ u.length ≤ 100000 ∧ ∀ H', Same H H' → Q (.str (S (mir u))) H'
theorem joinL_nil : ∀ l : List Nat, TL.joinL [] (l.map fun c => [c]) = l
  | [] => rfl
  | [_] => rfl
  | a :: b :: r => by
    have ih := joinL_nil (b :: r)
    show [a] ++ ([] ++ TL.joinL [] ((b :: r).map fun c => [c])) = _
    rw [ih]
    rfl
theorem join_signs (l : List Nat) : Txt.join ("" : Str) (l.map fun c => S [c]) = S l := by
  have e := join_S [] (l.map fun c => [c])
  rw [joinL_nil, List.map_map] at e
  exact e
theorem last_is (u : List Nat) (c : Nat) : (S (u.drop (u.length - 1)) = S [c]) ↔ u.getLast? = some c := by
  cases hu : u with
  | nil => exact ⟨fun e => (by cases S_inj e), fun e => (by cases e)⟩
  | cons a r =>
    rw [← hu]
    have hl : 0 < u.length := by rw [hu]; exact Nat.succ_pos _
    have e : u.drop (u.length - 1) = [u[u.length - 1]] := by
      rw [List.drop_eq_getElem_cons (by omega), List.drop_of_length_le (by omega)]
    rw [e, List.getLast?_eq_getElem?, List.getElem?_eq_getElem (by omega)]
    exact ⟨fun z => by rw [(List.cons.inj (S_inj z)).1], fun z => by rw [Option.some.inj z]⟩
def signsL : List (List Nat) := [[97, 65], [97, 98, 65, 66], [97, 98, 65, 66], [97, 98], [97, 98, 99, 65, 66, 67], [99, 100, 67, 68], [97, 98, 99, 100, 65, 66, 67, 68], [97, 98, 99, 100, 65, 66, 67, 68]]
theorem signs_ok : ∀ u ∈ signsL, u ≠ [] ∧ u.length ≤ 8 ∧ ∀ c ∈ u, c ∈ letC := by decide
def rowsL : List (List Nat) := [[97], [66], [97, 98], [99, 68], [100, 67, 98], [97, 66, 99, 100, 66], [65, 98, 65, 99]]
theorem rows_ok : ∀ u ∈ rowsL, u ≠ [] ∧ u.length ≤ 5 ∧ (∀ c ∈ u, c ∈ letC) ∧ isP (u ++ u) = true := by decide
theorem signs_eq : ([.str "aA", .str "abAB", .str "abAB", .str "ab", .str "abcABC", .str "cdCD", .str "abcdABCD", .str "abcdABCD"] : List V) = signsL.map fun u => V.str (S u) := by kernel_rfl
theorem rows_eq : ([.str "a", .str "B", .str "ab", .str "cD", .str "dCb", .str "aBcdB", .str "AbAc"] : List V) = rowsL.map fun u => V.str (S u) := by kernel_rfl
def spSigns : Sp := Sp1 fun x H Q E => ∃ (p : Addr) (n : Nat), x = .ref p ∧ PenAt n H p ∧ n < 4000000000 ∧ ∀ u H', u ∈ signsL → SameP p H H' → PenAt (n + 1) H' p → Q (.str (S u)) H'
def spPath : Sp := Sp3 fun x y z H Q E => ∃ (p : Addr) (n most : Nat) (sg : List Nat), x = .ref p ∧ y = .int (most : Nat) ∧ z = .str (S sg) ∧ PenAt n H p ∧ n < 3000000000 ∧ most ≤ 1000 ∧ sg ≠ [] ∧ IsL sg ∧ sg.length ≤ 100 ∧
  ∀ u H', IsL u → u.length ≤ most → SameP p H H' → PenAt (n + 1 + 2 * most) H' p → Q (.str (S u)) H'
def spFar : Sp := Sp2 fun x y H Q E => ∃ (p : Addr) (n many : Nat), x = .ref p ∧ y = .int (many : Nat) ∧ PenAt n H p ∧ n < 4000000000 ∧ many ≤ 6000 ∧
  ∀ u H', IsL u → isP u = true → u.length = many → SameP p H H' → PenAt (n + 1) H' p → Q (.str (S u)) H'
def OddV (K : PySem.W.Frag) (p : Addr) (H : Hp) (v : V) : Prop := (∃ z, v = .str z ∧ isW z = false ∧ z.length ≤ 1000) ∨ (NoStr K H v ∧ ∀ a, v = .ref a → a ≠ p ∧ ∃ o, H a = some o ∧ ∀ ps, o ≠ .tbl ps)
def spOdd (K : PySem.W.Frag) : Sp := Sp2 fun x y H Q E => ∃ (p : Addr) (n : Nat) (u : List Nat), x = .ref p ∧ y = .str (S u) ∧ PenAt n H p ∧ n < 3000000000 ∧ IsL u ∧ u.length ≤ 300 ∧
  ∀ v H', OddV K p H' v → SameP p H H' → PenAt (n + 3) H' p → Q v H'
def errW : List Str := ["word", "place", "tread", "power", "great", "odd", "odd", "odd", "odd", "odd", "odd", "odd", "odd"]
theorem zip_at {α β : Type} {as : List α} {bs : List β} {a : α} {b : β} (h : (a, b) ∈ as.zip bs) : ∃ j : Nat, as[j]? = some a ∧ bs[j]? = some b := by
  obtain ⟨j, hj, e⟩ := List.getElem_of_mem h
  have e1 : (as.zip bs)[j]? = some (a, b) := by rw [List.getElem?_eq_getElem hj, e]
  exact ⟨j, (List.getElem?_zip_eq_some.mp e1).1, (List.getElem?_zip_eq_some.mp e1).2⟩
/-! ### rows of told and due -/
/-- all but l and the tables stays -/
def KeepL (l : Addr) (H H' : Hp) : Prop := ∀ b o, b ≠ l → (∀ ps, o ≠ .tbl ps) → H b = some o → H' b = some o
theorem KeepL.trans {l : Addr} {H H1 H2 : Hp} (a : KeepL l H H1) (b : KeepL l H1 H2) : KeepL l H H2 := fun c o h n e => b c o h n (a c o h n e)
theorem KeepL.ext {l : Addr} {H H1 : Hp} (e : ExtN H H1) : KeepL l H H1 := fun b o _ n h => e b o h n
theorem KeepL.same {l : Addr} {H H1 : Hp} (e : Same H H1) : KeepL l H H1 := fun b o _ _ h => e b o h
theorem KeepL.upd {l : Addr} {H : Hp} {o : HO} : KeepL l H (upd H l o) := fun b x n _ e => by rw [upd_ne n]; exact e
theorem BadW.keep {K : PySem.W.Frag} {l : Addr} {H H' : Hp} {v : V} (h : BadW K H v) (k : KeepL l H H') (n : v ≠ .ref l) : BadW K H' v := h.imp id fun q => q.move fun a o e1 e2 e3 => k a o (fun z => n (by rw [e1, z])) e2 e3
theorem BadW.ext {K : PySem.W.Frag} {H H' : Hp} {v : V} (h : BadW K H v) (e : ExtN H H') : BadW K H' v := h.imp id fun q => q.move fun a o _ e2 e3 => e a o e3 e2
theorem BadW.badP {K : PySem.W.Frag} {H : Hp} {v : V} (h : BadW K H v) : BadP K H v := h.imp (fun ⟨z, a, b, c⟩ => ⟨z, a, b, fun d => c ⟨d.1, d.2.2⟩⟩) id
def OddS (K : PySem.W.Frag) (H : Hp) (v : V) : Prop := (∃ z, v = .str z ∧ isW z = false ∧ z.length ≤ 1000) ∨ NoStr K H v
theorem OddS.bad {K : PySem.W.Frag} {H : Hp} {v : V} (h : OddS K H v) : BadW K H v := h.imp (fun ⟨z, a, b, c⟩ => ⟨z, a, Nat.le_trans c (by decide), fun d => by rw [b] at d; cases d.1⟩) id
theorem OddS.keep {K : PySem.W.Frag} {l : Addr} {H H' : Hp} {v : V} (h : OddS K H v) (k : KeepL l H H') (n : v ≠ .ref l) : OddS K H' v := h.imp id fun q => q.move fun a o e1 e2 e3 => k a o (fun z => n (by rw [e1, z])) e2 e3
theorem OddS.same {K : PySem.W.Frag} {H H' : Hp} {v : V} (h : OddS K H v) (s : Same H H') : OddS K H' v := h.imp id fun n => n.move fun a o _ _ e => s a o e
theorem OddS.word {K : PySem.W.Frag} {H : Hp} {v : V} (h : OddS K H v) : WordB K H v false := h.imp (fun ⟨z, a, b, _⟩ => ⟨z, a, b.symm⟩) fun n => ⟨n, rfl⟩
theorem OddS.place {K : PySem.W.Frag} {H : Hp} {v : V} (h : OddS K H v) : PlaceB K H v false := h.imp (fun ⟨z, a, b, c⟩ => ⟨z, a, Nat.le_trans c (by decide), by rw [b]; rfl⟩) fun n => ⟨n, rfl⟩
structure Pack (K : PySem.W.Frag) (T : List (Addr × Str)) (p l : Addr) (n m : Nat) (v : V) (H : Hp) : Prop where
  tb : Tabs T H
  pn : ∃ (c : Addr) (cells : List Int) (at_ rest : Int), H p = some (.lst [.ref c, .int at_, .int rest]) ∧ H c = some (.lst (cells.map V.int)) ∧ c ≠ p ∧ 0 ≤ at_ ∧ at_ ≤ n ∧ 0 ≤ rest ∧ c ≠ l ∧ p ≠ l
  od : OddS K H v
  nv : v ≠ .ref l
  rw : ∃ ts : List Addr, H l = some (.lst (ts.map V.ref)) ∧ ts.length = m ∧ ∀ t ∈ ts, ∃ z : Str, H t = some (.tup [.str z, .str z])
theorem Pack.bad {K : PySem.W.Frag} {T : List (Addr × Str)} {p l : Addr} {n m : Nat} {v : V} {H : Hp} (k : Pack K T p l n m v H) : BadW K H v := k.od.bad
theorem Pack.pen {K : PySem.W.Frag} {T : List (Addr × Str)} {p l : Addr} {n m : Nat} {v : V} {H : Hp} (k : Pack K T p l n m v H) : PenAt n H p := by
  obtain ⟨c, cells, a, r, h1, h2, h3, h4, h5, h6, _⟩ := k.pn
  exact ⟨c, cells, a, r, h1, h2, h3, h4, h5, h6⟩
theorem Pack.lst {K : PySem.W.Frag} {T : List (Addr × Str)} {p l : Addr} {n m : Nat} {v : V} {H : Hp} (k : Pack K T p l n m v H) : ∃ xs, SqL K H l xs := by
  obtain ⟨ts, h, _⟩ := k.rw
  exact ⟨_, .inl (.inl h)⟩
theorem Pack.step {K : PySem.W.Frag} {T : List (Addr × Str)} {p l : Addr} {n m : Nat} {v : V} {H H1 H2 : Hp} {t : Addr} {z : Str} (k : Pack K T p l n m v H) (hm : m < 1000) (e : ExtN H H1) (t1 : Tabs T H1) (s : Same H1 H2) (nt : H2 t = none) :
    ∃ xs, (upd H2 t (.tup [.str z, .str z])) l = some (.lst xs) ∧ xs.length < sizeLine ∧ Pack K T p l n (m + 1) v (upd (upd H2 t (.tup [.str z, .str z])) l (.lst (xs ++ [.ref t]))) := by
  have hz := sizeLine_eq
  obtain ⟨ts, h1, h2, h3⟩ := k.rw
  have k3 : KeepL l H (upd H2 t (.tup [.str z, .str z])) := ((KeepL.ext e).trans (.same s)).trans (.same (same_upd nt))
  have hl : (upd H2 t (.tup [.str z, .str z])) l = some (.lst (ts.map V.ref)) := same_upd nt _ _ (s _ _ (e _ _ h1 (by intro ps z; cases z)))
  have k4 := k3.trans (KeepL.upd (o := .lst (ts.map V.ref ++ [.ref t])))
  refine ⟨_, hl, by rw [List.length_map]; omega, ?_, ?_, k.od.keep k4 k.nv, k.nv, ts ++ [t], ?_, by rw [List.length_append, h2]; rfl, fun t' ht' => ?_⟩
  · exact ((t1.same s).same (same_upd nt)).sameP sameP_upd hl
  · obtain ⟨c, cells, a, r, g1, g2, g3, g4, g5, g6, g7, g8⟩ := k.pn
    exact ⟨c, cells, a, r, k4 _ _ g8 (by intro ps z; cases z) g1, k4 _ _ g7 (by intro ps z; cases z) g2, g3, g4, g5, g6, g7, g8⟩
  · rw [upd_same, List.map_append]
    rfl
  · have htl : t ≠ l := fun q => by
      rw [q, upd_same] at hl
      cases hl
    rcases List.mem_append.mp ht' with q | q
    · obtain ⟨z', hz'⟩ := h3 t' q
      exact ⟨z', k4 _ _ (ne_of hz' h1 (by intro z; cases z)) (by intro ps z; cases z) hz'⟩
    · rw [List.mem_singleton.mp q]
      exact ⟨z, by rw [upd_ne htl, upd_same]⟩
theorem rowL {K : PySem.W.Frag} {T : List (Addr × Str)} {p l : Addr} {n m : Nat} {v : V} {H : Hp} {te : TE} {z : Str} {rest : TS} {D : Ends} {σ : L2.St} (k : Pack K T p l n m v H) (hm : m < 900) (hl : σ[11]? = some (some (.ref l)))
    (hte : ∀ Q : VK, (∀ H1 H2, ExtN H H1 → Tabs T H1 → Same H1 H2 → Q (.str z) H2) → te σ H Q) (q : ∀ H', Pack K T p l n (m + 1) v H' → rest D σ H') :
    tSeq (tDrop (tBM K "list" rAppend (tV 11) (tCons (tTup (tCons te (tCons (tC (.str z)) tNil))) tNil))) rest D σ H := by
  unfold tSeq tDrop tBM tV
  rw [hl]
  refine ⟨.inl ⟨rfl, k.lst⟩, hte _ fun H1 H2 e1 t1 s => ⟨(by show 2 ≤ sizeLine; decide), fun t nt => ?_⟩⟩
  obtain ⟨xs, h1, h2, k'⟩ := k.step (z := z) (by omega) e1 t1 s nt
  exact ⟨l, xs, .ref t, rfl, rfl, h1, h2, q _ k'⟩
theorem Pack.base {K : PySem.W.Frag} {T : List (Addr × Str)} {p l t : Addr} {n : Nat} {v : V} {H G1 G2 : Hp} {z : Str} (hp : PenAt n H p) (od : OddS K H v) (hv : ∀ a, v = .ref a → ∃ o, H a = some o ∧ ∀ ps, o ≠ .tbl ps) (e : ExtN H G1) (t1 : Tabs T G1) (s : Same G1 G2)
    (nt : G2 t = none) (nl : (upd G2 t (.tup [.str z, .str z])) l = none) : Pack K T p l n 1 v (upd (upd G2 t (.tup [.str z, .str z])) l (.lst [.ref t])) := by
  have k1 : ∀ b o, (∀ ps, o ≠ .tbl ps) → H b = some o → (upd G2 t (.tup [.str z, .str z])) b = some o := fun b o n h => same_upd nt _ _ (s _ _ (e b o h n))
  have kl : KeepL l H (upd (upd G2 t (.tup [.str z, .str z])) l (.lst [.ref t])) := fun b o n1 n2 h => by rw [upd_ne n1]; exact k1 b o n2 h
  have nel : ∀ b o, (∀ ps, o ≠ .tbl ps) → H b = some o → b ≠ l := fun b o n h => ne_of_none (k1 b o n h) nl
  have nv : v ≠ .ref l := fun q => by
    obtain ⟨o, h1, h2⟩ := hv l q
    exact nel l o h2 h1 rfl
  refine ⟨((t1.same s).same (same_upd nt)).same (same_upd nl), ?_, od.keep kl nv, nv, [t], by rw [upd_same]; rfl, rfl, fun t' ht => ?_⟩
  · obtain ⟨c, cells, a, r, h1, h2, h3, h4, h5, h6⟩ := hp.ex
    have n1 := nel _ _ (by intro ps z; cases z) h1
    have n2 := nel _ _ (by intro ps z; cases z) h2
    exact ⟨c, cells, a, r, kl _ _ n1 (by intro ps z; cases z) h1, kl _ _ n2 (by intro ps z; cases z) h2, h3, h4, h5, h6, n2, n1⟩
  · rw [List.mem_singleton.mp ht]
    exact ⟨z, by rw [upd_ne (none_of_upd nl).2.symm, upd_same]⟩
def QL : Str := (envOfC "_law_z_refused_right" (defScope s__law_z_refused_right) 0 0 .none).qual ++ "<lambda>"
def spRef (Pt : Addr) : Sp := Sp3 fun x y z H Q E => ∃ (p : Addr) (n : Nat) (u pl : List Nat), x = .ref p ∧ y = .str (S u) ∧ z = .str (S pl) ∧ PenAt n H p ∧ n < 2000000000 ∧ IsL u ∧ u.length ≤ 14 ∧ IsL pl ∧ isP pl = true ∧ pl.length ≤ 14 ∧ Tabs [(Pt, QL)] H ∧
  ∀ H', PenAt (n + 7) H' p → Tabs [(Pt, QL)] H' → Q (.bl true) H'
theorem showF : (PyData.list (([false, false, false] : List Bool).map PyData.bool)).shown = ("[False, False, False]" : Str) := by decide +kernel
theorem showT : (PyData.list (([true, true, true, true] : List Bool).map PyData.bool)).shown = ("[True, True, True, True]" : Str) := by decide +kernel
theorem refTail {K : PySem.W.Frag} {T : List (Addr × Str)} {p l : Addr} {n m : Nat} {v0 : V} {R : Hp} {Q : VK} {y0 y1 y2 y4 y7 y8 y10 : Option V} {L F D : List Nat} (k : Pack K T p l n m v0 R) (hm : m < 900)
    (LL : IsL L) (Ll : L.length ≤ 1000) (F1 : IsL F) (F2 : isP F = true) (F3 : F.length ≤ 1000) (D1 : IsL D) (D2 : isP D = false) (D3 : D.length ≤ 100) (q : ∀ H', PenAt n H' p → Tabs T H' → Q (.bl true) H') :
    tSeq (tDrop (tBM K "list" rAppend (tV 11) (tCons (tTup (tCons (tCB (rRepr K) (tCons (tLst (tCons (tCall (spIsWord K) [] E0 (tCons (tV 3) tNil)) (tCons (tCall (spIsPlace K) [] E0 (tCons (tV 3) tNil)) (tCons (tCall (spIsPlace K) [] E0 (tCons (tV 9) tNil)) tNil)))) tNil)) (tCons (tC (V.str "[False, False, False]")) tNil))) tNil)))
      (tSeq (tDrop (tBM K "list" rAppend (tV 11) (tCons (tTup (tCons (tCB (rRepr K) (tCons (tLst (tCons (tCall (spIsWord K) [] E0 (tCons (tV 5) tNil)) (tCons (tCall (spIsWord K) [] E0 (tCons (tV 6) tNil)) (tCons (tCall (spIsPlace K) [] E0 (tCons (tV 6) tNil)) (tCons (tCall (spIsWord K) [] E0 (tCons (tV 9) tNil)) tNil))))) tNil)) (tCons (tC (V.str "[True, True, True, True]")) tNil))) tNil)))
        (tRet (tOp (mEq K) (tLc (iAny K (tV 11)) (gName 12) (mT (tOp (mNe K) (tOp (mIx K) (tV 12) (tC (V.int 0))) (tOp (mIx K) (tV 12) (tC (V.int 1))))) (tV 12) (List.map (fun x => x.snd) [(("row" : Str), 12)])) (tLst tNil))))
      { nx := fun x H' => Q V.non H', rt := Q } [y0, y1, y2, some v0, y4, some (.str (S L)), some (.str (S F)), y7, y8, some (.str (S D)), y10, some (.ref l), none] R := by
  have hz := sizeLine_eq
  have wD : (isW (S D) && isP (S D).cps.toList) = false := by rw [show isP (S D).cps.toList = isP D from rfl, D2, Bool.and_false]
  have wF : (isW (S F) && isP (S F).cps.toList) = true := by rw [show isP (S F).cps.toList = isP F from rfl, F2, isW_S F1]; rfl
  refine ⟨.inl ⟨rfl, k.lst⟩, false, k.od.word, false, k.od.place, fun R1 e1 => ⟨false, .inl ⟨S D, rfl, by rw [S_len]; omega, wD.symm⟩, fun R2 e2 => ?_⟩⟩
  refine ⟨(by show 3 ≤ sizeLine; decide), fun a3 na3 => ⟨PyData.list (([false, false, false] : List Bool).map PyData.bool), .lst (.inl (.inl upd_same)) (dp_bls [false, false, false]), ⟨rfl, by decide, by rw [showF]; decide⟩, ?_⟩⟩
  rw [showF]
  refine ⟨(by show 2 ≤ sizeLine; decide), fun t nt => ?_⟩
  obtain ⟨xs, h1, h2, k2⟩ := k.step (z := "[False, False, False]") (by omega) (ExtN.refl R) k.tb ((e1.trans e2).trans (same_upd na3)) nt
  refine ⟨l, xs, .ref t, rfl, rfl, h1, h2, ?_⟩
  generalize upd (upd (upd R2 a3 _) t _) l _ = R3 at k2 ⊢
  clear h1 h2
  refine ⟨.inl ⟨rfl, k2.lst⟩, true, .inl ⟨S L, rfl, (isW_S LL).symm⟩, true, .inl ⟨S F, rfl, (isW_S F1).symm⟩, true, .inl ⟨S F, rfl, by rw [S_len]; omega, wF.symm⟩, fun R4 e4 => ⟨true, .inl ⟨S D, rfl, (isW_S D1).symm⟩, ?_⟩⟩
  refine ⟨(by show 4 ≤ sizeLine; decide), fun a4 na4 => ⟨PyData.list (([true, true, true, true] : List Bool).map PyData.bool), .lst (.inl (.inl upd_same)) (dp_bls [true, true, true, true]), ⟨rfl, by decide, by rw [showT]; decide⟩, ?_⟩⟩
  rw [showT]
  refine ⟨(by show 2 ≤ sizeLine; decide), fun t2 nt2 => ?_⟩
  obtain ⟨xs2, h1, h2, k3⟩ := k2.step (z := "[True, True, True, True]") (by omega) (ExtN.refl R3) k2.tb (e4.trans (same_upd na4)) nt2
  refine ⟨l, xs2, .ref t2, rfl, rfl, h1, h2, ?_⟩
  generalize upd (upd (upd R4 a4 _) t2 _) l _ = R5 at k3 ⊢
  clear h1 h2
  obtain ⟨ts, hl, hln, hts⟩ := k3.rw
  refine .inl ⟨_, .inl (.inl hl), fun Dd nD => lc_it walk_list (fun j H' => H' = upd R5 Dd (.lst [])) rfl (fun i H _ e => by rw [e]; exact .inl (.inl (same_upd nD _ _ hl))) ?_ ?_⟩
  · rintro j x H1 H2 hj rfl ⟨rfl, hx⟩
    rw [List.getElem?_map] at hx
    obtain ⟨t', ht', rfl⟩ : ∃ t', ts[j]? = some t' ∧ V.ref t' = x := by
      cases e : ts[j]? with
      | none => rw [e] at hx; cases hx
      | some t' => rw [e] at hx; exact ⟨t', rfl, Option.some.inj hx⟩
    obtain ⟨z, hz'⟩ := hts t' (List.mem_of_getElem? ht')
    have hz2 := same_upd nD (o := .lst []) _ _ hz'
    refine ⟨rfl, _, _, .inr (.inl (.inl hz2)), rfl, _, _, .inr (.inl (.inl hz2)), rfl, ?_⟩
    show (if (!decide (z = z)) = true then _ else _)
    rw [if_neg (by simp)]
  · rintro H1 rfl
    refine ⟨(by show 0 ≤ sizeLine; decide), fun l9 n9 => ⟨true, eqb_bls (bs := []) (cs := []) (.inl (.inl ?_)) (.inl (.inl upd_same)) rfl, ?_⟩⟩
    · exact same_upd n9 _ _ upd_same
    · exact q _ ((same_upd n9).pen ((same_upd nD).pen k3.pen)) ((k3.tb.same (same_upd nD)).same (same_upd n9))
def spLaw (K : PySem.W.Frag) (Pt : Addr) : Sp := Sp1 fun x H Q E => ∃ (a : Addr) (ns : List Int), x = .ref a ∧ SqL K H a (ns.map V.int) ∧ ns.length ≤ 63 ∧ Tabs [(Pt, QL)] H ∧ ∀ H', Q (.bl true) H'
theorem place_of_word {tx : List Nat} (h : IsL tx) : isP tx = decide (S (fol [] tx) = S tx) := by
  cases hp : isP tx with
  | true => rw [fol_nil h hp, decide_eq_true rfl]
  | false =>
    refine (decide_eq_false fun e => ?_).symm
    have e1 := S_inj e
    have := isP_fol (p := []) (w := tx) .nil h rfl
    rw [e1, hp] at this
    cases this
theorem shows3 (b : Bool) : Shows (PyData.list (([true, b, true] : List Bool).map PyData.bool)) := by cases b <;> exact ⟨rfl, by decide, by decide +kernel⟩
theorem shows_e : Shows (PyData.list [.str (S []), .bool true, .bool true]) := ⟨rfl, by decide, by decide +kernel⟩
theorem back_home {F : List Nat} (h : IsL F) (k : isP F = true) : fol F (mir F) = [] := by
  have := fol_mir (p := []) (w := F) .nil rfl h
  rw [fol_nil h k] at this
  exact this
theorem pair_bad (c : Nat) (X Y : List Nat) : isP (X ++ ([c, oth c] ++ Y)) = false := Bool.eq_false_iff.mpr fun z => by
  have z2 := isP_left (isP_right z)
  have z3 : (decide (oth c ≠ oth c) && isP [oth c]) = true := z2
  rw [decide_eq_false (fun h => h rfl)] at z3
  cases z3
theorem nest_bad {X : List Nat} (h : X ≠ []) : isP (X ++ mir X) = false := by
  obtain ⟨Y, c, rfl⟩ : ∃ Y c, X = Y ++ [c] := ⟨_, _, (List.dropLast_concat_getLast h).symm⟩
  rw [mir_app, List.append_assoc]
  exact pair_bad c Y (mir Y)
theorem show4 : (PyData.list (([true, true, true, false] : List Bool).map PyData.bool)).shown = ("[True, True, True, False]" : Str) := by decide +kernel
theorem isW_bad {X Y : List Nat} {c : Nat} (h : c ∉ letC) : isW (S (X ++ [c] ++ Y)) = false := Bool.eq_false_iff.mpr fun z => h (of_isW z c (by simp))
section
variable {P : Program} {w : World} {K : PySem.W.Frag} {mg : Str → Option Value} {base : Heap} {C_TreadError C_NoWord C_NoPlace C_NoTread C_NoPower C_NoNumber C_NoMakers C_NoWalk C_NoAnswers C_NoWishes C_NoUndo C_NoThings C_NoMatch C_TooGreat : Addr}
theorem ok__law_spread {f : Addr} {fd : FuncData} (T : Txt K mg C_TreadError C_NoWord C_NoPlace C_NoTread C_NoPower C_NoNumber C_NoMakers C_NoWalk C_NoAnswers C_NoWishes C_NoUndo C_NoThings C_NoMatch C_TooGreat) (F : Fun K "_law_spread" "_law_spread" s__law_spread f fd) (hm : mg "_law_spread" = some (.ref f)) (hb : Binds K fd ["cell", "at"] []) : Dfn P w K mg base CX0 1 "_law_spread" ["cell", "at"] (spSpread) := by
  refine Dfn.mk0 F hm hb sc__law_spread (fun vs H Q E h => Sp2.len h) (fun cdv A outer s H vs Q E hr hsp => ?_)
  obtain ⟨a0, a1, rfl, h⟩ := Sp2.of hsp
  clear hsp
  have hu := hr.units
  obtain ⟨c, a, rfl, rfl, h0, h1, q⟩ := h
  refine ⟨_, (pss_cons (ps_if (tCm oGe (pV 0) (pe_op oPow pe_int pe_int) (nomark _)) (pss_one (ps_ret (pV 0))) pss_nil)
      (pss_cons (ps_set (i := 2) sc__law_spread.nd rfl (by first | exact .inl rfl | exact .inr rfl) (pe_lst (pa_cons pe_int (pa_cons pe_int (pa_cons pe_int (pa_cons pe_int (pa_cons pe_int (pa_cons pe_int (pa_cons pe_int (pa_cons pe_int pa_nil))))))))))
      (pss_cons (ps_set (i := 2) sc__law_spread.nd rfl (by first | exact .inl rfl | exact .inr rfl) (pe_op oAdd (pV 2) (pe_lst (pa_cons pe_int (pa_cons pe_int (pa_cons pe_int (pa_cons pe_int (pa_cons pe_int pa_nil))))))))
      (pss_cons (ps_set (i := 3) sc__law_spread.nd rfl (by first | exact .inl rfl | exact .inr rfl) (pe_op oMul (pe_op oMod (pe_callTy cInt (by rfl) T.b_int (by decide +kernel) (pa_cons (pV 0) pa_nil)) pe_int) (pe_op oAdd (pe_op oMul pe_int (pV 1)) pe_int)))
      (pss_cons (ps_set (i := 3) sc__law_spread.nd rfl (by first | exact .inl rfl | exact .inr rfl) (pe_op oMod (pe_callTy cInt (by rfl) T.b_int (by decide +kernel) (pa_cons (pe_op oPow (pe_op oAdd (pe_op oAdd (pV 3) (pe_op oMul (pV 1) pe_int)) pe_int) pe_int) pa_nil)) (pe_ix (xIx (K := K)) (pV 2) (pe_op oMod (pe_callTy cInt (by rfl) T.b_int (by decide +kernel) (pa_cons (pV 1) pa_nil)) pe_int) (fun _ _ => rfl))))
      (pss_cons (ps_set (i := 4) sc__law_spread.nd rfl (by first | exact .inl rfl | exact .inr rfl) (pe_op oMod (pe_callTy cInt (by rfl) T.b_int (by decide +kernel) (pa_cons (pe_op oPow (pe_op oAdd (pe_op oAdd (pe_op oMul (pV 3) (pe_op oAdd (pV 1) pe_int)) (pe_op oMod (pe_callTy cInt (by rfl) T.b_int (by decide +kernel) (pa_cons (pV 0) pa_nil)) pe_int)) pe_int) pe_int) pa_nil)) (pe_ix (xIx (K := K)) (pV 2) (pe_op oMod (pe_callTy cInt (by rfl) T.b_int (by decide +kernel) (pa_cons (pe_op oAdd (pV 1) pe_int) pa_nil)) pe_int) (fun _ _ => rfl))))
      (pss_cons (ps_set (i := 5) sc__law_spread.nd rfl (by first | exact .inl rfl | exact .inr rfl) (pe_op oMod (pe_callTy cInt (by rfl) T.b_int (by decide +kernel) (pa_cons (pe_op oPow (pe_op oAdd (pe_op oAdd (pV 4) (pe_op oMod (pe_callTy cInt (by rfl) T.b_int (by decide +kernel) (pa_cons (pV 3) pa_nil)) pe_int)) (pV 1)) pe_int) pa_nil)) (pe_ix (xIx (K := K)) (pV 2) (pe_op oMod (pe_callTy cInt (by rfl) T.b_int (by decide +kernel) (pa_cons (pe_op oAdd (pV 1) pe_int) pa_nil)) pe_int) (fun _ _ => rfl))))
      (pss_one (ps_ret (pe_op oAdd (pe_op oMul (pe_op oAdd (pe_op oMul (pV 3) pe_int) (pV 4)) pe_int) (pV 5))))))))))), ?_⟩
  refine ⟨⟨by decide, by decide, by decide⟩, ?_⟩
  refine ite2 (fun e => q c H ?_ (Same.refl H)) (fun _ => ?_)
  · have e1 : (10 : Int) ^ (18 : Int).toNat ≤ c := of_decide_eq_true e
    have e2 : (0 : Int) ≤ 10 ^ (18 : Int).toNat := by decide
    omega
  refine ⟨(by show 8 ≤ sizeLine; decide), fun p1 n1 => ?_⟩
  refine ⟨(by show 5 ≤ sizeLine; decide), fun p2 n2 => ?_⟩
  have ne12 : p1 ≠ p2 := fun e => by rw [e, upd_same] at n2; cases n2
  refine ⟨_, _, (upd_ne ne12).trans upd_same, upd_same, (by show 13 ≤ sizeLine; decide), fun p3 n3 => ?_⟩
  generalize hH : upd (upd (upd H p1 _) p2 _) p3 _ = H3
  have sm : Same H H3 := by rw [← hH]; exact ((same_upd n1).trans (same_upd n2)).trans (same_upd n3)
  have hL : SqL K H3 p3 (primesI.map V.int) := by rw [← hH]; exact .inl (.inl upd_same)
  -- one
  refine ⟨by decide, .inl ⟨by decide, by decide⟩, ⟨.inl ⟨by omega, by omega⟩, ?_⟩⟩
  have hc1 := Int.emod_nonneg c (b := 1000000007) (by decide)
  have hc2 := Int.emod_lt_of_pos c (b := 1000000007) (by decide)
  have m1 := mul_lt hc1 (A := 1000000007) (by omega) (y := 2 * a + 69069) (B := 8000069069) (by omega) (by omega)
  generalize c % 1000000007 * (2 * a + 69069) = u1 at m1 ⊢
  refine ⟨.inl ⟨by omega, by omega⟩, ⟨by decide, by decide, by omega⟩, by decide, ?_⟩
  obtain ⟨pr1, g1, b1, b2⟩ := primes_at (a % 13) (Int.emod_nonneg a (by decide)) (Int.emod_lt_of_pos a (by decide))
  refine ⟨_, _, .inl hL, g1, by omega, ?_⟩
  generalize (u1 + a * 40503 + 977) ^ (3 : Int).toNat = w1
  have d1 := Int.emod_nonneg w1 (b := pr1) (by omega)
  have d2 := Int.emod_lt_of_pos w1 (b := pr1) (by omega)
  generalize w1 % pr1 = one at d1 d2 ⊢
  -- two
  have m2 := mul_lt d1 (A := 2147483629) (by omega) (y := a + 3) (B := 4000000003) (by omega) (by omega)
  refine ⟨.inl ⟨by omega, by omega⟩, by decide, ⟨by decide, by decide, ?_⟩, by decide, ?_⟩
  · have hc3 := Int.emod_nonneg c (b := 65537) (by decide)
    have hc4 := Int.emod_lt_of_pos c (b := 65537) (by decide)
    generalize one * (a + 3) = u2 at m2 ⊢
    omega
  obtain ⟨pr2, g2, b3, b4⟩ := primes_at ((a + 5) % 13) (Int.emod_nonneg _ (by decide)) (Int.emod_lt_of_pos _ (by decide))
  refine ⟨_, _, .inl hL, g2, by omega, ?_⟩
  generalize (one * (a + 3) + c % 65537 + 5) ^ (5 : Int).toNat = w2
  have d3 := Int.emod_nonneg w2 (b := pr2) (by omega)
  have d4 := Int.emod_lt_of_pos w2 (b := pr2) (by omega)
  generalize w2 % pr2 = two at d3 d4 ⊢
  -- three
  have hc5 := Int.emod_nonneg one (b := 1009) (by decide)
  have hc6 := Int.emod_lt_of_pos one (b := 1009) (by decide)
  refine ⟨by decide, ⟨by decide, by decide, by omega⟩, by decide, ?_⟩
  obtain ⟨pr3, g3, b5, b6⟩ := primes_at ((a + 7) % 13) (Int.emod_nonneg _ (by decide)) (Int.emod_lt_of_pos _ (by decide))
  refine ⟨_, _, .inl hL, g3, by omega, ?_⟩
  generalize (two + one % 1009 + a) ^ (3 : Int).toNat = w3
  have d5 := Int.emod_nonneg w3 (b := pr3) (by omega)
  have d6 := Int.emod_lt_of_pos w3 (b := pr3) (by omega)
  generalize w3 % pr3 = three at d5 d6 ⊢
  refine ⟨.inl ⟨by omega, by omega⟩, .inr ⟨by decide, by decide⟩, ?_⟩
  refine q _ H3 ?_ sm
  omega

theorem ok__law_open {f : Addr} {fd : FuncData} (T : Txt K mg C_TreadError C_NoWord C_NoPlace C_NoTread C_NoPower C_NoNumber C_NoMakers C_NoWalk C_NoAnswers C_NoWishes C_NoUndo C_NoThings C_NoMatch C_TooGreat) (F : Fun K "_law_open" "_law_open" s__law_open f fd) (hm : mg "_law_open" = some (.ref f)) (hb : Binds K fd ["script"] []) : Dfn P w K mg base CX0 1 "_law_open" ["script"] (spOpen K) := by
  refine Dfn.mk0 F hm hb sc__law_open (fun vs H Q E h => Sp1.len h) (fun cdv A outer s H vs Q E hr hsp => ?_)
  obtain ⟨a0, rfl, h⟩ := Sp1.of hsp
  clear hsp
  have hu := hr.units
  obtain ⟨a, ns, rfl, hS, hlen, q⟩ := h
  refine ⟨_, (pss_cons (ps_set (i := 1) sc__law_open.nd rfl (by first | exact .inl rfl | exact .inr rfl) (pe_callTy (cListOf (K := K)) (by rfl) T.b_list (by decide +kernel) (pa_cons (pe_slice (sSl (K := K)) (pV 0) po_none (oPart pe_int)) pa_nil)))
      (pss_cons (ps_for PassesOwn.never rfl (pi_enum (by rfl) T.b_enumerate (pa_cons (pe_slice (sSl (K := K)) (pV 0) (oPart pe_int) (oPart pe_int)) pa_nil)) (pg_tup rfl (pgs_cons (pg_name (i := 2) sc__law_open.nd rfl (by first | exact .inl rfl | exact .inr rfl)) (pgs_cons (pg_name (i := 3) sc__law_open.nd rfl (by first | exact .inl rfl | exact .inr rfl)) pgs_nil))) (pss_one (ps_asg (pe_op oAdd (pe_ix (xIx (K := K)) (pV 1) (pe_op oMod (pe_callTy cInt (by rfl) T.b_int (by decide +kernel) (pa_cons (pV 2) pa_nil)) pe_int) (fun _ _ => rfl)) (pV 3)) (pg_sub (pV 1) (pe_op oMod (pe_callTy cInt (by rfl) T.b_int (by decide +kernel) (pa_cons (pV 2) pa_nil)) pe_int) set_list))))
      (pss_one (ps_ret (pe_lst (pa_cons (pV 1) (pa_cons pe_int (pa_cons pe_int pa_nil)))))))), ?_⟩
  -- cells = list(script[:12])
  refine ⟨ns.map V.int, hS, fun p1 n1 => ?_⟩
  refine ⟨_, .inl (.inl (.inl upd_same)), fun l n2 => ?_⟩
  generalize hH : upd (upd H p1 _) l _ = H2
  have sm2 : Same H H2 := by rw [← hH]; exact (same_upd n1).trans (same_upd n2)
  have hl0 : H2 l = some (.lst ((ns.take 12).map V.int)) := by
    rw [← hH, upd_same]
    have e : cutV (ns.map V.int) none (some 12) = (ns.take 12).map V.int := by
      unfold cutV
      rw [HT.sIx_none, show HT.sIx (ns.map V.int).length (ns.map V.int).length (some 12) = min 12 (ns.map V.int).length from HT.sIx_nat _ _ 12, List.drop_zero, Nat.sub_zero, ← List.map_take]
      rw [List.length_map]
      congr 1
      by_cases c : 12 ≤ ns.length
      · rw [Nat.min_eq_left c]
      · rw [Nat.min_eq_right (by omega), List.take_length, List.take_of_length_le (by omega)]
    rw [e]
  have nl : H l = none := by
    cases e : H l with
    | none => rfl
    | some o => rw [same_upd n1 l o e] at n2; cases n2
  -- the slice
  refine ⟨ns.map V.int, sm2.seq hS, fun e n3 => ?_⟩
  have hes : cutV (ns.map V.int) (some 12) (some 63) = ((ns.drop 12).take 51).map V.int := by
    unfold cutV
    rw [show HT.sIx (ns.map V.int).length 0 (some 12) = min 12 (ns.map V.int).length from HT.sIx_nat _ _ 12, show HT.sIx (ns.map V.int).length (ns.map V.int).length (some 63) = min 63 (ns.map V.int).length from HT.sIx_nat _ _ 63, List.length_map]
    rw [← List.map_drop, ← List.map_take, Nat.min_eq_right (by omega : ns.length ≤ 63)]
    congr 1
    by_cases c : 12 ≤ ns.length
    · rw [Nat.min_eq_left c, List.take_of_length_le (by rw [List.length_drop]; omega), List.take_of_length_le (by rw [List.length_drop]; omega)]
    · rw [Nat.min_eq_right (by omega), List.drop_length, List.drop_of_length_le (by omega), List.take_nil, List.take_nil]
  have nle : l ≠ e := ne_of_none hl0 n3
  refine ⟨e, _, rfl, .inl (.inl upd_same), for_it walk_enum (fun i σ H' => ∃ y2 y3, σ = [some (.ref a), some (.ref l), y2, y3] ∧ Same H H' ∧ (∃ cs : List Int, H' l = some (.lst (cs.map V.int)) ∧ cs.length = min 12 ns.length) ∧ SqL K H' e (cutV (ns.map V.int) (some 12) (some 63))) ⟨none, none, rfl, sm2.trans (same_upd n3), ⟨_, (upd_ne nle).trans hl0, by rw [List.length_take]⟩, .inl (.inl upd_same)⟩ (fun i σ H' _ ⟨_, _, _, _, _, x⟩ => x) ?_ ?_⟩
  · rintro i v σ H4 H5 hi ⟨y2, y3, rfl, s4, ⟨cs, hl, hcl⟩, hE⟩ ⟨T, x, y, rfl, nT, rfl, hx, hy⟩
    cases hx
    rw [hes, List.length_map, List.length_take, List.length_drop] at hi
    rw [hes] at hy
    dsimp only at hy
    obtain ⟨z, rfl⟩ : ∃ z, y = V.int z := by
      rw [List.getElem?_map] at hy
      cases e : ((ns.drop 12).take 51)[i]? with
      | none => rw [e] at hy; cases hy
      | some z => rw [e] at hy; exact ⟨z, (Option.some.inj hy).symm⟩
    have nlT : l ≠ T := ne_of_none hl nT
    refine ⟨T, _, rfl, .inl (.inl upd_same), rfl, _, _, rfl, _, _, rfl, rfl, ?_⟩
    have hk0 : (0 : Int) ≤ (i : Int) % 12 := Int.emod_nonneg _ (by decide)
    have hk1 : (i : Int) % 12 < 12 := Int.emod_lt_of_pos _ (by decide)
    obtain ⟨j, hj⟩ : ∃ j : Nat, (i : Int) % 12 = (j : Int) := ⟨((i : Int) % 12).toNat, by omega⟩
    have hjl : j < cs.length := by omega
    have hg : (cs.map V.int)[j]? = some (.int cs[j]) := by rw [List.getElem?_map, List.getElem?_eq_getElem hjl]; rfl
    have hlT : (upd H4 T (.tup [.int (i : Nat), .int z])) l = some (.lst (cs.map V.int)) := (upd_ne nlT).trans hl
    refine ⟨by decide, _, _, .inl (.inl (.inl hlT)), at_of hj hg, by decide, l, _, _, j, rfl, rfl, hlT, ?_, ?_⟩
    · rw [hj, List.length_map]
      exact ixN_n hjl
    · have nlb : ∀ b o, H b = some o → b ≠ l := fun b o x => ne_of_none x nl
      refine ⟨_, _, rfl, (s4.trans (same_upd nT)).upd_new nl, ⟨cs.set j (cs[j] + z), ?_, ?_⟩, ?_⟩
      · rw [upd_same, List.map_set]
      · rw [List.length_set, hcl]
      · have sp : SameP l H4 (upd (upd H4 T (.tup [.int (i : Nat), .int z])) l (.lst ((cs.map V.int).set j (.int (cs[j] + z))))) := (SameP.of (same_upd nT)).trans sameP_upd
        exact sp.seq (Ne.symm nle) hE
  · rintro σ H4 ⟨y2, y3, rfl, s4, ⟨cs, hl, hcl⟩, hE⟩
    refine ⟨(by show 3 ≤ sizeLine; decide), fun p np => q p _ (s4.trans (same_upd np)) (s4.free np) ⟨l, cs, 0, 0, upd_same, ?_, ne_of_none hl np, by omega, by omega, by omega⟩⟩
    rw [upd_ne (ne_of_none hl np)]
    exact hl

theorem ok__law_take {f : Addr} {fd : FuncData} (T : Txt K mg C_TreadError C_NoWord C_NoPlace C_NoTread C_NoPower C_NoNumber C_NoMakers C_NoWalk C_NoAnswers C_NoWishes C_NoUndo C_NoThings C_NoMatch C_TooGreat) (D__law_spread : Dfn P w K mg base CX0 1 "_law_spread" ["cell", "at"] (spSpread)) (F : Fun K "_law_take" "_law_take" s__law_take f fd) (hm : mg "_law_take" = some (.ref f)) (hb : Binds K fd ["pen", "many"] []) : Dfn P w K mg base CX0 2 "_law_take" ["pen", "many"] (spTake) := by
  refine Dfn.mk0 F hm hb sc__law_take (fun vs H Q E h => Sp2.len h) (fun cdv A outer s H vs Q E hr hsp => ?_)
  obtain ⟨a0, a1, rfl, h⟩ := Sp2.of hsp
  clear hsp
  have hu := hr.units
  obtain ⟨p, n, many, rfl, rfl, hp, hn, h1, h2, q⟩ := h
  obtain ⟨c, cells, at_, rest, hP, hC, ncp, ha, han, hr0⟩ := hp.ex
  refine ⟨_, (C8.pss_cut (ps_if (tCm oLt (pe_ix (xIx (K := K)) (pV 0) pe_int (fun _ _ => rfl)) (pV 1) (nomark _)) (pss_cons (ps_set (i := 2) sc__law_take.nd rfl (by first | exact .inl rfl | exact .inr rfl) (pe_ix (xIx (K := K)) (pV 0) pe_int (fun _ _ => rfl)))
      (pss_cons (ps_set (i := 3) sc__law_take.nd rfl (by first | exact .inl rfl | exact .inr rfl) pe_int)
      (C8.pss_cut (ps_if (tCm oLt (pV 2) (pe_callB (cLen (K := K)) (by rfl) T.b_len PySem.boot_len (pa_cons (pe_ix (xIx (K := K)) (pV 0) pe_int (fun _ _ => rfl)) pa_nil)) (nomark _)) (pss_one (ps_set (i := 3) sc__law_take.nd rfl (by first | exact .inl rfl | exact .inr rfl) (pe_ix (xIx (K := K)) (pe_ix (xIx (K := K)) (pV 0) pe_int (fun _ _ => rfl)) (pV 2) (fun _ _ => rfl)))) (pss_one (ps_if (tCm oGt (pe_callB (cLen (K := K)) (by rfl) T.b_len PySem.boot_len (pa_cons (pe_ix (xIx (K := K)) (pV 0) pe_int (fun _ _ => rfl)) pa_nil)) pe_int (nomark _)) (pss_one (ps_set (i := 3) sc__law_take.nd rfl (by first | exact .inl rfl | exact .inr rfl) (pe_op oMod (pe_callTy cInt (by rfl) T.b_int (by decide +kernel) (pa_cons (pe_ix (xIx (K := K)) (pe_ix (xIx (K := K)) (pV 0) pe_int (fun _ _ => rfl)) (pe_op oMod (pe_callTy cInt (by rfl) T.b_int (by decide +kernel) (pa_cons (pe_op oAdd (pe_op oMul (pV 2) pe_int) pe_int) pa_nil)) (pe_callB (cLen (K := K)) (by rfl) T.b_len PySem.boot_len (pa_cons (pe_ix (xIx (K := K)) (pV 0) pe_int (fun _ _ => rfl)) pa_nil))) (fun _ _ => rfl)) pa_nil)) (pe_op oAdd (pe_op oPow pe_int pe_int) (pV 2))))) pss_nil)))
      (pss_cons (ps_asg (pe_op oAdd (pV 2) pe_int) (pg_sub (pV 0) pe_int set_list))
      (pss_one (ps_asg (pC D__law_spread (hr.mono (by decide)) pass0 (pa_cons (pV 3) (pa_cons (pV 2) pa_nil))) (pg_sub (pV 0) pe_int set_list))))))) pss_nil)
      (pss_cons (ps_set (i := 4) sc__law_take.nd rfl (by first | exact .inl rfl | exact .inr rfl) (pe_op oMod (pe_callTy cInt (by rfl) T.b_int (by decide +kernel) (pa_cons (pe_ix (xIx (K := K)) (pV 0) pe_int (fun _ _ => rfl)) pa_nil)) (pV 1)))
      (pss_cons (ps_asg (pe_op oFdiv (pe_ix (xIx (K := K)) (pV 0) pe_int (fun _ _ => rfl)) (pV 1)) (pg_sub (pV 0) pe_int set_list))
      (pss_one (ps_ret (pV 4)))))), ?_⟩
  refine ⟨fun σ' H' => ∃ x2 x3, ∃ at2 rest2 : Int, σ' = [some (.ref p), some (.int many), x2, x3, none] ∧ H' p = some (.lst [.ref c, .int at2, .int rest2]) ∧ H' c = some (.lst (cells.map V.int)) ∧ SameP p H H' ∧ 0 ≤ at2 ∧ at2 ≤ n + 1 ∧ 0 ≤ rest2, ?_, ?_⟩
  · refine ⟨_, _, .inl (.inl (.inl hP)), rfl, ?_⟩
    refine ite2 (fun _ => ?_) (fun _ => ⟨_, _, _, _, rfl, hP, hC, SameP.refl p H, ha, by omega, hr0⟩)
    refine ⟨_, _, .inl (.inl (.inl hP)), rfl, ?_⟩
    refine ⟨fun σ' H' => ∃ v : Int, σ' = [some (.ref p), some (.int many), some (.int at_), some (.int v), none] ∧ H' = H, ?_, ?_⟩
    · refine ⟨_, _, .inl (.inl (.inl hP)), rfl, _, .inl (.inl (.inl hC)), ?_⟩
      refine ite2 (fun e => ?_) (fun _ => ?_)
      · have e1 : at_ < ((cells.map V.int).length : Int) := of_decide_eq_true e
        rw [List.length_map] at e1
        obtain ⟨j, rfl⟩ : ∃ j : Nat, at_ = j := ⟨at_.toNat, by omega⟩
        have hg : (cells.map V.int)[j]? = some (.int (cells[j]'(by omega))) := by rw [List.getElem?_map, List.getElem?_eq_getElem (by omega)]; rfl
        exact ⟨_, _, .inl (.inl (.inl hP)), rfl, _, _, .inl (.inl (.inl hC)), atI_nat hg, _, rfl, rfl⟩
      refine ⟨_, _, .inl (.inl (.inl hP)), rfl, _, .inl (.inl (.inl hC)), ?_⟩
      refine ite2 (fun e => ?_) (fun _ => ⟨_, rfl, rfl⟩)
      have e1 : (0 : Int) < ((cells.map V.int).length : Int) := of_decide_eq_true e
      refine ⟨_, _, .inl (.inl (.inl hP)), rfl, .inl ⟨by omega, by omega⟩, _, _, .inl (.inl (.inl hP)), rfl, _, .inl (.inl (.inl hC)), e1, ?_⟩
      have k0 := Int.emod_nonneg (at_ * 5 + 3) (b := ((cells.map V.int).length : Int)) (by omega)
      have k1 := Int.emod_lt_of_pos (at_ * 5 + 3) (b := ((cells.map V.int).length : Int)) e1
      obtain ⟨j, hj⟩ : ∃ j : Nat, (at_ * 5 + 3) % ((cells.map V.int).length : Int) = j := ⟨((at_ * 5 + 3) % ((cells.map V.int).length : Int)).toNat, by omega⟩
      have hjl : j < cells.length := by rw [hj, List.length_map] at k1; omega
      have hg : (cells.map V.int)[j]? = some (.int cells[j]) := by rw [List.getElem?_map, List.getElem?_eq_getElem hjl]; rfl
      refine ⟨_, _, .inl (.inl (.inl hC)), at_of hj hg, ⟨by decide, by decide, by decide⟩, ?_, ⟨_, rfl, rfl⟩⟩
      have e2 : (0 : Int) ≤ 10 ^ (17 : Int).toNat := by decide
      have e3 : (0 : Int) < 10 ^ (17 : Int).toNat := by decide
      omega
    · rintro σ' H' ⟨v, rfl, rfl⟩
      refine ⟨p, _, _, 1, rfl, rfl, hP, rfl, ?_⟩
      refine ⟨v, at_, rfl, rfl, ha, by omega, fun r H2 hr s2 => ?_⟩
      have hP2 := s2 _ _ (upd_same (H := H') (a := p))
      refine ⟨p, _, _, 2, rfl, rfl, hP2, rfl, ?_⟩
      refine ⟨_, _, _, _, rfl, upd_same, ?_, ?_, by omega, by omega, hr⟩
      · rw [upd_ne ncp]
        exact s2 _ _ ((upd_ne ncp).trans hC)
      · exact (sameP_upd.trans (SameP.of s2)).trans sameP_upd
  · rintro σ' H' ⟨x2, x3, at2, rest2, rfl, hP2, hC2, s2, b0, b1, b2⟩
    refine ⟨_, _, .inl (.inl (.inl hP2)), rfl, h1, _, _, .inl (.inl (.inl hP2)), rfl, ⟨h1, h2⟩, p, _, _, 2, rfl, rfl, hP2, rfl, ?_⟩
    refine q _ _ (Int.emod_nonneg _ (by omega)) (Int.emod_lt_of_pos _ h1) (s2.trans sameP_upd) ⟨c, cells, at2, rest2 / many, upd_same, (upd_ne ncp).trans hC2, ncp, b0, by omega, Int.ediv_nonneg b2 (by omega)⟩

theorem ok__law_z_pick {f : Addr} {fd : FuncData} (T : Txt K mg C_TreadError C_NoWord C_NoPlace C_NoTread C_NoPower C_NoNumber C_NoMakers C_NoWalk C_NoAnswers C_NoWishes C_NoUndo C_NoThings C_NoMatch C_TooGreat) (D__law_take : Dfn P w K mg base CX0 2 "_law_take" ["pen", "many"] (spTake)) (F : Fun K "_law_z_pick" "_law_z_pick" s__law_z_pick f fd) (hm : mg "_law_z_pick" = some (.ref f)) (hb : Binds K fd ["pen", "some"] []) : Dfn P w K mg base CX0 3 "_law_z_pick" ["pen", "some"] (spPick K) := by
  refine Dfn.mk0 F hm hb sc__law_z_pick (fun vs H Q E h => Sp2.len h) (fun cdv A outer s H vs Q E hr hsp => ?_)
  obtain ⟨a0, a1, rfl, h⟩ := Sp2.of hsp
  clear hsp
  have hu := hr.units
  obtain ⟨p, n, rfl, hp, hn, h⟩ := h
  have hz := sizeLine_eq
  refine ⟨_, (pss_one (ps_ret (pe_ix (xIx (K := K)) (pV 1) (pC D__law_take (hr.mono (by decide)) pass0 (pa_cons (pV 0) (pa_cons (pe_callB (cLen (K := K)) (by rfl) T.b_len PySem.boot_len (pa_cons (pV 1) pa_nil)) pa_nil))) (fun _ _ => rfl)))), ?_⟩
  cases a1 with
  | str z =>
    obtain ⟨h1, h2, q⟩ := h
    refine ⟨h2, p, n, _, rfl, rfl, hp, hn, by omega, by omega, fun r H' r0 r1 s2 hp2 => ?_⟩
    obtain ⟨c, hc, e⟩ := at_int (xs := z.cps.toList) r0 (by rw [str_len]; exact r1)
    exact ⟨h2, c, e, q c hc H' s2 hp2⟩
  | ref a =>
    obtain ⟨xs, hx, na, h1, h2, q⟩ := h
    have h3 : 0 < xs.length := List.length_pos_iff.mpr h1
    refine ⟨xs, hx, p, n, _, rfl, rfl, hp, hn, by omega, by omega, fun r H' r0 r1 s2 hp2 => ?_⟩
    obtain ⟨v, hv, e⟩ := at_int (xs := xs) r0 r1
    exact ⟨xs, v, hx.imp (fun x => s2.seq na x) (fun x => s2.tup na x), e, q v hv H' s2 hp2⟩
  | _ => exact h.elim

theorem ok_is_word {f : Addr} {fd : FuncData} (T : Txt K mg C_TreadError C_NoWord C_NoPlace C_NoTread C_NoPower C_NoNumber C_NoMakers C_NoWalk C_NoAnswers C_NoWishes C_NoUndo C_NoThings C_NoMatch C_TooGreat) (F : Fun K "is_word" "is_word" s_is_word f fd) (hm : mg "is_word" = some (.ref f)) (hb : Binds K fd ["thing"] []) : Dfn P w K mg base CX0 1 "is_word" ["thing"] (spIsWord K) := by
  refine Dfn.mk0 F hm hb sc_is_word (fun vs H Q E h => Sp1.len h) (fun cdv A outer s H vs Q E hr hsp => ?_)
  obtain ⟨a0, rfl, h⟩ := Sp1.of hsp
  clear hsp
  have hu := hr.units
  have b1 : PySem.W.kitOne K (.type "str") (.type "str") = some true := kit_ty (by decide +kernel)
  refine ⟨_, (pss_cons (ps_if (pt_not (tVal (pe_callB (cIs (K := K)) (by rfl) T.b_isinstance (by decide +kernel) (pa_cons (pV 0) (pa_cons (pe_bltn (v := .ty "str") rfl T.b_str (by decide +kernel) rfl) pa_nil))))) (pss_one (ps_ret pe_bl)) pss_nil)
      (pss_cons (ps_for PassesOwn.never rfl (pI (K := K) (pV 0)) (pg_name (i := 1) sc_is_word.nd rfl (by first | exact .inl rfl | exact .inr rfl)) (pss_one (ps_if (tCm oNotInS (pV 1) (pK T.k_LETTERS) (by with_unfolding_all rfl)) (pss_one (ps_ret pe_bl)) pss_nil)))
      (pss_one (ps_ret pe_bl)))), ?_⟩
  rcases h with ⟨b, ⟨z, rfl, rfl⟩ | ⟨⟨t, ht, hk⟩, rfl⟩, q⟩
  · refine .inl ⟨_, _, _, _, _, rfl, .ty _, .base (.str z), b1, iteF ?_⟩
    refine for_it walk_str (fun i σ' H' => ∃ y, σ' = [some (.str z), y] ∧ H' = H ∧ ∀ (j : Nat) (c : Nat), j < i → z.cps[j]? = some c → c ∈ letC) ⟨none, rfl, rfl, fun j c h => absurd h (Nat.not_lt_zero j)⟩ (fun _ _ _ _ _ => trivial) ?_ ?_
    · rintro i v σ' H1 H2 hi ⟨y, rfl, rfl, hall⟩ ⟨rfl, c, hc, rfl⟩
      refine ⟨rfl, ite2 (fun e => ?_) (fun e => ⟨_, rfl, rfl, fun j d hj hd => ?_⟩)⟩
      · have hn : ¬ c ∈ letC := by
          rw [letters_eq] at e
          intro m
          have e' : (true != decide (c ∈ letC)) = true := e
          rw [decide_eq_true m] at e'
          cases e'
        have hw : isW z = false := by
          refine Bool.eq_false_iff.mpr fun w => hn ?_
          have w1 := List.all_eq_true.mp w c (Array.mem_toList_iff.mpr (Array.mem_of_getElem? hc))
          exact of_decide_eq_true w1
        rw [hw] at q
        exact q
      · rcases Nat.lt_succ_iff_lt_or_eq.mp hj with hj | rfl
        · exact hall j d hj hd
        · rw [hc] at hd
          cases hd
          rw [letters_eq] at e
          have e' : ¬ (true != decide (c ∈ letC)) = true := e
          by_cases m : c ∈ letC
          · exact m
          · rw [decide_eq_false m] at e'
            exact absurd rfl e'
    · rintro σ' H1 ⟨y, rfl, rfl, hall⟩
      have hw : isW z = true := by
        refine List.all_eq_true.mpr fun c hc => ?_
        obtain ⟨j, hj, e⟩ := List.getElem_of_mem hc
        have hj' : j < z.cps.size := by simpa using hj
        exact decide_eq_true (hall j c hj' (by rw [Array.getElem?_eq_getElem hj', ← e, Array.getElem_toList]))
      rw [hw] at q
      exact q
  · exact .inl ⟨_, _, _, _, _, rfl, .ty _, ht, hk, iteT q⟩

theorem ok_is_place {f : Addr} {fd : FuncData} (T : Txt K mg C_TreadError C_NoWord C_NoPlace C_NoTread C_NoPower C_NoNumber C_NoMakers C_NoWalk C_NoAnswers C_NoWishes C_NoUndo C_NoThings C_NoMatch C_TooGreat) (D_is_word : Dfn P w K mg base CX0 1 "is_word" ["thing"] (spIsWord K)) (F : Fun K "is_place" "is_place" s_is_place f fd) (hm : mg "is_place" = some (.ref f)) (hb : Binds K fd ["thing"] []) : Dfn P w K mg base CX0 2 "is_place" ["thing"] (spIsPlace K) := by
  refine Dfn.mk0 F hm hb sc_is_place (fun vs H Q E h => Sp1.len h) (fun cdv A outer s H vs Q E hr hsp => ?_)
  obtain ⟨a0, rfl, h⟩ := Sp1.of hsp
  clear hsp
  have hu := hr.units
  refine ⟨_, (pss_cons (ps_if (pt_not (tVal (pC D_is_word (hr.mono (by decide)) pass0 (pa_cons (pV 0) pa_nil)))) (pss_one (ps_ret pe_bl)) pss_nil)
      (pss_cons (ps_for PassesOwn.never rfl (pi_zips (by rfl) T.b_zip (pa_cons (pV 0) (pa_cons (pe_slice (sSl (K := K)) (pV 0) (oPart pe_int) po_none) pa_nil))) (pg_tup rfl (pgs_cons (pg_name (i := 1) sc_is_place.nd rfl (by first | exact .inl rfl | exact .inr rfl)) (pgs_cons (pg_name (i := 2) sc_is_place.nd rfl (by first | exact .inl rfl | exact .inr rfl)) pgs_nil))) (pss_one (ps_if (tCm (oEq (K := K) hu) (pV 2) (pe_m0 PySem.F.slot_str_swapcase PySem.F.type_str_swapcase mt_swapcase (pV 1)) (nomark _)) (pss_one (ps_ret pe_bl)) pss_nil)))
      (pss_one (ps_ret pe_bl)))), ?_⟩
  rcases h with ⟨b, ⟨z, rfl, hz, rfl⟩ | ⟨hn, rfl⟩, q⟩
  · obtain ⟨u, rfl⟩ : ∃ u, z = S u := ⟨z.cps.toList, (S_tl z).symm⟩
    refine ⟨_, .inl ⟨S u, rfl, rfl⟩, ?_⟩
    cases hw : isW (S u) with
    | false =>
      rw [hw] at q
      exact q H (Same.refl H)
    | true =>
      rw [hw] at q
      have hu' : Xia.IsL u := of_isW hw
      have hz1 : u.length ≤ sizeLine := by rw [← S_len]; exact hz
      have ec : cutS (S u) (some 1) none = S (u.drop 1) := cut_from u (by decide)
      refine ⟨hz, ?_⟩
      rw [ec]
      refine for_it (walk_zips _ _) (fun i σ' H' => ∃ y1 y2, σ' = [some (.str (S u)), y1, y2] ∧ Same H H' ∧ ∀ (j c d : Nat), j < i → u[j]? = some c → u[j + 1]? = some d → d ≠ oth c) ⟨none, none, rfl, Same.refl H, fun j c d h => absurd h (Nat.not_lt_zero j)⟩ (fun _ _ _ _ _ => trivial) ?_ ?_
      · rintro i v σ' H1 H2 hi ⟨y1, y2, rfl, s1, hall⟩ ⟨Tt, c, d, rfl, nT, rfl, hc, hd⟩
        have hc' : u[i]? = some c := by simpa using hc
        have hd' : u[i + 1]? = some d := by
          have e : (u.drop 1)[i]? = some d := by simpa using hd
          rw [List.getElem?_drop, Nat.add_comm] at e
          exact e
        have hcl : c ∈ letC := hu' c (List.mem_of_getElem? hc')
        refine ⟨Tt, _, rfl, .inl (.inl upd_same), rfl, _, _, rfl, _, _, rfl, rfl, ?_⟩
        refine ⟨⟨_, rfl⟩, _, rfl, rfl, (by show 1 ≤ 5592405; decide), ?_⟩
        have es : Txt.swapcase (S [c]) = S [oth c] := swap_letters (.one hcl)
        show (if decide ((S [d]) = Txt.swapcase (S [c])) = true then _ else _)
        rw [es]
        refine ite2 (fun e => ?_) (fun e => ?_)
        · have e1 : d = oth c := by
            have := S_inj (of_decide_eq_true e)
            cases this
            rfl
          have hp : isP u = false := Bool.eq_false_iff.mpr fun z => isP_iff.mp z i c d hc' hd' e1
          have q' := q (upd H1 Tt (.tup [.str ⟨#[c]⟩, .str ⟨#[d]⟩])) (s1.trans (same_upd nT))
          rw [show isP (S u).cps.toList = isP u from rfl, hp] at q'
          exact q'
        · refine ⟨_, _, rfl, s1.trans (same_upd nT), fun j a b hj h1 h2 => ?_⟩
          rcases Nat.lt_succ_iff_lt_or_eq.mp hj with hj | rfl
          · exact hall j a b hj h1 h2
          · rw [hc'] at h1
            rw [hd'] at h2
            cases h1
            cases h2
            exact fun z => e (decide_eq_true (by rw [z]))
      · rintro σ' H1 ⟨y1, y2, rfl, s1, hall⟩
        have hp : isP u = true := isP_iff.mpr fun i c d h1 h2 => hall i c d (by
          have l2 := (List.getElem?_eq_some_iff.mp h2).1
          show i < min u.length (u.drop 1).length
          rw [List.length_drop]
          omega) h1 h2
        have q' := q H1 s1
        rw [show isP (S u).cps.toList = isP u from rfl, hp] at q'
        exact q'
  · refine ⟨false, .inr ⟨hn, rfl⟩, iteT ?_⟩
    exact q H (Same.refl H)

theorem ok_check_word {f : Addr} {fd : FuncData} (T : Txt K mg C_TreadError C_NoWord C_NoPlace C_NoTread C_NoPower C_NoNumber C_NoMakers C_NoWalk C_NoAnswers C_NoWishes C_NoUndo C_NoThings C_NoMatch C_TooGreat) (D_is_word : Dfn P w K mg base CX0 1 "is_word" ["thing"] (spIsWord K)) (F : Fun K "check_word" "check_word" s_check_word f fd) (hm : mg "check_word" = some (.ref f)) (hb : Binds K fd ["word"] []) : Dfn P w K mg base (L2.CX P w) 2 "check_word" ["word"] (spCheckWord K C_NoWord) := by
  refine Dfn.mkX F hm hb sc_check_word (fun vs H Q E h => Sp1.len h) (fun cdv A outer s H vs Q E hr hsp => ?_)
  obtain ⟨a0, rfl, h⟩ := Sp1.of hsp
  clear hsp
  have hu := hr.units
  refine ⟨_, (pss_one (ps_if (PW.pt (pw_or (pt_not (tVal (pC D_is_word (hr.mono (by decide)) pass0 (pa_cons (pV 0) pa_nil)))) (pw_or1 (tCm oGt (pe_callB (cLen (K := K)) (by rfl) T.b_len PySem.boot_len (pa_cons (pV 0) pa_nil)) (pK T.k_MOST_LETTERS) (nomark _))))) (pss_one (ps_raise rfl (takes_of rfl rfl rfl rfl) (pmk_own PySem.F.excBase_ValueError T.x_NoWord.ex T.x_NoWord.gC T.x_NoWord.kp T.x_NoWord.rs rfl))) pss_nil)), ?_⟩
  rcases h with ⟨z, rfl, hz, q1, q2⟩ | ⟨hn, q⟩
  · refine ⟨_, .inl ⟨z, rfl, rfl⟩, ?_⟩
    cases hw : isW z with
    | false =>
      refine iteT (iteT ?_)
      exact q2 fun x => by rw [hw] at x; cases x.1
    | true =>
      refine iteF ⟨hz, ite2 (fun e => ?_) (fun e => ?_)⟩
      · have e' : (200 : Int) < z.length := of_decide_eq_true e
        exact q2 fun x => by omega
      · have e' : ¬ (200 : Int) < z.length := fun m => e (decide_eq_true m)
        exact q1 hw (by omega)
  · refine ⟨false, .inr ⟨hn, rfl⟩, iteT (iteT ?_)⟩
    exact q

theorem ok_turn {f : Addr} {fd : FuncData} (T : Txt K mg C_TreadError C_NoWord C_NoPlace C_NoTread C_NoPower C_NoNumber C_NoMakers C_NoWalk C_NoAnswers C_NoWishes C_NoUndo C_NoThings C_NoMatch C_TooGreat) (F : Fun K "turn" "turn" s_turn f fd) (hm : mg "turn" = some (.ref f)) (hb : Binds K fd ["word"] []) : Dfn P w K mg base CX0 1 "turn" ["word"] (spTurn) := by
  refine Dfn.mk0 F hm hb sc_turn (fun vs H Q E h => Sp1.len h) (fun cdv A outer s H vs Q E hr hsp => ?_)
  obtain ⟨a0, rfl, h⟩ := Sp1.of hsp
  clear hsp
  have hu := hr.units
  obtain ⟨u, rfl, hu1, hu2, q⟩ := h
  have hz := sizeLine_eq
  refine ⟨_, (pss_one (ps_ret (pe_m0 PySem.F.slot_str_swapcase PySem.F.type_str_swapcase mt_swapcase (pe_back (K := K) (pV 0))))), ?_⟩
  refine ⟨by rw [S_len]; omega, ⟨_, rfl⟩, _, rfl, rfl, ?_, ?_⟩
  · rw [S_len]
    show u.reverse.length ≤ _
    rw [List.length_reverse]
    omega
  · have e : Txt.swapcase (S u.reverse) = S (mir u) := by
      rw [swap_letters (hu1.sub fun c hc => List.mem_reverse.mp hc)]
      unfold mir
      rw [List.map_reverse]
    show Q (.str (Txt.swapcase (S u.reverse))) H
    rw [e]
    exact q

theorem ok_step {f : Addr} {fd : FuncData} (T : Txt K mg C_TreadError C_NoWord C_NoPlace C_NoTread C_NoPower C_NoNumber C_NoMakers C_NoWalk C_NoAnswers C_NoWishes C_NoUndo C_NoThings C_NoMatch C_TooGreat) (F : Fun K "step" "step" s_step f fd) (hm : mg "step" = some (.ref f)) (hb : Binds K fd ["place", "letter"] []) : Dfn P w K mg base CX0 1 "step" ["place", "letter"] (spStep) := by
  refine Dfn.mk0 F hm hb sc_step (fun vs H Q E h => Sp2.len h) (fun cdv A outer s H vs Q E hr hsp => ?_)
  obtain ⟨a0, a1, rfl, h⟩ := Sp2.of hsp
  clear hsp
  have hu := hr.units
  obtain ⟨u, c, rfl, rfl, hc, hl, q⟩ := h
  have hz := sizeLine_eq
  have es : Txt.swapcase (S [c]) = S [oth c] := swap_letters (.one hc)
  refine ⟨_, (pss_cons (ps_if (tVal (pe_m1 PySem.F.slot_str_endswith PySem.F.type_str_endswith mt_endswith (pV 0) (pe_m0 PySem.F.slot_str_swapcase PySem.F.type_str_swapcase mt_swapcase (pV 1)))) (pss_one (ps_ret (pe_slice (sSl (K := K)) (pV 0) po_none (oPart (pe_un oNeg pe_int))))) pss_nil)
      (pss_one (ps_ret (pe_op oAdd (pV 0) (pV 1))))), ?_⟩
  refine ⟨⟨_, rfl⟩, ⟨_, rfl⟩, _, rfl, rfl, (by show 1 ≤ 5592405; decide), _, _, rfl, rfl, ?_⟩
  rw [es, ends_one]
  refine ite2 (fun e => ?_) (fun e => ?_)
  · refine ⟨by rw [S_len]; omega, ?_⟩
    show Q (.str (cutS (S u) none (some (-1)))) H
    rw [cut_butlast]
    unfold stp at q
    rw [if_pos (of_decide_eq_true e)] at q
    exact q
  · refine ⟨by rw [S_len, S_len]; show u.length + 1 ≤ _; omega, ?_⟩
    unfold stp at q
    rw [if_neg fun z => e (decide_eq_true z)] at q
    show Q (.str (S u ++ S [c])) H
    rw [S_cat]
    exact q

theorem ok_follow {f : Addr} {fd : FuncData} (T : Txt K mg C_TreadError C_NoWord C_NoPlace C_NoTread C_NoPower C_NoNumber C_NoMakers C_NoWalk C_NoAnswers C_NoWishes C_NoUndo C_NoThings C_NoMatch C_TooGreat) (D_step : Dfn P w K mg base CX0 1 "step" ["place", "letter"] (spStep)) (F : Fun K "follow" "follow" s_follow f fd) (hm : mg "follow" = some (.ref f)) (hb : Binds K fd ["place", "word"] []) : Dfn P w K mg base CX0 2 "follow" ["place", "word"] (spFollow) := by
  refine Dfn.mk0 F hm hb sc_follow (fun vs H Q E h => Sp2.len h) (fun cdv A outer s H vs Q E hr hsp => ?_)
  obtain ⟨a0, a1, rfl, h⟩ := Sp2.of hsp
  clear hsp
  have hu := hr.units
  obtain ⟨u, v, rfl, rfl, hv, hl, q⟩ := h
  refine ⟨_, (pss_cons (ps_for PassesOwn.never rfl (pI (K := K) (pV 1)) (pg_name (i := 2) sc_follow.nd rfl (by first | exact .inl rfl | exact .inr rfl)) (pss_one (ps_set (i := 0) sc_follow.nd rfl (by first | exact .inl rfl | exact .inr rfl) (pC D_step (hr.mono (by decide)) pass0 (pa_cons (pV 0) (pa_cons (pV 2) pa_nil))))))
      (pss_one (ps_ret (pV 0)))), ?_⟩
  refine for_it walk_str (fun i σ' H' => ∃ y, σ' = [some (.str (S (fol u (v.take i)))), some (.str (S v)), y] ∧ H' = H) ⟨none, rfl, rfl⟩ (fun _ _ _ _ _ => trivial) ?_ ?_
  · rintro i x σ' H1 H2 hi ⟨y, rfl, rfl⟩ ⟨rfl, c, hc, rfl⟩
    have hc' : v[i]? = some c := by simpa using hc
    refine ⟨fol u (v.take i), c, rfl, rfl, hv c (List.mem_of_getElem? hc'), ?_, some (.str ⟨#[c]⟩), ?_, rfl⟩
    · have := fol_len (p := u) (w := v.take i)
      have h2 : (v.take i).length ≤ v.length := by rw [List.length_take]; omega
      omega
    · have e : fol u (v.take (i + 1)) = stp (fol u (v.take i)) c := by
        rw [List.take_succ, hc', fol_app]
        rfl
      rw [e]
      rfl
  · rintro σ' H1 ⟨y, rfl, rfl⟩
    show Q (.str (S (fol u (v.take (S v).cps.size)))) H1
    rw [show (S v).cps.size = v.length from by simp, List.take_length]
    exact q

theorem ok_check_place {f : Addr} {fd : FuncData} (T : Txt K mg C_TreadError C_NoWord C_NoPlace C_NoTread C_NoPower C_NoNumber C_NoMakers C_NoWalk C_NoAnswers C_NoWishes C_NoUndo C_NoThings C_NoMatch C_TooGreat) (D_is_place : Dfn P w K mg base CX0 2 "is_place" ["thing"] (spIsPlace K)) (F : Fun K "check_place" "check_place" s_check_place f fd) (hm : mg "check_place" = some (.ref f)) (hb : Binds K fd ["place"] []) : Dfn P w K mg base (L2.CX P w) 3 "check_place" ["place"] (spCheckPlace K C_NoPlace) := by
  refine Dfn.mkX F hm hb sc_check_place (fun vs H Q E h => Sp1.len h) (fun cdv A outer s H vs Q E hr hsp => ?_)
  obtain ⟨a0, rfl, h⟩ := Sp1.of hsp
  clear hsp
  have hu := hr.units
  refine ⟨_, (pss_one (ps_if (PW.pt (pw_or (pt_not (tVal (pC D_is_place (hr.mono (by decide)) pass0 (pa_cons (pV 0) pa_nil)))) (pw_or1 (tCm oGt (pe_callB (cLen (K := K)) (by rfl) T.b_len PySem.boot_len (pa_cons (pV 0) pa_nil)) (pK T.k_MOST_LETTERS) (nomark _))))) (pss_one (ps_raise rfl (takes_of rfl rfl rfl rfl) (pmk_own PySem.F.excBase_ValueError T.x_NoPlace.ex T.x_NoPlace.gC T.x_NoPlace.kp T.x_NoPlace.rs rfl))) pss_nil)), ?_⟩
  rcases h with ⟨u, rfl, h1, h2, h3, q⟩ | ⟨⟨z, rfl, hz, hb⟩ | hn, q⟩
  · have hz := sizeLine_eq
    refine ⟨_, .inl ⟨S u, rfl, by rw [S_len]; omega, rfl⟩, fun H' s' => ?_⟩
    rw [isW_S h1, show isP (S u).cps.toList = isP u from rfl, h2]
    refine ⟨by rw [S_len]; omega, ite2 (fun e => ?_) (fun e => ?_)⟩
    · have e' : (200 : Int) < (S u).length := of_decide_eq_true e
      rw [S_len] at e'
      omega
    · exact q H' s'
  · refine ⟨_, .inl ⟨z, rfl, hz, rfl⟩, fun H' s' => ?_⟩
    cases hw : (isW z && isP z.cps.toList) with
    | false => exact q H' s'
    | true =>
      have hw' := Bool.and_eq_true_iff.mp hw
      refine ⟨hz, ite2 (fun e => ?_) (fun e => ?_)⟩
      · exact q H' s'
      · have e' : ¬ (200 : Int) < z.length := fun m => e (decide_eq_true m)
        exact absurd ⟨hw'.1, hw'.2, by omega⟩ hb
  · exact ⟨false, .inr ⟨hn, rfl⟩, fun H' s' => q H' s'⟩

theorem ok_back {f : Addr} {fd : FuncData} (T : Txt K mg C_TreadError C_NoWord C_NoPlace C_NoTread C_NoPower C_NoNumber C_NoMakers C_NoWalk C_NoAnswers C_NoWishes C_NoUndo C_NoThings C_NoMatch C_TooGreat) (D_turn : Dfn P w K mg base CX0 1 "turn" ["word"] (spTurn)) (D_check_word : Dfn P w K mg base (L2.CX P w) 2 "check_word" ["word"] (spCheckWord K C_NoWord)) (F : Fun K "back" "back" s_back f fd) (hm : mg "back" = some (.ref f)) (hb : Binds K fd ["word"] []) : Dfn P w K mg base (L2.CX P w) 3 "back" ["word"] (spBack K C_NoWord) := by
  refine Dfn.mkX F hm hb sc_back (fun vs H Q E h => Sp1.len h) (fun cdv A outer s H vs Q E hr hsp => ?_)
  obtain ⟨a0, rfl, h⟩ := Sp1.of hsp
  clear hsp
  have hu := hr.units
  refine ⟨_, (pss_cons (ps_expr (pC D_check_word (hr.mono (by decide)) (passes_call (takes_of rfl rfl rfl rfl) (fun _ _ _ _ z => z)) (pa_cons (pV 0) pa_nil)))
      (pss_one (ps_ret (pC D_turn (hr.mono (by decide)) pass0 (pa_cons (pV 0) pa_nil))))), ?_⟩
  rcases h with ⟨u, rfl, h1, h2, q⟩ | ⟨hb, q⟩
  · have hz := sizeLine_eq
    exact .inl ⟨S u, rfl, by rw [S_len]; omega, fun _ _ => ⟨u, rfl, h1, by omega, q⟩, fun n => absurd ⟨isW_S h1, by rw [S_len]; exact h2⟩ n⟩
  · rcases hb with ⟨z, rfl, hz, hb⟩ | hn
    · exact .inl ⟨z, rfl, hz, fun a b => absurd ⟨a, b⟩ hb, fun _ => q⟩
    · exact .inr ⟨hn, q⟩

theorem ok_reduced {f : Addr} {fd : FuncData} (T : Txt K mg C_TreadError C_NoWord C_NoPlace C_NoTread C_NoPower C_NoNumber C_NoMakers C_NoWalk C_NoAnswers C_NoWishes C_NoUndo C_NoThings C_NoMatch C_TooGreat) (D_follow : Dfn P w K mg base CX0 2 "follow" ["place", "word"] (spFollow)) (D_check_word : Dfn P w K mg base (L2.CX P w) 2 "check_word" ["word"] (spCheckWord K C_NoWord)) (F : Fun K "reduced" "reduced" s_reduced f fd) (hm : mg "reduced" = some (.ref f)) (hb : Binds K fd ["word"] []) : Dfn P w K mg base (L2.CX P w) 3 "reduced" ["word"] (spReduced K C_NoWord) := by
  refine Dfn.mkX F hm hb sc_reduced (fun vs H Q E h => Sp1.len h) (fun cdv A outer s H vs Q E hr hsp => ?_)
  obtain ⟨a0, rfl, h⟩ := Sp1.of hsp
  clear hsp
  have hu := hr.units
  refine ⟨_, (pss_cons (ps_expr (pC D_check_word (hr.mono (by decide)) (passes_call (takes_of rfl rfl rfl rfl) (fun _ _ _ _ z => z)) (pa_cons (pV 0) pa_nil)))
      (pss_one (ps_ret (pC D_follow (hr.mono (by decide)) pass0 (pa_cons pe_str (pa_cons (pV 0) pa_nil)))))), ?_⟩
  rcases h with ⟨u, rfl, h1, h2, q⟩ | ⟨hb, q⟩
  · have hz := sizeLine_eq
    exact .inl ⟨S u, rfl, by rw [S_len]; omega, fun _ _ => ⟨[], u, rfl, rfl, h1, by show 0 + u.length ≤ _; omega, q⟩, fun n => absurd ⟨isW_S h1, by rw [S_len]; exact h2⟩ n⟩
  · rcases hb with ⟨z, rfl, hz, hb⟩ | hn
    · exact .inl ⟨z, rfl, hz, fun a b => absurd ⟨a, b⟩ hb, fun _ => q⟩
    · exact .inr ⟨hn, q⟩

theorem ok_behind {f : Addr} {fd : FuncData} (T : Txt K mg C_TreadError C_NoWord C_NoPlace C_NoTread C_NoPower C_NoNumber C_NoMakers C_NoWalk C_NoAnswers C_NoWishes C_NoUndo C_NoThings C_NoMatch C_TooGreat) (D_follow : Dfn P w K mg base CX0 2 "follow" ["place", "word"] (spFollow)) (D_check_word : Dfn P w K mg base (L2.CX P w) 2 "check_word" ["word"] (spCheckWord K C_NoWord)) (D_check_place : Dfn P w K mg base (L2.CX P w) 3 "check_place" ["place"] (spCheckPlace K C_NoPlace)) (F : Fun K "behind" "behind" s_behind f fd) (hm : mg "behind" = some (.ref f)) (hb : Binds K fd ["place", "word"] []) : Dfn P w K mg base (L2.CX P w) 4 "behind" ["place", "word"] (spBehind K C_NoWord C_NoPlace) := by
  refine Dfn.mkX F hm hb sc_behind (fun vs H Q E h => Sp2.len h) (fun cdv A outer s H vs Q E hr hsp => ?_)
  obtain ⟨a0, a1, rfl, h⟩ := Sp2.of hsp
  clear hsp
  have hu := hr.units
  refine ⟨_, (pss_cons (ps_expr (pC D_check_place (hr.mono (by decide)) (passes_call (takes_of rfl rfl rfl rfl) (fun _ _ _ _ z => z)) (pa_cons (pV 0) pa_nil)))
      (pss_cons (ps_expr (pC D_check_word (hr.mono (by decide)) (passes_call (takes_of rfl rfl rfl rfl) (fun _ _ _ _ z => z)) (pa_cons (pV 1) pa_nil)))
      (pss_one (ps_ret (pC D_follow (hr.mono (by decide)) pass0 (pa_cons (pV 0) (pa_cons (pV 1) pa_nil))))))), ?_⟩
  rcases h with ⟨hb, q⟩ | ⟨u, rfl, h1, h2, h3, ⟨hb, q⟩ | ⟨v, rfl, g1, g2, q⟩⟩
  · exact .inr ⟨hb, q⟩
  · refine .inl ⟨u, rfl, h1, h2, h3, fun H' s' => ?_⟩
    rcases hb.same s' with ⟨z, rfl, hz, hb⟩ | hn
    · exact .inl ⟨z, rfl, hz, fun a b => absurd ⟨a, b⟩ hb, fun _ => q H' s'⟩
    · exact .inr ⟨hn, q H' s'⟩
  · have hz := sizeLine_eq
    refine .inl ⟨u, rfl, h1, h2, h3, fun H' s' => ?_⟩
    exact .inl ⟨S v, rfl, by rw [S_len]; omega, fun _ _ => ⟨u, v, rfl, rfl, g1, by omega, q H' s'⟩, fun n => absurd ⟨isW_S g1, by rw [S_len]; exact g2⟩ n⟩

theorem ok__law_z_other {f : Addr} {fd : FuncData} (T : Txt K mg C_TreadError C_NoWord C_NoPlace C_NoTread C_NoPower C_NoNumber C_NoMakers C_NoWalk C_NoAnswers C_NoWishes C_NoUndo C_NoThings C_NoMatch C_TooGreat) (F : Fun K "_law_z_other" "_law_z_other" s__law_z_other f fd) (hm : mg "_law_z_other" = some (.ref f)) (hb : Binds K fd ["letter"] []) : Dfn P w K mg base CX0 1 "_law_z_other" ["letter"] (spOther) := by
  refine Dfn.mk0 F hm hb sc__law_z_other (fun vs H Q E h => Sp1.len h) (fun cdv A outer s H vs Q E hr hsp => ?_)
  obtain ⟨a0, rfl, h⟩ := Sp1.of hsp
  clear hsp
  have hu := hr.units
  obtain ⟨c, rfl, hc, q⟩ := h
  obtain ⟨i, h1, h2⟩ := other_at c hc
  refine ⟨_, (pss_one (ps_ret (pe_ix (xIx (K := K)) pe_str (pe_m1 PySem.F.slot_str_index PySem.F.type_str_index mt_sindex pe_str (pV 0)) (fun _ _ => rfl)))), ?_⟩
  exact ⟨⟨_, rfl⟩, _, _, i, [], rfl, rfl, h1, by decide, _, h2, q⟩

theorem ok__law_z_mirror {f : Addr} {fd : FuncData} (T : Txt K mg C_TreadError C_NoWord C_NoPlace C_NoTread C_NoPower C_NoNumber C_NoMakers C_NoWalk C_NoAnswers C_NoWishes C_NoUndo C_NoThings C_NoMatch C_TooGreat) (D__law_z_other : Dfn P w K mg base CX0 1 "_law_z_other" ["letter"] (spOther)) (F : Fun K "_law_z_mirror" "_law_z_mirror" s__law_z_mirror f fd) (hm : mg "_law_z_mirror" = some (.ref f)) (hb : Binds K fd ["word"] []) : Dfn P w K mg base CX0 2 "_law_z_mirror" ["word"] (spMirror) := by
  refine Dfn.mk0 F hm hb sc__law_z_mirror (fun vs H Q E h => Sp1.len h) (fun cdv A outer s H vs Q E hr hsp => ?_)
  obtain ⟨a0, rfl, h⟩ := Sp1.of hsp
  clear hsp
  have hu := hr.units
  obtain ⟨u, rfl, hu1, hl, q⟩ := h
  have hz := sizeLine_eq
  refine ⟨_, (pss_one (ps_ret (pe_join pe_str (pe_lc (own := [("letter", 1)]) (by rfl) sc__law_z_mirror.nd (pI (K := K) (pe_back (K := K) (pV 0))) (blkOk_by (N := N__law_z_mirror) (sc := defScope s__law_z_mirror) (by decide +kernel)) (fun _ _ _ _ _ => pg_name (i := 1) sc__law_z_mirror.nd rfl (Or.inl rfl)) (fun _ _ _ _ _ => pts_nil) (fun _ _ _ _ _ => (pC D__law_z_other (hr.mono (by decide)) pass0 (pa_cons (pV 1) pa_nil))))))), ?_⟩
  refine ⟨⟨_, rfl⟩, by rw [S_len]; omega, fun D nD => lc_it walk_str (fun j H' => H' = upd H D (.lst (((u.reverse.take j).map fun c => S [oth c]).map V.str))) rfl (fun _ _ _ _ => trivial) ?_ ?_⟩
  · rintro j x H1 H2 hj rfl ⟨rfl, c, hc, rfl⟩
    have hc' : u.reverse[j]? = some c := by simpa using hc
    have hcl : c ∈ letC := hu1 c (List.mem_reverse.mp (List.mem_of_getElem? hc'))
    have hj' : j < u.reverse.length := (List.getElem?_eq_some_iff.mp hc').1
    rw [List.length_reverse] at hj'
    refine ⟨rfl, c, rfl, hcl, _, upd_same, ?_, ?_⟩
    · rw [List.length_map, List.length_map, List.length_take]
      omega
    · rw [upd_upd, List.take_succ, hc', List.map_append, List.map_append]
      rfl
  · rintro H1 rfl
    have e : (u.reverse.take (S u.reverse).cps.size) = u.reverse := by
      rw [show (S u.reverse).cps.size = u.reverse.length from by simp, List.take_length]
    refine ⟨_, D, (u.reverse.map fun c => S [oth c]), rfl, rfl, .inl (.inl (.inl ?_)), ?_, ?_⟩
    · show (upd H D _) D = _
      rw [upd_same, e]
    · rw [List.map_map, List.length_map]
      have : ((fun x : Str => x.length) ∘ fun c => S [oth c]) = fun _ => 1 := funext fun c => rfl
      rw [this, List.map_const', List.sum_replicate_nat, List.length_reverse]
      show u.length * 1 + u.length * 0 ≤ _
      omega
    · have ej : Txt.join ("" : Str) (u.reverse.map fun c => S [oth c]) = S (mir u) := by
        have := join_signs (mir u)
        unfold mir at this ⊢
        rw [← List.map_reverse, List.map_map] at this
        rw [← List.map_reverse]
        exact this
      show Q (.str (Txt.join ("" : Str) _)) _
      rw [ej]
      exact q _ (same_upd nD)

theorem ok__law_z_behind {f : Addr} {fd : FuncData} (T : Txt K mg C_TreadError C_NoWord C_NoPlace C_NoTread C_NoPower C_NoNumber C_NoMakers C_NoWalk C_NoAnswers C_NoWishes C_NoUndo C_NoThings C_NoMatch C_TooGreat) (D__law_z_other : Dfn P w K mg base CX0 1 "_law_z_other" ["letter"] (spOther)) (F : Fun K "_law_z_behind" "_law_z_behind" s__law_z_behind f fd) (hm : mg "_law_z_behind" = some (.ref f)) (hb : Binds K fd ["place", "word"] []) : Dfn P w K mg base CX0 2 "_law_z_behind" ["place", "word"] (spFollow) := by
  refine Dfn.mk0 F hm hb sc__law_z_behind (fun vs H Q E h => Sp2.len h) (fun cdv A outer s H vs Q E hr hsp => ?_)
  obtain ⟨a0, a1, rfl, h⟩ := Sp2.of hsp
  clear hsp
  have hu := hr.units
  obtain ⟨u, v, rfl, rfl, hv, hl, q⟩ := h
  have hz := sizeLine_eq
  refine ⟨_, (pss_cons (ps_for PassesOwn.never rfl (pI (K := K) (pV 1)) (pg_name (i := 2) sc__law_z_behind.nd rfl (by first | exact .inl rfl | exact .inr rfl)) (pss_one (ps_set (i := 0) sc__law_z_behind.nd rfl (by first | exact .inl rfl | exact .inr rfl) (pe_ifExp (tCm (oEq (K := K) hu) (pe_slice (sSl (K := K)) (pV 0) (oPart (pe_un oNeg pe_int)) po_none) (pC D__law_z_other (hr.mono (by decide)) pass0 (pa_cons (pV 2) pa_nil)) (nomark _)) (pe_slice (sSl (K := K)) (pV 0) po_none (oPart (pe_un oNeg pe_int))) (pe_op oAdd (pV 0) (pV 2))))))
      (pss_one (ps_ret (pV 0)))), ?_⟩
  refine for_it walk_str (fun i σ' H' => ∃ y, σ' = [some (.str (S (fol u (v.take i)))), some (.str (S v)), y] ∧ H' = H) ⟨none, rfl, rfl⟩ (fun _ _ _ _ _ => trivial) ?_ ?_
  · rintro i x σ' H1 H2 hi ⟨y, rfl, rfl⟩ ⟨rfl, c, hc, rfl⟩
    have hc' : v[i]? = some c := by simpa using hc
    have hcl := hv c (List.mem_of_getElem? hc')
    have hfl : (fol u (v.take i)).length ≤ 1000000 := by
      have := fol_len (p := u) (w := v.take i)
      have h2 : (v.take i).length ≤ v.length := by rw [List.length_take]; omega
      omega
    have e : fol u (v.take (i + 1)) = stp (fol u (v.take i)) c := by
      rw [List.take_succ, hc', fol_app]
      rfl
    rw [e]
    generalize fol u (v.take i) = w1 at hfl ⊢
    refine ⟨by rw [S_len]; omega, ?_⟩
    rw [cut_last]
    refine ⟨c, rfl, hcl, ite2 (fun e => ?_) (fun e => ?_)⟩
    · have e1 := (last_is w1 (oth c)).mp (of_decide_eq_true e)
      refine ⟨by rw [S_len]; omega, some (.str ⟨#[c]⟩), ?_, rfl⟩
      show _ = [some (V.str (S (stp w1 c))), _, _]
      unfold stp
      rw [if_pos e1, ← cut_butlast]
      rfl
    · have e1 : ¬ w1.getLast? = some (oth c) := fun z => e (decide_eq_true ((last_is w1 (oth c)).mpr z))
      refine ⟨by rw [S_len]; show w1.length + 1 ≤ _; omega, some (.str ⟨#[c]⟩), ?_, rfl⟩
      show _ = [some (V.str (S (stp w1 c))), _, _]
      unfold stp
      rw [if_neg e1, ← S_cat]
      rfl
  · rintro σ' H1 ⟨y, rfl, rfl⟩
    show Q (.str (S (fol u (v.take (S v).cps.size)))) H1
    rw [show (S v).cps.size = v.length from by simp, List.take_length]
    exact q

theorem ok__law_z_signs {f : Addr} {fd : FuncData} (T : Txt K mg C_TreadError C_NoWord C_NoPlace C_NoTread C_NoPower C_NoNumber C_NoMakers C_NoWalk C_NoAnswers C_NoWishes C_NoUndo C_NoThings C_NoMatch C_TooGreat) (D__law_z_pick : Dfn P w K mg base CX0 3 "_law_z_pick" ["pen", "some"] (spPick K)) (F : Fun K "_law_z_signs" "_law_z_signs" s__law_z_signs f fd) (hm : mg "_law_z_signs" = some (.ref f)) (hb : Binds K fd ["pen"] []) : Dfn P w K mg base CX0 4 "_law_z_signs" ["pen"] (spSigns) := by
  refine Dfn.mk0 F hm hb sc__law_z_signs (fun vs H Q E h => Sp1.len h) (fun cdv A outer s H vs Q E hr hsp => ?_)
  obtain ⟨a0, rfl, h⟩ := Sp1.of hsp
  clear hsp
  have hu := hr.units
  obtain ⟨p, n, rfl, hp, hn, q⟩ := h
  refine ⟨_, (pss_one (ps_ret (pC D__law_z_pick (hr.mono (by decide)) pass0 (pa_cons (pV 0) (pa_cons (pe_lst (pa_cons pe_str (pa_cons pe_str (pa_cons pe_str (pa_cons pe_str (pa_cons pe_str (pa_cons pe_str (pa_cons pe_str (pa_cons pe_str pa_nil))))))))) pa_nil))))), ?_⟩
  refine ⟨(by show 8 ≤ sizeLine; decide), fun l nl => ⟨p, n, rfl, (same_upd nl).pen hp, hn, _, .inl (.inl (.inl upd_same)), hp.ne nl, (by intro z; cases z), (by show 8 ≤ sizeLine; decide), fun v hv H' s' hp' => ?_⟩⟩
  have e : ∃ u ∈ signsL, v = .str (S u) := by
    have hv' : v ∈ ([.str "aA", .str "abAB", .str "abAB", .str "ab", .str "abcABC", .str "cdCD", .str "abcdABCD", .str "abcdABCD"] : List V) := hv
    rw [signs_eq] at hv'
    obtain ⟨u, h1, h2⟩ := List.mem_map.mp hv'
    exact ⟨u, h1, h2.symm⟩
  obtain ⟨u, hu, rfl⟩ := e
  exact q u H' hu ((SameP.of (same_upd nl)).trans s') hp'

theorem ok__law_z_path {f : Addr} {fd : FuncData} (T : Txt K mg C_TreadError C_NoWord C_NoPlace C_NoTread C_NoPower C_NoNumber C_NoMakers C_NoWalk C_NoAnswers C_NoWishes C_NoUndo C_NoThings C_NoMatch C_TooGreat) (D__law_take : Dfn P w K mg base CX0 2 "_law_take" ["pen", "many"] (spTake)) (D__law_z_behind : Dfn P w K mg base CX0 2 "_law_z_behind" ["place", "word"] (spFollow)) (D__law_z_other : Dfn P w K mg base CX0 1 "_law_z_other" ["letter"] (spOther)) (D__law_z_pick : Dfn P w K mg base CX0 3 "_law_z_pick" ["pen", "some"] (spPick K)) (F : Fun K "_law_z_path" "_law_z_path" s__law_z_path f fd) (hm : mg "_law_z_path" = some (.ref f)) (hb : Binds K fd ["pen", "most", "signs"] []) : Dfn P w K mg base CX0 4 "_law_z_path" ["pen", "most", "signs"] (spPath) := by
  refine Dfn.mk0 F hm hb sc__law_z_path (fun vs H Q E h => Sp3.len h) (fun cdv A outer s H vs Q E hr hsp => ?_)
  obtain ⟨a0, a1, a2, rfl, h⟩ := Sp3.of hsp
  clear hsp
  have hu := hr.units
  obtain ⟨p, n, most, sg, rfl, rfl, rfl, hp, hn, hm, sg1, sg2, sg3, q⟩ := h
  have hz := sizeLine_eq
  refine ⟨_, (pss_cons (ps_asg (pe_tup (pa_cons pe_str (pa_cons pe_str pa_nil))) (pg_tup rfl (pgs_cons (pg_name (i := 3) sc__law_z_path.nd rfl (by first | exact .inl rfl | exact .inr rfl)) (pgs_cons (pg_name (i := 4) sc__law_z_path.nd rfl (by first | exact .inl rfl | exact .inr rfl)) pgs_nil))))
      (pss_cons (ps_for PassesOwn.never rfl (pi_range1 (by rfl) T.b_range (pa_cons (pC D__law_take (hr.mono (by decide)) pass0 (pa_cons (pV 0) (pa_cons (pe_op oAdd (pV 1) pe_int) pa_nil))) pa_nil)) (pg_name (i := 5) sc__law_z_path.nd rfl (by first | exact .inl rfl | exact .inr rfl)) (pss_cons (ps_set (i := 6) sc__law_z_path.nd rfl (by first | exact .inl rfl | exact .inr rfl) (pC D__law_z_pick (hr.mono (by decide)) pass0 (pa_cons (pV 0) (pa_cons (pV 2) pa_nil))))
      (pss_cons (ps_if (PW.pt (pw_and (tCm (oEq (K := K) hu) (pC D__law_take (hr.mono (by decide)) pass0 (pa_cons (pV 0) (pa_cons pe_int pa_nil))) pe_int (nomark _)) (pw_and1 (tCm (oNe (K := K) hu) (pV 4) pe_str (nomark _))))) (pss_one (ps_set (i := 6) sc__law_z_path.nd rfl (by first | exact .inl rfl | exact .inr rfl) (pC D__law_z_other (hr.mono (by decide)) pass0 (pa_cons (pe_ix (xIx (K := K)) (pV 4) (pe_un oNeg pe_int) (fun _ _ => rfl)) pa_nil)))) pss_nil)
      (pss_one (ps_par (i := 3) (j := 4) (by rfl) sc__law_z_path.nd rfl rfl (by decide) rfl rfl (pa_cons (pe_op oAdd (pV 3) (pV 6)) (pa_cons (pC D__law_z_behind (hr.mono (by decide)) pass0 (pa_cons (pV 4) (pa_cons (pV 6) pa_nil))) pa_nil)) (by rfl))))))
      (pss_one (ps_ret (pV 3))))), ?_⟩
  refine ⟨(by show 2 ≤ sizeLine; decide), fun a0 na0 => ⟨a0, _, rfl, .inl (.inl upd_same), rfl, _, _, rfl, _, _, rfl, rfl, ?_⟩⟩
  refine ⟨p, n, (most : Int) + 1, rfl, rfl, (same_upd na0).pen hp, by omega, by omega, by omega, fun r H1 r0 r1 s1 hp1 => ?_⟩
  obtain ⟨m, rfl⟩ : ∃ m : Nat, r = m := ⟨r.toNat, by omega⟩
  refine ⟨(m : Int), rfl, by omega, by omega, for_range (lo := 0) (n := m) (fun i σ' H' => ∃ (u : List Nat) (y5 y6 : Option V), σ' = [some (.ref p), some (.int (most : Nat)), some (.str (S sg)), some (.str (S u)), some (.str (S (fol [] u))), y5, y6] ∧ IsL u ∧ u.length ≤ i ∧ SameP p H H' ∧ PenAt (n + 1 + 2 * i) H' p) ⟨[], none, none, rfl, .nil, Nat.le_refl _, (SameP.of (same_upd na0)).trans s1, hp1⟩ ?_ ?_⟩
  · rintro i σ' H2 hi ⟨u, y5, y6, rfl, hu1, hul, s2, hp2⟩
    refine ⟨p, n + 1 + 2 * i, rfl, hp2, by omega, by rw [S_len]; exact List.length_pos_iff.mpr sg1, by rw [S_len]; omega, fun c hc H3 s3 hp3 => ?_⟩
    have hcl : c ∈ letC := sg2 c hc
    refine ⟨p, n + 1 + 2 * i + 1, 3, rfl, rfl, hp3, by omega, by decide, by decide, fun r3 H4 _ _ s4 hp4 => ?_⟩
    have s24 := (s2.trans s3).trans s4
    have fl : (fol [] u).length ≤ i := by
      have := fol_len (p := []) (w := u)
      simp only [List.length_nil] at this
      omega
    have fW : Xia.IsL (fol [] u) := IsL.fol .nil hu1
    have hp5 : PenAt (n + 1 + 2 * (i + 1)) H4 p := hp4.mono (by omega)
    have key : ∀ d, S u ++ S [d] = S (u ++ [d]) ∧ S (fol (fol [] u) [d]) = S (fol [] (u ++ [d])) := fun d => ⟨S_cat _ _, by rw [fol_app]⟩
    have lens : ∀ d : Nat, (S u).length + (S [d]).length ≤ sizeLine := fun d => by rw [S_len, S_len]; show u.length + 1 ≤ _; omega
    refine ite2 (fun e => ?_) (fun e => ?_)
    · refine ite2 (fun e2 => ?_) (fun e2 => ?_)
      · have hne : fol [] u ≠ [] := fun z => by
          have e3 : (!decide (S (fol [] u) = ("" : Str))) = true := e2
          rw [z] at e3
          exact absurd e3 (by decide)
        obtain ⟨w1, d, hw⟩ : ∃ w1 d, fol [] u = w1 ++ [d] := ⟨_, _, (List.dropLast_concat_getLast hne).symm⟩
        have hd : d ∈ letC := fW d (by rw [hw]; simp)
        have ho : oth d ∈ letC := oth_mem hd
        refine ⟨by rw [S_len]; omega, d, ?_, d, rfl, hd, ?_⟩
        · show atI (fol [] u) (-1) = some d
          rw [hw]
          exact atI_last w1 d
        · exact ⟨lens (oth d), fol [] u, [oth d], rfl, rfl, .one ho, by show (fol [] u).length + 1 ≤ _; omega, _, _, rfl, u ++ [oth d], some (.int ((0 : Int) + (i : Nat))), some (.str (S [oth d])), by rw [← (key (oth d)).1, ← (key (oth d)).2]; rfl, hu1.app (.one ho), by rw [List.length_append]; show u.length + 1 ≤ _; omega, s24, hp5⟩
      · exact ⟨lens (c), fol [] u, [c], rfl, rfl, .one hcl, by show (fol [] u).length + 1 ≤ _; omega, _, _, rfl, u ++ [c], some (.int ((0 : Int) + (i : Nat))), some (.str (S [c])), by rw [← (key (c)).1, ← (key (c)).2]; rfl, hu1.app (.one hcl), by rw [List.length_append]; show u.length + 1 ≤ _; omega, s24, hp5⟩
    · refine ite2 (fun e2 => by cases e2) (fun e2 => ?_)
      exact ⟨lens (c), fol [] u, [c], rfl, rfl, .one hcl, by show (fol [] u).length + 1 ≤ _; omega, _, _, rfl, u ++ [c], some (.int ((0 : Int) + (i : Nat))), some (.str (S [c])), by rw [← (key (c)).1, ← (key (c)).2]; rfl, hu1.app (.one hcl), by rw [List.length_append]; show u.length + 1 ≤ _; omega, s24, hp5⟩
  · rintro σ' H2 ⟨u, y5, y6, rfl, hu1, hul, s2, hp2⟩
    exact q u H2 hu1 (by omega) s2 (hp2.mono (by omega))

theorem ok__law_z_far {f : Addr} {fd : FuncData} (T : Txt K mg C_TreadError C_NoWord C_NoPlace C_NoTread C_NoPower C_NoNumber C_NoMakers C_NoWalk C_NoAnswers C_NoWishes C_NoUndo C_NoThings C_NoMatch C_TooGreat) (D__law_z_pick : Dfn P w K mg base CX0 3 "_law_z_pick" ["pen", "some"] (spPick K)) (F : Fun K "_law_z_far" "_law_z_far" s__law_z_far f fd) (hm : mg "_law_z_far" = some (.ref f)) (hb : Binds K fd ["pen", "many"] []) : Dfn P w K mg base CX0 4 "_law_z_far" ["pen", "many"] (spFar) := by
  refine Dfn.mk0 F hm hb sc__law_z_far (fun vs H Q E h => Sp2.len h) (fun cdv A outer s H vs Q E hr hsp => ?_)
  obtain ⟨a0, a1, rfl, h⟩ := Sp2.of hsp
  clear hsp
  have hu := hr.units
  obtain ⟨p, n, many, rfl, rfl, hp, hn, hm, q⟩ := h
  have hz := sizeLine_eq
  refine ⟨_, (pss_cons (ps_set (i := 2) sc__law_z_far.nd rfl (by first | exact .inl rfl | exact .inr rfl) (pC D__law_z_pick (hr.mono (by decide)) pass0 (pa_cons (pV 0) (pa_cons (pe_lst (pa_cons pe_str (pa_cons pe_str (pa_cons pe_str (pa_cons pe_str (pa_cons pe_str (pa_cons pe_str (pa_cons pe_str pa_nil)))))))) pa_nil))))
      (pss_one (ps_ret (pe_slice (sSl (K := K)) (pe_op oMul (pV 2) (pV 1)) po_none (oPart (pV 1)))))), ?_⟩
  refine ⟨(by show 7 ≤ sizeLine; decide), fun l nl => ⟨p, n, rfl, (same_upd nl).pen hp, hn, _, .inl (.inl (.inl upd_same)), hp.ne nl, (by intro z; cases z), (by show 7 ≤ sizeLine; decide), fun v hv H' s' hp' => ?_⟩⟩
  have hv' : v ∈ ([.str "a", .str "B", .str "ab", .str "cD", .str "dCb", .str "aBcdB", .str "AbAc"] : List V) := hv
  rw [rows_eq] at hv'
  obtain ⟨u, hu, rfl⟩ := List.mem_map.mp hv'
  obtain ⟨u1, u2, u3, u4⟩ := rows_ok u hu
  have ul : 0 < u.length := List.length_pos_iff.mpr u1
  have lr : (rep u many).length = many * u.length := rep_len u many
  have lr2 : many ≤ many * u.length := Nat.le_mul_of_pos_right _ ul
  have lr3 : many * u.length ≤ 6000 * 5 := Nat.mul_le_mul hm u2
  have em : Txt.mul (S u) (many : Int) = S (rep u many) := by
    rw [mul_S u (by omega), Int.toNat_natCast]
  refine ⟨mulOk (by omega) (by omega) ?_ (by rw [S_len]; omega), ?_⟩
  · rw [S_len, Int.toNat_natCast, Nat.mul_comm]
    omega
  show ((Txt.mul (S u) (many : Int)).length ≤ sizeLine ∧ _)
  rw [em]
  refine ⟨by rw [S_len]; omega, ?_⟩
  show Q (.str (cutS (S (rep u many)) none (some (many : Int)))) H'
  rw [cut_to _ (by omega), Int.toNat_natCast]
  refine q _ H' ((rep_l u3 many).take many) (isP_take (rep_isP u4 u1 many) many) ?_ ((SameP.of (same_upd nl)).trans s') hp'
  rw [List.length_take]
  omega

theorem ok__law_z_odd {f : Addr} {fd : FuncData} (T : Txt K mg C_TreadError C_NoWord C_NoPlace C_NoTread C_NoPower C_NoNumber C_NoMakers C_NoWalk C_NoAnswers C_NoWishes C_NoUndo C_NoThings C_NoMatch C_TooGreat) (D__law_z_pick : Dfn P w K mg base CX0 3 "_law_z_pick" ["pen", "some"] (spPick K)) (D__law_take : Dfn P w K mg base CX0 2 "_law_take" ["pen", "many"] (spTake)) (F : Fun K "_law_z_odd" "_law_z_odd" s__law_z_odd f fd) (hm : mg "_law_z_odd" = some (.ref f)) (hb : Binds K fd ["pen", "word"] []) : Dfn P w K mg base CX0 4 "_law_z_odd" ["pen", "word"] (spOdd K) := by
  refine Dfn.mk0 F hm hb sc__law_z_odd (fun vs H Q E h => Sp2.len h) (fun cdv A outer s H vs Q E hr hsp => ?_)
  obtain ⟨a0, a1, rfl, h⟩ := Sp2.of hsp
  clear hsp
  have hu := hr.units
  obtain ⟨p, n, u, rfl, rfl, hp, hn, hu1, hul, q⟩ := h
  have hz := sizeLine_eq
  have hsg : ∀ c ∈ ("!#$&'()*+,-./0123456789:;<=>?@EFGHIJKLMNOPQRSTUVWXYZ[]^_efghijklmnopqrstuvwxyz{}~ " : Str).cps.toList, c ∉ letC := by decide +kernel
  refine ⟨_, (pss_cons (ps_set (i := 2) sc__law_z_odd.nd rfl (by first | exact .inl rfl | exact .inr rfl) pe_str)
      (pss_cons (ps_par (i := 3) (j := 4) (by rfl) sc__law_z_odd.nd rfl rfl (by decide) rfl rfl (pa_cons (pC D__law_take (hr.mono (by decide)) pass0 (pa_cons (pV 0) (pa_cons (pe_op oAdd (pe_callB (cLen (K := K)) (by rfl) T.b_len PySem.boot_len (pa_cons (pV 1) pa_nil)) pe_int) pa_nil))) (pa_cons (pC D__law_z_pick (hr.mono (by decide)) pass0 (pa_cons (pV 0) (pa_cons (pV 2) pa_nil))) pa_nil)) (by rfl))
      (pss_cons (ps_set (i := 5) sc__law_z_odd.nd rfl (by first | exact .inl rfl | exact .inr rfl) (pe_op oAdd (pe_op oAdd (pe_slice (sSl (K := K)) (pV 1) po_none (oPart (pV 3))) (pV 4)) (pe_slice (sSl (K := K)) (pV 1) (oPart (pV 3)) po_none)))
      (pss_cons (ps_set (i := 6) sc__law_z_odd.nd rfl (by first | exact .inl rfl | exact .inr rfl) (pe_lst (pa_cons pe_non (pa_cons pe_int (pa_cons pe_bl (pa_cons (pe_lst pa_nil) (pa_cons (pe_tup pa_nil) (pa_cons pe_dnewK (pa_cons (pe_lst (pa_cons (pV 1) pa_nil)) (pa_cons (pe_tup (pa_cons (pV 1) pa_nil)) (pa_cons pe_int (pa_cons (pV 5) (pa_cons (pV 5) (pa_cons (pV 5) (pa_cons (pV 5) (pa_cons (pV 5) pa_nil))))))))))))))))
      (pss_one (ps_ret (pC D__law_z_pick (hr.mono (by decide)) pass0 (pa_cons (pV 0) (pa_cons (pV 6) pa_nil))))))))), ?_⟩
  refine ⟨by rw [S_len]; omega, p, n, _, rfl, rfl, hp, by omega, by rw [S_len]; omega, by rw [S_len]; omega, fun r H1 r0 r1 s1 hp1 => ?_⟩
  rw [S_len] at r1
  refine ⟨p, n + 1, rfl, hp1, by omega, by decide, by decide, fun c hc H2 s2 hp2 => ?_⟩
  have hcn := hsg c hc
  have l1 : (u.take r.toNat).length ≤ 300 := by rw [List.length_take]; omega
  have l2 : (u.drop r.toNat).length ≤ 300 := by rw [List.length_drop]; omega
  have e1 : cutS (S u) none (some r) = S (u.take r.toNat) := cut_to u r0
  have e2 : cutS (S u) (some r) none = S (u.drop r.toNat) := cut_from u r0
  have e3 : S (u.take r.toNat) ++ S [c] = S (u.take r.toNat ++ [c]) := S_cat _ _
  have e4 : S (u.take r.toNat ++ [c]) ++ S (u.drop r.toNat) = S (u.take r.toNat ++ [c] ++ u.drop r.toNat) := S_cat _ _
  have hzz : ∀ P : Str → Prop, P (S (u.take r.toNat ++ [c] ++ u.drop r.toNat)) → P (cutS (S u) none (some r) ++ S [c] ++ cutS (S u) (some r) none) := fun P h => by rw [e1, e2, e3, e4]; exact h
  refine ⟨_, _, rfl, ?_⟩
  refine ⟨by rw [S_len]; omega, ?_, by rw [S_len]; omega, ?_, ?_⟩
  · rw [e1, S_len]
    show (u.take r.toNat).length + 1 ≤ _
    omega
  · rw [e1, e2]
    show (S (u.take r.toNat) ++ S [c]).length + (S (u.drop r.toNat)).length ≤ _
    rw [e3, S_len, S_len, List.length_append]
    show (u.take r.toNat).length + 1 + _ ≤ _
    omega
  generalize hzd : cutS (S u) none (some r) ++ ⟨#[c]⟩ ++ cutS (S u) (some r) none = zz
  have zw : isW zz = false ∧ zz.length ≤ 1000 := by
    rw [← hzd]
    refine hzz (fun x => isW x = false ∧ x.length ≤ 1000) ⟨Bool.eq_false_iff.mpr fun z => hcn (of_isW z c (by simp)), ?_⟩
    rw [S_len, List.length_append, List.length_append]
    show _ + 1 + _ ≤ _
    omega
  refine ⟨(by show 0 ≤ sizeLine; decide), fun a1 na1 => ⟨(by show 0 ≤ sizeLine; decide), fun a2 na2 => fun a3 na3 => ⟨(by show 1 ≤ sizeLine; decide), fun a4 na4 => ⟨(by show 1 ≤ sizeLine; decide), fun a5 na5 => ⟨(by show 14 ≤ sizeLine; decide), fun a6 na6 => ?_⟩⟩⟩⟩⟩
  generalize hg1 : upd H2 a1 _ = G1 at na2 na3 na4 na5 na6 ⊢
  generalize hg2 : upd G1 a2 _ = G2 at na3 na4 na5 na6 ⊢
  generalize hg3 : upd G2 a3 _ = G3 at na4 na5 na6 ⊢
  generalize hg4 : upd G3 a4 _ = G4 at na5 na6 ⊢
  generalize hg5 : upd G4 a5 _ = G5 at na6 ⊢
  have t1 : Same H2 G1 := by rw [← hg1]; exact same_upd na1
  have t2 : Same G1 G2 := by rw [← hg2]; exact same_upd na2
  have t3 : Same G2 G3 := by rw [← hg3]; exact same_upd na3
  have t4 : Same G3 G4 := by rw [← hg4]; exact same_upd na4
  have t5 : Same G4 G5 := by rw [← hg5]; exact same_upd na5
  have o1 : G1 a1 = some (.lst []) := by rw [← hg1]; exact upd_same
  have o2 : G2 a2 = some (.tup []) := by rw [← hg2]; exact upd_same
  have o3 : G3 a3 = some (.dK []) := by rw [← hg3]; exact upd_same
  have o4 : G4 a4 = some (.lst [.str (S u)]) := by rw [← hg4]; exact upd_same
  have o5 : G5 a5 = some (.tup [.str (S u)]) := by rw [← hg5]; exact upd_same
  have q1 : PenAt (n + 2) G1 p := t1.pen hp2
  have q2 : PenAt (n + 2) G2 p := t2.pen q1
  have q3 : PenAt (n + 2) G3 p := t3.pen q2
  have q4 : PenAt (n + 2) G4 p := t4.pen q3
  have q5 : PenAt (n + 2) G5 p := t5.pen q4
  have d1 := hp2.ne na1
  have d2 := q1.ne na2
  have d3 := q2.ne na3
  have d4 := q3.ne na4
  have d5 := q4.ne na5
  refine ⟨p, n + 2, rfl, (same_upd na6).pen q5, by omega, _, .inl (.inl (.inl upd_same)), q5.ne na6, (by intro z; cases z), (by show 14 ≤ sizeLine; decide), fun v hv H3 s3 hp3 => ?_⟩
  have s5 : SameP p G5 H3 := (SameP.of (same_upd na6)).trans s3
  have s4 := (SameP.of (p := p) t5).trans s5
  have s3' := (SameP.of (p := p) t4).trans s4
  have s2' := (SameP.of (p := p) t3).trans s3'
  have s1' := (SameP.of (p := p) t2).trans s2'
  refine q v H3 ?_ ((s1.trans s2).trans ((SameP.of (p := p) t1).trans s1')) hp3
  have hv : v ∈ ([.non, .int 0, .bl true, .ref a1, .ref a2, .ref a3, .ref a4, .ref a5, .int 7, .str zz, .str zz, .str zz, .str zz, .str zz] : List V) := hv
  simp only [List.mem_cons, List.not_mem_nil, or_false] at hv
  rcases hv with rfl | rfl | rfl | rfl | rfl | rfl | rfl | rfl | rfl | rfl | rfl | rfl | rfl | rfl
  · exact .inr ⟨⟨_, .base .non, kit_ty (by decide +kernel)⟩, fun a z => by cases z⟩
  · exact .inr ⟨⟨_, .base (.int 0), kit_ty (by decide +kernel)⟩, fun a z => by cases z⟩
  · exact .inr ⟨⟨_, .base (.bl true), kit_ty (by decide +kernel)⟩, fun a z => by cases z⟩
  · exact .inr ⟨⟨_, .base (.lst (s1' _ _ d1 o1)), kit_ty (by decide +kernel)⟩, fun a z => by cases z; exact ⟨d1, _, s1' _ _ d1 o1, by intro ps z; cases z⟩⟩
  · exact .inr ⟨⟨_, .base (.tup (s2' _ _ d2 o2)), kit_ty (by decide +kernel)⟩, fun a z => by cases z; exact ⟨d2, _, s2' _ _ d2 o2, by intro ps z; cases z⟩⟩
  · exact .inr ⟨⟨_, .base (.dK (s3' _ _ d3 o3)), kit_ty (by decide +kernel)⟩, fun a z => by cases z; exact ⟨d3, _, s3' _ _ d3 o3, by intro ps z; cases z⟩⟩
  · exact .inr ⟨⟨_, .base (.lst (s4 _ _ d4 o4)), kit_ty (by decide +kernel)⟩, fun a z => by cases z; exact ⟨d4, _, s4 _ _ d4 o4, by intro ps z; cases z⟩⟩
  · exact .inr ⟨⟨_, .base (.tup (s5 _ _ d5 o5)), kit_ty (by decide +kernel)⟩, fun a z => by cases z; exact ⟨d5, _, s5 _ _ d5 o5, by intro ps z; cases z⟩⟩
  · exact .inr ⟨⟨_, .base (.int 7), kit_ty (by decide +kernel)⟩, fun a z => by cases z⟩
  · exact .inl ⟨_, rfl, zw.1, zw.2⟩
  · exact .inl ⟨_, rfl, zw.1, zw.2⟩
  · exact .inl ⟨_, rfl, zw.1, zw.2⟩
  · exact .inl ⟨_, rfl, zw.1, zw.2⟩
  · exact .inl ⟨_, rfl, zw.1, zw.2⟩

theorem ok__law_z_error {f : Addr} {fd : FuncData} (T : Txt K mg C_TreadError C_NoWord C_NoPlace C_NoTread C_NoPower C_NoNumber C_NoMakers C_NoWalk C_NoAnswers C_NoWishes C_NoUndo C_NoThings C_NoMatch C_TooGreat) (F : Fun K "_law_z_error" "_law_z_error" s__law_z_error f fd) (hm : mg "_law_z_error" = some (.ref f)) (hb : Binds K fd ["act"] []) (hkit : kitTab K [.ref C_NoWord, .ref C_NoPlace, .ref C_NoTread, .ref C_NoPower, .ref C_TooGreat, .ref C_NoMatch, .ref C_NoNumber, .ref C_NoMakers, .ref C_NoWalk, .ref C_NoAnswers, .ref C_NoWishes, .ref C_NoUndo, .ref C_NoThings] [.ref C_NoWord, .ref C_NoPlace, .ref C_NoTread, .ref C_NoPower, .ref C_TooGreat, .ref C_NoMatch, .ref C_NoNumber, .ref C_NoMakers, .ref C_NoWalk, .ref C_NoAnswers, .ref C_NoWishes, .ref C_NoUndo, .ref C_NoThings, .type "ValueError"] [[true, false, false, false, false, false, false, false, false, false, false, false, false, true], [false, true, false, false, false, false, false, false, false, false, false, false, false, true], [false, false, true, false, false, false, false, false, false, false, false, false, false, true], [false, false, false, true, false, false, false, false, false, false, false, false, false, true], [false, false, false, false, true, false, false, false, false, false, false, false, false, true], [false, false, false, false, false, true, false, false, false, false, false, false, false, true], [false, false, false, false, false, false, true, false, false, false, false, false, false, true], [false, false, false, false, false, false, false, true, false, false, false, false, false, true], [false, false, false, false, false, false, false, false, true, false, false, false, false, true], [false, false, false, false, false, false, false, false, false, true, false, false, false, true], [false, false, false, false, false, false, false, false, false, false, true, false, false, true], [false, false, false, false, false, false, false, false, false, false, false, true, false, true], [false, false, false, false, false, false, false, false, false, false, false, false, true, true]] = true) (hsub : ([C_NoWord, C_NoPlace, C_NoTread, C_NoPower, C_TooGreat, C_NoMatch, C_NoNumber, C_NoMakers, C_NoWalk, C_NoAnswers, C_NoWishes, C_NoUndo, C_NoThings] : List Addr).all (fun D => PySem.W.subIn K (.ref D) (.ref C_TreadError) == some true) = true) : LamD P w K mg base 1 "_law_z_error" "act" (TTerr (([C_NoWord, C_NoPlace, C_NoTread, C_NoPower, C_TooGreat, C_NoMatch, C_NoNumber, C_NoMakers, C_NoWalk, C_NoAnswers, C_NoWishes, C_NoUndo, C_NoThings] : List Addr).zip errW)) := by
  refine LamD.mk0 F hm hb sc__law_z_error rfl (.inl rfl) (fun X cdv q e1 e2 e3 e4 e5 hr => ?_)
  subst e1 e2 e3 e4 e5
  intro f' c' s H Q tl act hco h
  have hr := hr.deeper (envOfC "_law_z_error" (defScope s__law_z_error) s.heap.objs.size f cdv)
  have hu := hr.units
  have hz := sizeLine_eq
  have cs : List.length [C_NoWord, C_NoPlace, C_NoTread, C_NoPower, C_TooGreat, C_NoMatch, C_NoNumber, C_NoMakers, C_NoWalk, C_NoAnswers, C_NoWishes, C_NoUndo, C_NoThings] = 13 := rfl
  refine ⟨_, (pss_cons (ps_set (i := 1) sc__law_z_error.nd rfl (by first | exact .inl rfl | exact .inr rfl) pe_non)
      (pss_cons (sCatch (i := 2) (Wout := fun _ _ _ _ => False) rfl rfl rfl sc__law_z_error.nd rfl rfl (T.x_TreadError.names' rfl rfl) LamX.takes0 (fun W pn xe tk _ => (pss_one (ps_expr (pAct act tk)))) (fun _ _ => (pss_one (ps_set (i := 1) sc__law_z_error.nd rfl (by first | exact .inl rfl | exact .inr rfl) (pV 2)))))
      (pss_cons (ps_if (tCm oIs (pV 1) pe_non (nomark _)) (pss_one (ps_ret pe_str)) pss_nil)
      (pss_cons (ps_set (i := 3) sc__law_z_error.nd rfl (by first | exact .inl rfl | exact .inr rfl) (pe_lst (pa_cons (pe_callB (cIs (K := X.K)) (by rfl) T.b_isinstance (by decide +kernel) (pa_cons (pV 1) (pa_cons (pe_glob (v := .ref _) rfl T.x_NoWord.gC rfl) pa_nil))) (pa_cons (pe_callB (cIs (K := X.K)) (by rfl) T.b_isinstance (by decide +kernel) (pa_cons (pV 1) (pa_cons (pe_glob (v := .ref _) rfl T.x_NoPlace.gC rfl) pa_nil))) (pa_cons (pe_callB (cIs (K := X.K)) (by rfl) T.b_isinstance (by decide +kernel) (pa_cons (pV 1) (pa_cons (pe_glob (v := .ref _) rfl T.x_NoTread.gC rfl) pa_nil))) pa_nil)))))
      (pss_cons (ps_set (i := 3) sc__law_z_error.nd rfl (by first | exact .inl rfl | exact .inr rfl) (pe_op oAdd (pV 3) (pe_lst (pa_cons (pe_callB (cIs (K := X.K)) (by rfl) T.b_isinstance (by decide +kernel) (pa_cons (pV 1) (pa_cons (pe_glob (v := .ref _) rfl T.x_NoPower.gC rfl) pa_nil))) (pa_cons (pe_callB (cIs (K := X.K)) (by rfl) T.b_isinstance (by decide +kernel) (pa_cons (pV 1) (pa_cons (pe_glob (v := .ref _) rfl T.x_TooGreat.gC rfl) pa_nil))) (pa_cons (pe_callB (cIs (K := X.K)) (by rfl) T.b_isinstance (by decide +kernel) (pa_cons (pV 1) (pa_cons (pe_glob (v := .ref _) rfl T.x_NoMatch.gC rfl) pa_nil))) pa_nil))))))
      (pss_cons (ps_set (i := 3) sc__law_z_error.nd rfl (by first | exact .inl rfl | exact .inr rfl) (pe_op oAdd (pV 3) (pe_lst (pa_cons (pe_callB (cIs (K := X.K)) (by rfl) T.b_isinstance (by decide +kernel) (pa_cons (pV 1) (pa_cons (pe_glob (v := .ref _) rfl T.x_NoNumber.gC rfl) pa_nil))) (pa_cons (pe_callB (cIs (K := X.K)) (by rfl) T.b_isinstance (by decide +kernel) (pa_cons (pV 1) (pa_cons (pe_glob (v := .ref _) rfl T.x_NoMakers.gC rfl) pa_nil))) (pa_cons (pe_callB (cIs (K := X.K)) (by rfl) T.b_isinstance (by decide +kernel) (pa_cons (pV 1) (pa_cons (pe_glob (v := .ref _) rfl T.x_NoWalk.gC rfl) pa_nil))) pa_nil))))))
      (pss_cons (ps_set (i := 3) sc__law_z_error.nd rfl (by first | exact .inl rfl | exact .inr rfl) (pe_op oAdd (pV 3) (pe_lst (pa_cons (pe_callB (cIs (K := X.K)) (by rfl) T.b_isinstance (by decide +kernel) (pa_cons (pV 1) (pa_cons (pe_glob (v := .ref _) rfl T.x_NoAnswers.gC rfl) pa_nil))) (pa_cons (pe_callB (cIs (K := X.K)) (by rfl) T.b_isinstance (by decide +kernel) (pa_cons (pV 1) (pa_cons (pe_glob (v := .ref _) rfl T.x_NoWishes.gC rfl) pa_nil))) (pa_cons (pe_callB (cIs (K := X.K)) (by rfl) T.b_isinstance (by decide +kernel) (pa_cons (pV 1) (pa_cons (pe_glob (v := .ref _) rfl T.x_NoUndo.gC rfl) pa_nil))) pa_nil))))))
      (pss_cons (ps_expr (pe_bm PySem.F.plainAttrs_list PySem.F.slot_list_append PySem.F.type_list_append mt_append (pV 3) (pa_cons (pe_callB (cIs (K := X.K)) (by rfl) T.b_isinstance (by decide +kernel) (pa_cons (pV 1) (pa_cons (pe_glob (v := .ref _) rfl T.x_NoThings.gC rfl) pa_nil))) pa_nil)))
      (pss_cons (ps_set (i := 4) sc__law_z_error.nd rfl (by first | exact .inl rfl | exact .inr rfl) (pe_op oAdd (pe_lst (pa_cons pe_str (pa_cons pe_str (pa_cons pe_str (pa_cons pe_str (pa_cons pe_str pa_nil)))))) (pe_op oMul (pe_lst (pa_cons pe_str pa_nil)) pe_int)))
      (pss_one (ps_ret (pe_ifExp (PW.pt (pw_and (tCm (oEq (K := X.K) hu) (pe_bm PySem.F.plainAttrs_list PySem.F.slot_list_count PySem.F.type_list_count (mt_countB (K := X.K)) (pV 3) (pa_cons pe_bl pa_nil)) pe_int (nomark _)) (pw_and1 (tVal (pe_callB (cIs (K := X.K)) (by rfl) T.b_isinstance (by decide +kernel) (pa_cons (pV 1) (pa_cons (pe_bltn (v := .ty "ValueError") rfl T.b_ValueError (by decide +kernel) rfl) pa_nil))))))) (pe_ix (xIx (K := X.K)) (pV 4) (pe_bm PySem.F.plainAttrs_list PySem.F.slot_list_index PySem.F.type_list_index mt_index (pV 3) (pa_cons pe_bl pa_nil)) (fun _ _ => rfl)) pe_str)))))))))))), ?_⟩
  refine ⟨fun cls d H' => d = none ∧ ∃ (D : Addr) (z : Str), cls = .ref D ∧ (D, z) ∈ (([C_NoWord, C_NoPlace, C_NoTread, C_NoPower, C_TooGreat, C_NoMatch, C_NoNumber, C_NoMakers, C_NoWalk, C_NoAnswers, C_NoWishes, C_NoUndo, C_NoThings] : List Addr).zip errW) ∧ ∀ H'', Same H' H'' → Q (.str z) H'', fun cls d σ' H' hl he => ?_, rfl, hco, ?_⟩
  rotate_left
  · refine Eq.mp (congrArg (tl _ H) ?_) h
    funext v H'
    rfl
  obtain ⟨rfl, D, z, rfl, hm, hq⟩ := he
  obtain ⟨j, hD0, hz0⟩ := zip_at hm
  have hj : j < 13 := (List.getElem?_eq_some_iff.mp hD0).1
  obtain ⟨y0, y1, y2, y3, y4, rfl⟩ : ∃ y0 y1 y2 y3 y4, σ' = [y0, y1, y2, y3, y4] := by
    match σ', hl with
    | [y0, y1, y2, y3, y4], _ => exact ⟨y0, y1, y2, y3, y4, rfl⟩
  have hsD : PySem.W.subIn X.K (.ref D) (.ref C_TreadError) = some true := eq_of_beq (List.all_eq_true.mp hsub D (List.mem_of_getElem? hD0))
  have hD := row_c (ys := []) (x := []) hD0
  have hrow : ∀ j, j < 13 → ([[true, false, false, false, false, false, false, false, false, false, false, false, false, true], [false, true, false, false, false, false, false, false, false, false, false, false, false, true], [false, false, true, false, false, false, false, false, false, false, false, false, false, true], [false, false, false, true, false, false, false, false, false, false, false, false, false, true], [false, false, false, false, true, false, false, false, false, false, false, false, false, true], [false, false, false, false, false, true, false, false, false, false, false, false, false, true], [false, false, false, false, false, false, true, false, false, false, false, false, false, true], [false, false, false, false, false, false, false, true, false, false, false, false, false, true], [false, false, false, false, false, false, false, false, true, false, false, false, false, true], [false, false, false, false, false, false, false, false, false, true, false, false, false, true], [false, false, false, false, false, false, false, false, false, false, true, false, false, true], [false, false, false, false, false, false, false, false, false, false, false, true, false, true], [false, false, false, false, false, false, false, false, false, false, false, false, true, true]] : List (List Bool))[j]? = some (((List.range 13).map fun t => decide (t = j)) ++ [true]) := by decide
  have cD : ExcC X.K D := by
    match j, hj, hD0 with
    | 0, _, h => cases h; exact T.x_NoWord.cls
    | 1, _, h => cases h; exact T.x_NoPlace.cls
    | 2, _, h => cases h; exact T.x_NoTread.cls
    | 3, _, h => cases h; exact T.x_NoPower.cls
    | 4, _, h => cases h; exact T.x_TooGreat.cls
    | 5, _, h => cases h; exact T.x_NoMatch.cls
    | 6, _, h => cases h; exact T.x_NoNumber.cls
    | 7, _, h => cases h; exact T.x_NoMakers.cls
    | 8, _, h => cases h; exact T.x_NoWalk.cls
    | 9, _, h => cases h; exact T.x_NoAnswers.cls
    | 10, _, h => cases h; exact T.x_NoWishes.cls
    | 11, _, h => cases h; exact T.x_NoUndo.cls
    | 12, _, h => cases h; exact T.x_NoThings.cls
    | _ + 13, h, _ => omega
  refine ⟨true, PySem.W.exm_ref T.x_TreadError.sub T.x_TreadError.cls.hd T.x_TreadError.ty hsD, fun _ => ⟨D, rfl, rfl, fun a na => ?_⟩, fun z => by cases z⟩
  generalize hg : upd H' a (ExK D a) = G
  have s1 : Same H' G := by rw [← hg]; exact same_upd na
  have x1 : ExAt G a D := by rw [← hg]; exact .inr upd_same
  clear hg
  have hcol : ∀ (i : Nat) (C : Addr) (G' : Hp) (Q' : VK), ([C_NoWord, C_NoPlace, C_NoTread, C_NoPower, C_TooGreat, C_NoMatch, C_NoNumber, C_NoMakers, C_NoWalk, C_NoAnswers, C_NoWishes, C_NoUndo, C_NoThings] : List Addr)[i]? = some C → ExAt G' a D → Q' (.bl (decide (i = j))) G' → rIs X.K [.ref a, .ref C] G' Q' := by
    intro i C G' Q' hC hx hQ
    have hi : i < 13 := (List.getElem?_eq_some_iff.mp hC).1
    refine .inr ⟨a, D, _, _, decide (i = j), rfl, .own _, hx, cD, kitTab_at hkit (i := j) (j := i) hD (hrow j hj) (row_c (ys := [.type "ValueError"]) (x := []) hC) (row_b ?_), hQ⟩
    rw [List.getElem?_map, List.getElem?_range hi]
    rfl
  refine hcol 0 _ _ _ rfl x1 ?_
  refine hcol 1 _ _ _ rfl x1 ?_
  refine hcol 2 _ _ _ rfl x1 ?_
  refine ⟨(by show 3 ≤ sizeLine; decide), fun l1 n1 => ?_⟩
  generalize hg : upd G l1 _ = G1
  have s2 : Same H' G1 := by rw [← hg]; exact s1.trans (same_upd n1)
  have x2 : ExAt G1 a D := by rw [← hg]; exact x1.same (same_upd n1)
  have o2 : G1 l1 = some (.lst [.bl (decide (0 = j)), .bl (decide (1 = j)), .bl (decide (2 = j))]) := by rw [← hg]; exact upd_same
  clear hg
  refine hcol 3 _ _ _ rfl x2 ?_
  refine hcol 4 _ _ _ rfl x2 ?_
  refine hcol 5 _ _ _ rfl x2 ?_
  refine ⟨(by show 3 ≤ sizeLine; decide), fun m1 nm1 => ⟨_, _, (same_upd nm1) _ _ o2, upd_same, (by show 6 ≤ sizeLine; decide), fun l2 nn1 => ?_⟩⟩
  generalize hg : upd (upd G1 m1 _) l2 _ = G2
  have t1 : Same G1 G2 := by rw [← hg]; exact (same_upd nm1).trans (same_upd nn1)
  have s3 : Same H' G2 := s2.trans t1
  have x3 : ExAt G2 a D := x2.same t1
  have o3 : G2 l2 = some (.lst [.bl (decide (0 = j)), .bl (decide (1 = j)), .bl (decide (2 = j)), .bl (decide (3 = j)), .bl (decide (4 = j)), .bl (decide (5 = j))]) := by rw [← hg]; exact upd_same
  clear hg
  refine hcol 6 _ _ _ rfl x3 ?_
  refine hcol 7 _ _ _ rfl x3 ?_
  refine hcol 8 _ _ _ rfl x3 ?_
  refine ⟨(by show 3 ≤ sizeLine; decide), fun m2 nm2 => ⟨_, _, (same_upd nm2) _ _ o3, upd_same, (by show 9 ≤ sizeLine; decide), fun l3 nn2 => ?_⟩⟩
  generalize hg : upd (upd G2 m2 _) l3 _ = G3
  have t2 : Same G2 G3 := by rw [← hg]; exact (same_upd nm2).trans (same_upd nn2)
  have s4 : Same H' G3 := s3.trans t2
  have x4 : ExAt G3 a D := x3.same t2
  have o4 : G3 l3 = some (.lst [.bl (decide (0 = j)), .bl (decide (1 = j)), .bl (decide (2 = j)), .bl (decide (3 = j)), .bl (decide (4 = j)), .bl (decide (5 = j)), .bl (decide (6 = j)), .bl (decide (7 = j)), .bl (decide (8 = j))]) := by rw [← hg]; exact upd_same
  clear hg
  refine hcol 9 _ _ _ rfl x4 ?_
  refine hcol 10 _ _ _ rfl x4 ?_
  refine hcol 11 _ _ _ rfl x4 ?_
  refine ⟨(by show 3 ≤ sizeLine; decide), fun m3 nm3 => ⟨_, _, (same_upd nm3) _ _ o4, upd_same, (by show 12 ≤ sizeLine; decide), fun l4 nn3 => ?_⟩⟩
  generalize hg : upd (upd G3 m3 _) l4 _ = G4
  have t3 : Same G3 G4 := by rw [← hg]; exact (same_upd nm3).trans (same_upd nn3)
  have s5 : Same H' G4 := s4.trans t3
  have x5 : ExAt G4 a D := x4.same t3
  have o5 : G4 l4 = some (.lst [.bl (decide (0 = j)), .bl (decide (1 = j)), .bl (decide (2 = j)), .bl (decide (3 = j)), .bl (decide (4 = j)), .bl (decide (5 = j)), .bl (decide (6 = j)), .bl (decide (7 = j)), .bl (decide (8 = j)), .bl (decide (9 = j)), .bl (decide (10 = j)), .bl (decide (11 = j))]) := by rw [← hg]; exact upd_same
  clear hg
  refine ⟨.inl ⟨rfl, _, .inl (.inl o5)⟩, ?_⟩
  refine hcol 12 _ _ _ rfl x5 ?_
  refine ⟨l4, _, _, rfl, rfl, o5, (by show 12 < sizeLine; decide), ?_⟩
  have hla : l4 ≠ a := by
    rcases x5 with z | z
    · exact ne_of o5 z (by intro z; cases z)
    · exact ne_of o5 z (by intro z; cases z)
  generalize hg : upd G4 l4 _ = G5
  have x6 : ExAt G5 a D := by rw [← hg]; exact x5.sameP sameP_upd (Ne.symm hla)
  have o6 : G5 l4 = some (.lst (([decide (0 = j), decide (1 = j), decide (2 = j), decide (3 = j), decide (4 = j), decide (5 = j), decide (6 = j), decide (7 = j), decide (8 = j), decide (9 = j), decide (10 = j), decide (11 = j), decide (12 = j)] : List Bool).map V.bl)) := by rw [← hg]; exact upd_same
  have s6 : Same H' G5 := by rw [← hg]; exact s5.upd_new (s4.free (none_of_upd nn3).1)
  clear hg
  refine ⟨(by show 5 ≤ sizeLine; decide), fun w1 nw1 => ⟨(by show 1 ≤ sizeLine; decide), fun w2 nw2 => ⟨_, upd_same, by decide, by decide, (by show 1 * 8 ≤ sizeLine; decide), fun w3 nw3 => ⟨[.str "word", .str "place", .str "tread", .str "power", .str "great"], _, ?_, upd_same, (by show 5 + 8 ≤ sizeLine; decide), fun w4 nw4 => ?_⟩⟩⟩⟩
  · exact ((same_upd nw2).trans (same_upd nw3)) _ _ upd_same
  generalize hg : upd (upd (upd (upd G5 w1 _) w2 _) w3 _) w4 _ = G6
  have t6 : Same G5 G6 := by rw [← hg]; exact (((same_upd nw1).trans (same_upd nw2)).trans (same_upd nw3)).trans (same_upd nw4)
  have o7 : G6 w4 = some (.lst (errW.map V.str)) := by rw [← hg, upd_same]; rfl
  clear hg
  have cnt : ∀ j < 13, ([decide (0 = j), decide (1 = j), decide (2 = j), decide (3 = j), decide (4 = j), decide (5 = j), decide (6 = j), decide (7 = j), decide (8 = j), decide (9 = j), decide (10 = j), decide (11 = j), decide (12 = j)] : List Bool).count true = 1 := by decide
  refine ⟨.inl ⟨rfl, _, .inl (.inl (t6 _ _ o6))⟩, _, _, rfl, rfl, .inl (.inl (t6 _ _ o6)), ?_⟩
  rw [cnt j hj]
  refine .inr ⟨a, D, _, _, true, rfl, .ty _, x6.same t6, cD, kitTab_at hkit (i := j) (j := 13) hD (hrow j hj) rfl rfl, ?_⟩
  have at1 : ∀ j < 13, (([decide (0 = j), decide (1 = j), decide (2 = j), decide (3 = j), decide (4 = j), decide (5 = j), decide (6 = j), decide (7 = j), decide (8 = j), decide (9 = j), decide (10 = j), decide (11 = j), decide (12 = j)] : List Bool))[j]? = some true ∧ ∀ m < j, (([decide (0 = j), decide (1 = j), decide (2 = j), decide (3 = j), decide (4 = j), decide (5 = j), decide (6 = j), decide (7 = j), decide (8 = j), decide (9 = j), decide (10 = j), decide (11 = j), decide (12 = j)] : List Bool))[m]? = some false := by decide
  obtain ⟨b1, b2⟩ := at1 j hj
  refine ⟨.inl ⟨rfl, _, .inl (.inl (t6 _ _ o6))⟩, l4, _, .bl true, j, .bl true, rfl, rfl, .inl (.inl (t6 _ _ o6)), rfl, ?_, ?_, rfl, fun m z hm hzm => ?_, ?_⟩
  · rw [List.all_map]
    exact List.all_eq_true.mpr fun _ _ => rfl
  · rw [List.getElem?_map, b1]
    rfl
  · rw [List.getElem?_map, b2 m hm] at hzm
    cases hzm
    rfl
  · refine ⟨_, _, .inl (.inl (.inl o7)), atI_nat (by rw [List.getElem?_map, hz0]; rfl), hq G6 (s6.trans t6)⟩

theorem ok__law_z_refused_right {f : Addr} {fd : FuncData} (T : Txt K mg C_TreadError C_NoWord C_NoPlace C_NoTread C_NoPower C_NoNumber C_NoMakers C_NoWalk C_NoAnswers C_NoWishes C_NoUndo C_NoThings C_NoMatch C_TooGreat) (D_is_word : Dfn P w K mg base CX0 1 "is_word" ["thing"] (spIsWord K)) (D_is_place : Dfn P w K mg base CX0 2 "is_place" ["thing"] (spIsPlace K)) (D__law_z_error : LamD P w K mg base 1 "_law_z_error" "act" (TTerr (([C_NoWord, C_NoPlace, C_NoTread, C_NoPower, C_TooGreat, C_NoMatch, C_NoNumber, C_NoMakers, C_NoWalk, C_NoAnswers, C_NoWishes, C_NoUndo, C_NoThings] : List Addr).zip errW))) (D_behind : Dfn P w K mg base (L2.CX P w) 4 "behind" ["place", "word"] (spBehind K C_NoWord C_NoPlace)) (D_reduced : Dfn P w K mg base (L2.CX P w) 3 "reduced" ["word"] (spReduced K C_NoWord)) (D_back : Dfn P w K mg base (L2.CX P w) 3 "back" ["word"] (spBack K C_NoWord)) (D__law_take : Dfn P w K mg base CX0 2 "_law_take" ["pen", "many"] (spTake)) (D__law_z_pick : Dfn P w K mg base CX0 3 "_law_z_pick" ["pen", "some"] (spPick K)) (D__law_z_far : Dfn P w K mg base CX0 4 "_law_z_far" ["pen", "many"] (spFar)) (D__law_z_odd : Dfn P w K mg base CX0 4 "_law_z_odd" ["pen", "word"] (spOdd K)) (F : Fun K "_law_z_refused_right" "_law_z_refused_right" s__law_z_refused_right f fd) (hm : mg "_law_z_refused_right" = some (.ref f)) (hb : Binds K fd ["pen", "word", "place"] []) {ct Ptab : Addr} (hct : tabOf K f = some (ct, Ptab)) (TB : TabB base mg ct Ptab) : DfnG P w K mg base CX0 8 "_law_z_refused_right" ["pen", "word", "place"] (spRef Ptab) := by
  refine DfnG.mk0 F hm hb sc__law_z_refused_right (fun vs H Q E h => Sp3.len h) (fun cdv A outer s H vs Q E hr hG hcd hsp hlk => ?_)
  obtain ⟨a0, a1, a2, rfl, h⟩ := Sp3.of hsp
  clear hsp
  have hu := hr.units
  obtain ⟨p, n, u, pl, rfl, rfl, rfl, hp, hn, u1, u2, p1, p2, p3, tb, q⟩ := h
  have hz := sizeLine_eq
  obtain ⟨oc, kV, doc, pm, ct2, od, an, osl, lk⟩ := hlk
  have hcd2 : cdv = .ref ct := by
    obtain ⟨_, o, fd', o2, vs', k1, k2, k3, _⟩ := tabOf_is hct
    rw [lk] at k1
    cases k1
    cases k2
    exact k3
  subst hcd2
  refine ⟨_, (pss_cons (ps_asg (pe_tup (pa_cons (pC D__law_z_odd (hr.mono (by decide)) pass0 (pa_cons (pV 0) (pa_cons (pV 1) pa_nil))) (pa_cons (pe_op oAdd pe_int (pe_op oMul pe_int (pC D__law_take (hr.mono (by decide)) pass0 (pa_cons (pV 0) (pa_cons pe_int pa_nil))))) pa_nil))) (pg_tup rfl (pgs_cons (pg_name (i := 3) sc__law_z_refused_right.nd rfl (by first | exact .inl rfl | exact .inr rfl)) (pgs_cons (pg_name (i := 4) sc__law_z_refused_right.nd rfl (by first | exact .inl rfl | exact .inr rfl)) pgs_nil))))
      (pss_cons (ps_asg (pe_tup (pa_cons (pe_slice (sSl (K := K)) (pe_op oMul (pe_op oAdd (pV 1) pe_str) (pV 4)) po_none (oPart (pV 4))) (pa_cons (pC D__law_z_far (hr.mono (by decide)) pass0 (pa_cons (pV 0) (pa_cons (pV 4) pa_nil))) pa_nil))) (pg_tup rfl (pgs_cons (pg_name (i := 5) sc__law_z_refused_right.nd rfl (by first | exact .inl rfl | exact .inr rfl)) (pgs_cons (pg_name (i := 6) sc__law_z_refused_right.nd rfl (by first | exact .inl rfl | exact .inr rfl)) pgs_nil))))
      (pss_cons (ps_par (i := 7) (j := 8) (by rfl) sc__law_z_refused_right.nd rfl rfl (by decide) rfl rfl (pa_cons (pC D__law_z_pick (hr.mono (by decide)) pass0 (pa_cons (pV 0) (pa_cons (pe_lst (pa_cons pe_str (pa_cons pe_str (pa_cons pe_str (pa_cons pe_str pa_nil))))) pa_nil))) (pa_cons (pC D__law_take (hr.mono (by decide)) pass0 (pa_cons (pV 0) (pa_cons (pe_op oAdd (pe_callB (cLen (K := K)) (by rfl) T.b_len PySem.boot_len (pa_cons (pV 2) pa_nil)) pe_int) pa_nil))) pa_nil)) (by rfl))
      (pss_cons (ps_asg (pe_tup (pa_cons (pe_op oAdd (pV 1) (pV 7)) (pa_cons (pe_op oAdd (pe_op oAdd (pe_slice (sSl (K := K)) (pV 2) po_none (oPart (pV 8))) (pV 7)) (pe_slice (sSl (K := K)) (pV 2) (oPart (pV 8)) po_none)) pa_nil))) (pg_tup rfl (pgs_cons (pg_name (i := 9) sc__law_z_refused_right.nd rfl (by first | exact .inl rfl | exact .inr rfl)) (pgs_cons (pg_name (i := 10) sc__law_z_refused_right.nd rfl (by first | exact .inl rfl | exact .inr rfl)) pgs_nil))))
      (pss_cons (ps_set (i := 11) sc__law_z_refused_right.nd rfl (by first | exact .inl rfl | exact .inr rfl) (pe_lst (pa_cons (pe_tup (pa_cons (pLam (k := 3) (j := 1) D__law_z_error (hr.mono (by decide)) (hr.mono (by decide)) TB rfl rfl (show LamS (defScope s__law_z_refused_right) _ from lamS_by (by decide +kernel)) rfl (fun _ _ _ _ _ => rfl) (fun A out s H E f c' hr => (pC D_back (hr.mono (by decide)) passLam (pa_cons (pV 3) pa_nil)))) (pa_cons pe_str pa_nil))) pa_nil)))
      (pss_cons (ps_expr (pe_bm PySem.F.plainAttrs_list PySem.F.slot_list_append PySem.F.type_list_append mt_append (pV 11) (pa_cons (pe_tup (pa_cons (pLam (k := 3) (j := 1) D__law_z_error (hr.mono (by decide)) (hr.mono (by decide)) TB rfl rfl (show LamS (defScope s__law_z_refused_right) _ from lamS_by (by decide +kernel)) rfl (fun _ _ _ _ _ => rfl) (fun A out s H E f c' hr => (pC D_reduced (hr.mono (by decide)) passLam (pa_cons (pV 3) pa_nil)))) (pa_cons pe_str pa_nil))) pa_nil)))
      (pss_cons (ps_expr (pe_bm PySem.F.plainAttrs_list PySem.F.slot_list_append PySem.F.type_list_append mt_append (pV 11) (pa_cons (pe_tup (pa_cons (pLam (k := 4) (j := 1) D__law_z_error (hr.mono (by decide)) (hr.mono (by decide)) TB rfl rfl (show LamS (defScope s__law_z_refused_right) _ from lamS_by (by decide +kernel)) rfl (fun _ _ _ _ _ => rfl) (fun A out s H E f c' hr => (pC D_behind (hr.mono (by decide)) passLam (pa_cons (pV 3) (pa_cons (pV 3) pa_nil))))) (pa_cons pe_str pa_nil))) pa_nil)))
      (pss_cons (ps_expr (pe_bm PySem.F.plainAttrs_list PySem.F.slot_list_append PySem.F.type_list_append mt_append (pV 11) (pa_cons (pe_tup (pa_cons (pLam (k := 4) (j := 1) D__law_z_error (hr.mono (by decide)) (hr.mono (by decide)) TB rfl rfl (show LamS (defScope s__law_z_refused_right) _ from lamS_by (by decide +kernel)) rfl (fun _ _ _ _ _ => rfl) (fun A out s H E f c' hr => (pC D_behind (hr.mono (by decide)) passLam (pa_cons (pV 9) (pa_cons (pV 3) pa_nil))))) (pa_cons pe_str pa_nil))) pa_nil)))
      (pss_cons (ps_expr (pe_bm PySem.F.plainAttrs_list PySem.F.slot_list_append PySem.F.type_list_append mt_append (pV 11) (pa_cons (pe_tup (pa_cons (pLam (k := 4) (j := 1) D__law_z_error (hr.mono (by decide)) (hr.mono (by decide)) TB rfl rfl (show LamS (defScope s__law_z_refused_right) _ from lamS_by (by decide +kernel)) rfl (fun _ _ _ _ _ => rfl) (fun A out s H E f c' hr => (pC D_behind (hr.mono (by decide)) passLam (pa_cons (pV 6) (pa_cons (pV 3) pa_nil))))) (pa_cons pe_str pa_nil))) pa_nil)))
      (pss_cons (ps_expr (pe_bm PySem.F.plainAttrs_list PySem.F.slot_list_append PySem.F.type_list_append mt_append (pV 11) (pa_cons (pe_tup (pa_cons (pLam (k := 4) (j := 1) D__law_z_error (hr.mono (by decide)) (hr.mono (by decide)) TB rfl rfl (show LamS (defScope s__law_z_refused_right) _ from lamS_by (by decide +kernel)) rfl (fun _ _ _ _ _ => rfl) (fun A out s H E f c' hr => (pC D_behind (hr.mono (by decide)) passLam (pa_cons (pV 10) (pa_cons (pV 3) pa_nil))))) (pa_cons pe_str pa_nil))) pa_nil)))
      (pss_cons (ps_expr (pe_bm PySem.F.plainAttrs_list PySem.F.slot_list_append PySem.F.type_list_append mt_append (pV 11) (pa_cons (pe_tup (pa_cons (pLam (k := 4) (j := 1) D__law_z_error (hr.mono (by decide)) (hr.mono (by decide)) TB rfl rfl (show LamS (defScope s__law_z_refused_right) _ from lamS_by (by decide +kernel)) rfl (fun _ _ _ _ _ => rfl) (fun A out s H E f c' hr => (pC D_behind (hr.mono (by decide)) passLam (pa_cons (pV 10) (pa_cons pe_str pa_nil))))) (pa_cons pe_str pa_nil))) pa_nil)))
      (pss_cons (ps_expr (pe_bm PySem.F.plainAttrs_list PySem.F.slot_list_append PySem.F.type_list_append mt_append (pV 11) (pa_cons (pe_tup (pa_cons (pLam (k := 4) (j := 1) D__law_z_error (hr.mono (by decide)) (hr.mono (by decide)) TB rfl rfl (show LamS (defScope s__law_z_refused_right) _ from lamS_by (by decide +kernel)) rfl (fun _ _ _ _ _ => rfl) (fun A out s H E f c' hr => (pC D_behind (hr.mono (by decide)) passLam (pa_cons (pV 2) (pa_cons (pV 3) pa_nil))))) (pa_cons pe_str pa_nil))) pa_nil)))
      (pss_cons (ps_expr (pe_bm PySem.F.plainAttrs_list PySem.F.slot_list_append PySem.F.type_list_append mt_append (pV 11) (pa_cons (pe_tup (pa_cons (pLam (k := 3) (j := 1) D__law_z_error (hr.mono (by decide)) (hr.mono (by decide)) TB rfl rfl (show LamS (defScope s__law_z_refused_right) _ from lamS_by (by decide +kernel)) rfl (fun _ _ _ _ _ => rfl) (fun A out s H E f c' hr => (pC D_back (hr.mono (by decide)) passLam (pa_cons (pV 5) pa_nil)))) (pa_cons pe_str pa_nil))) pa_nil)))
      (pss_cons (ps_expr (pe_bm PySem.F.plainAttrs_list PySem.F.slot_list_append PySem.F.type_list_append mt_append (pV 11) (pa_cons (pe_tup (pa_cons (pLam (k := 3) (j := 1) D__law_z_error (hr.mono (by decide)) (hr.mono (by decide)) TB rfl rfl (show LamS (defScope s__law_z_refused_right) _ from lamS_by (by decide +kernel)) rfl (fun _ _ _ _ _ => rfl) (fun A out s H E f c' hr => (pC D_reduced (hr.mono (by decide)) passLam (pa_cons (pV 5) pa_nil)))) (pa_cons pe_str pa_nil))) pa_nil)))
      (pss_cons (ps_expr (pe_bm PySem.F.plainAttrs_list PySem.F.slot_list_append PySem.F.type_list_append mt_append (pV 11) (pa_cons (pe_tup (pa_cons (pLam (k := 4) (j := 1) D__law_z_error (hr.mono (by decide)) (hr.mono (by decide)) TB rfl rfl (show LamS (defScope s__law_z_refused_right) _ from lamS_by (by decide +kernel)) rfl (fun _ _ _ _ _ => rfl) (fun A out s H E f c' hr => (pC D_behind (hr.mono (by decide)) passLam (pa_cons (pV 2) (pa_cons (pV 5) pa_nil))))) (pa_cons pe_str pa_nil))) pa_nil)))
      (pss_cons (ps_expr (pe_bm PySem.F.plainAttrs_list PySem.F.slot_list_append PySem.F.type_list_append mt_append (pV 11) (pa_cons (pe_tup (pa_cons (pLam (k := 4) (j := 1) D__law_z_error (hr.mono (by decide)) (hr.mono (by decide)) TB rfl rfl (show LamS (defScope s__law_z_refused_right) _ from lamS_by (by decide +kernel)) rfl (fun _ _ _ _ _ => rfl) (fun A out s H E f c' hr => (pC D_behind (hr.mono (by decide)) passLam (pa_cons (pV 6) (pa_cons pe_str pa_nil))))) (pa_cons pe_str pa_nil))) pa_nil)))
      (pss_cons (ps_expr (pe_bm PySem.F.plainAttrs_list PySem.F.slot_list_append PySem.F.type_list_append mt_append (pV 11) (pa_cons (pe_tup (pa_cons (pLam (k := 4) (j := 1) D__law_z_error (hr.mono (by decide)) (hr.mono (by decide)) TB rfl rfl (show LamS (defScope s__law_z_refused_right) _ from lamS_by (by decide +kernel)) rfl (fun _ _ _ _ _ => rfl) (fun A out s H E f c' hr => (pC D_behind (hr.mono (by decide)) passLam (pa_cons (pV 6) (pa_cons (pV 5) pa_nil))))) (pa_cons pe_str pa_nil))) pa_nil)))
      (pss_cons (ps_expr (pe_bm PySem.F.plainAttrs_list PySem.F.slot_list_append PySem.F.type_list_append mt_append (pV 11) (pa_cons (pe_tup (pa_cons (pe_callB (cRepr (K := K) hG hu) (by rfl) T.b_repr PyProof.Rows.boot_repr (pa_cons (pe_lst (pa_cons (pC D_is_word (hr.mono (by decide)) pass0 (pa_cons (pV 3) pa_nil)) (pa_cons (pC D_is_place (hr.mono (by decide)) pass0 (pa_cons (pV 3) pa_nil)) (pa_cons (pC D_is_place (hr.mono (by decide)) pass0 (pa_cons (pV 9) pa_nil)) pa_nil)))) pa_nil)) (pa_cons pe_str pa_nil))) pa_nil)))
      (pss_cons (ps_expr (pe_bm PySem.F.plainAttrs_list PySem.F.slot_list_append PySem.F.type_list_append mt_append (pV 11) (pa_cons (pe_tup (pa_cons (pe_callB (cRepr (K := K) hG hu) (by rfl) T.b_repr PyProof.Rows.boot_repr (pa_cons (pe_lst (pa_cons (pC D_is_word (hr.mono (by decide)) pass0 (pa_cons (pV 5) pa_nil)) (pa_cons (pC D_is_word (hr.mono (by decide)) pass0 (pa_cons (pV 6) pa_nil)) (pa_cons (pC D_is_place (hr.mono (by decide)) pass0 (pa_cons (pV 6) pa_nil)) (pa_cons (pC D_is_word (hr.mono (by decide)) pass0 (pa_cons (pV 9) pa_nil)) pa_nil))))) pa_nil)) (pa_cons pe_str pa_nil))) pa_nil)))
      (pss_one (ps_ret (pe_cmpR (oEq (K := K) hu) (pe_lc (own := [("row", 12)]) (by rfl) sc__law_z_refused_right.nd (pI (K := K) (pV 11)) (blkOk_by (N := N__law_z_refused_right) (sc := defScope s__law_z_refused_right) (by decide +kernel)) (fun _ _ _ _ _ => pg_name (i := 12) sc__law_z_refused_right.nd rfl (Or.inl rfl)) (fun _ _ _ _ _ => pts_one (tCm (oNe (K := K) hu) (pe_ix (xIx (K := K)) (pV 12) pe_int (fun _ _ => rfl)) (pe_ix (xIx (K := K)) (pV 12) pe_int (fun _ _ => rfl)) (nomark _))) (fun _ _ _ _ _ => (pV 12))) (pe_lst pa_nil) (nomark _))))))))))))))))))))))), ?_⟩
  -- odd, many
  refine ⟨p, n, u, rfl, rfl, hp, by omega, u1, by omega, fun v0 H1 ov s1 hp1 => ?_⟩
  refine ⟨p, n + 3, 3, rfl, rfl, hp1, by omega, by decide, by decide, fun r H2 r0 r1 s2 hp2 => ?_⟩
  obtain ⟨m, rfl⟩ : ∃ m : Nat, r = m := ⟨r.toNat, by omega⟩
  have eM : (201 : Int) + 100 * (m : Int) = ((201 + 100 * m : Nat) : Int) := by omega
  have hM : 201 ≤ 201 + 100 * m ∧ 201 + 100 * m ≤ 401 := by omega
  refine ⟨.inl ⟨by omega, by omega⟩, (by show 2 ≤ sizeLine; decide), fun a0 na0 => ⟨a0, _, rfl, .inl (.inl upd_same), rfl, _, _, rfl, _, _, rfl, rfl, ?_⟩⟩
  rw [eM]
  generalize 201 + 100 * m = M at hM ⊢
  clear eM
  generalize hg : upd H2 a0 _ = H3
  have s3 : Same H2 H3 := by rw [← hg]; exact same_upd na0
  clear hg
  have b0 : OddS K H1 v0 ∧ ∀ a, v0 = .ref a → a ≠ p ∧ ∃ o, H1 a = some o ∧ ∀ ps, o ≠ .tbl ps := by
    rcases ov with ⟨z, rfl, h1, h2⟩ | ⟨h1, h2⟩
    · exact ⟨.inl ⟨z, rfl, h1, h2⟩, fun a e => by cases e⟩
    · exact ⟨.inr h1, h2⟩
  have hpP : ∃ xs, H p = some (.lst xs) := by obtain ⟨c, cells, a, r, h1, _⟩ := hp.ex; exact ⟨_, h1⟩
  have hpP1 : ∃ xs, H1 p = some (.lst xs) := by obtain ⟨c, cells, a, r, h1, _⟩ := hp1.ex; exact ⟨_, h1⟩
  -- long, far
  have ea : S u ++ ("a" : Str) = S (u ++ [97]) := S_cat u [97]
  have eL : Txt.mul (S (u ++ [97])) (M : Int) = S (rep (u ++ [97]) M) := by rw [mul_S _ (by omega), Int.toNat_natCast]
  have uL : IsL (u ++ [97]) := u1.app (.one (by decide))
  have ul1 : (u ++ [97]).length = u.length + 1 := by rw [List.length_append]; rfl
  have rl := rep_len (u ++ [97]) M
  have rl2 : M ≤ M * (u.length + 1) := Nat.le_mul_of_pos_right _ (Nat.succ_pos _)
  have rl3 : M * (u.length + 1) ≤ 401 * 15 := Nat.mul_le_mul hM.2 (by omega)
  rw [ul1] at rl
  refine ⟨by rw [S_len]; show u.length + 1 ≤ _; omega, ?_⟩
  rw [ea]
  refine ⟨mulOk (by omega) (by omega) (by rw [S_len, Int.toNat_natCast, ul1, Nat.mul_comm]; omega) (by rw [S_len]; omega), ?_⟩
  rw [eL]
  refine ⟨by rw [S_len]; omega, ?_⟩
  have eL2 : cutS (S (rep (u ++ [97]) M)) none (some (M : Int)) = S ((rep (u ++ [97]) M).take M) := by rw [cut_to _ (by omega), Int.toNat_natCast]
  rw [eL2]
  have Ll : ((rep (u ++ [97]) M).take M).length = M := by rw [List.length_take]; omega
  have LL : IsL ((rep (u ++ [97]) M).take M) := (rep_l uL M).take M
  generalize (rep (u ++ [97]) M).take M = L at Ll LL ⊢
  clear eL eL2 rl rl2 rl3 ea
  refine ⟨p, n + 4, M, rfl, rfl, s3.pen hp2, by omega, by omega, fun F H4 F1 F2 F3 s4 hp4 => ?_⟩
  refine ⟨(by show 2 ≤ sizeLine; decide), fun a1 na1 => ⟨a1, _, rfl, .inl (.inl upd_same), rfl, _, _, rfl, _, _, rfl, rfl, ?_⟩⟩
  generalize hg : upd H4 a1 _ = H5
  have s5 : Same H4 H5 := by rw [← hg]; exact same_upd na1
  clear hg
  -- pair, at
  refine ⟨(by show 4 ≤ sizeLine; decide), fun l1 nl1 => ⟨p, n + 5, rfl, (same_upd nl1).pen (s5.pen hp4), by omega, _, .inl (.inl (.inl upd_same)), (s5.pen hp4).ne nl1, (by intro z; cases z), (by show 4 ≤ sizeLine; decide), fun v hv H6 s6 hp6 => ?_⟩⟩
  obtain ⟨c, hc, rfl⟩ : ∃ c ∈ letC, v = .str (S [c, oth c]) := by
    have hv : v ∈ ([.str "aA", .str "Bb", .str "cC", .str "Dd"] : List V) := hv
    simp only [List.mem_cons, List.not_mem_nil, or_false] at hv
    rcases hv with rfl | rfl | rfl | rfl
    · exact ⟨97, by decide, by kernel_rfl⟩
    · exact ⟨66, by decide, by kernel_rfl⟩
    · exact ⟨99, by decide, by kernel_rfl⟩
    · exact ⟨68, by decide, by kernel_rfl⟩
  have pc : IsL [c, oth c] := (IsL.one hc).app (.one (oth_mem hc))
  have np : ∀ X Y : List Nat, isP (X ++ ([c, oth c] ++ Y)) = false := fun X Y => Bool.eq_false_iff.mpr fun z => by
    have z2 := isP_left (isP_right z)
    have z3 : (decide (oth c ≠ oth c) && isP [oth c]) = true := z2
    rw [decide_eq_false (fun h => h rfl)] at z3
    cases z3
  refine ⟨by rw [S_len]; omega, p, n + 6, _, rfl, rfl, hp6, by omega, by rw [S_len]; omega, by rw [S_len]; omega, fun r2 H7 q0 q1 s7 hp7 => ⟨_, _, rfl, ?_⟩⟩
  rw [S_len] at q1
  -- double, bent
  have eD : S u ++ S [c, oth c] = S (u ++ [c, oth c]) := S_cat _ _
  have eB : cutS (S pl) none (some r2) ++ S [c, oth c] ++ cutS (S pl) (some r2) none = S (pl.take r2.toNat ++ [c, oth c] ++ pl.drop r2.toNat) := by rw [cut_to _ q0, cut_from _ q0, S_cat, S_cat]
  have lt1 : (pl.take r2.toNat).length ≤ 14 := by rw [List.length_take]; omega
  have lt2 : (pl.drop r2.toNat).length ≤ 14 := by rw [List.length_drop]; omega
  refine ⟨by rw [S_len, S_len]; show u.length + 2 ≤ _; omega, by rw [S_len]; omega, by rw [cut_to _ q0, S_len, S_len]; show _ + 2 ≤ _; omega, by rw [S_len]; omega, by rw [cut_to _ q0, cut_from _ q0, S_cat, S_len, S_len, List.length_append]; show _ + 2 + _ ≤ _; omega, ?_⟩
  rw [eD, eB]
  refine ⟨(by show 2 ≤ sizeLine; decide), fun a2 na2 => ⟨a2, _, rfl, .inl (.inl upd_same), rfl, _, _, rfl, _, _, rfl, rfl, ?_⟩⟩
  have dW : IsL (u ++ [c, oth c]) := u1.app pc
  have dP : isP (u ++ [c, oth c]) = false := by have := np u []; rw [List.append_nil] at this; exact this
  have dl : (u ++ [c, oth c]).length ≤ 16 := by rw [List.length_append]; show _ + 2 ≤ _; omega
  have bP : isP (pl.take r2.toNat ++ [c, oth c] ++ pl.drop r2.toNat) = false := by rw [List.append_assoc]; exact np _ _
  have bl : (pl.take r2.toNat ++ [c, oth c] ++ pl.drop r2.toNat).length ≤ 40 := by rw [List.length_append, List.length_append]; show _ + 2 + _ ≤ _; omega
  generalize u ++ [c, oth c] = D at dW dP dl ⊢
  generalize pl.take r2.toNat ++ [c, oth c] ++ pl.drop r2.toNat = B at bP bl ⊢
  clear eD eB np
  generalize hg : upd H7 a2 _ = H8
  have s8 : Same H7 H8 := by rw [← hg]; exact same_upd na2
  clear hg
  have hp8 : PenAt (n + 7) H8 p := s8.pen hp7
  have sA : SameP p H H8 := ((((((s1.trans s2).trans (.of s3)).trans s4).trans (.of s5)).trans ((SameP.of (same_upd nl1)).trans s6)).trans s7).trans (.of s8)
  have sB : SameP p H1 H8 := (((((s2.trans (.of s3)).trans s4).trans (.of s5)).trans ((SameP.of (same_upd nl1)).trans s6)).trans s7).trans (.of s8)
  have tb8 : Tabs [(Ptab, QL)] H8 := by obtain ⟨xs, hx⟩ := hpP; exact tb.sameP sA hx
  have od8 : OddS K H8 v0 := b0.1.imp id fun q => q.move fun a o e1 _ e3 => sB a o (b0.2 a e1).1 e3
  have hv8 : ∀ a, v0 = .ref a → ∃ o, H8 a = some o ∧ ∀ ps, o ≠ .tbl ps := fun a e => by
    obtain ⟨h1, o, h2, h3⟩ := b0.2 a e
    exact ⟨o, sB a o h1 h2, h3⟩
  have bw8 := od8.bad
  have bD : ∀ G, BadP K G (.str (S D)) := fun G => .inl ⟨_, rfl, by rw [S_len]; omega, fun z => by have z2 := z.2.1; rw [show isP (S D).cps.toList = isP D from rfl, dP] at z2; cases z2⟩
  have bB : ∀ G, BadP K G (.str (S B)) := fun G => .inl ⟨_, rfl, by rw [S_len]; omega, fun z => by have z2 := z.2.1; rw [show isP (S B).cps.toList = isP B from rfl, bP] at z2; cases z2⟩
  have bF : ∀ G, BadP K G (.str (S F)) := fun G => .inl ⟨_, rfl, by rw [S_len]; omega, fun z => by have z2 := z.2.2; rw [S_len] at z2; omega⟩
  have bL : ∀ G, BadW K G (.str (S L)) := fun G => .inl ⟨_, rfl, by rw [S_len]; omega, fun z => by have z2 := z.2; rw [S_len] at z2; omega⟩
  have mW : (C_NoWord, ("word" : Str)) ∈ (([C_NoWord, C_NoPlace, C_NoTread, C_NoPower, C_TooGreat, C_NoMatch, C_NoNumber, C_NoMakers, C_NoWalk, C_NoAnswers, C_NoWishes, C_NoUndo, C_NoThings] : List Addr).zip errW) := List.mem_cons_self ..
  have mP : (C_NoPlace, ("place" : Str)) ∈ (([C_NoWord, C_NoPlace, C_NoTread, C_NoPower, C_TooGreat, C_NoMatch, C_NoNumber, C_NoMakers, C_NoWalk, C_NoAnswers, C_NoWishes, C_NoUndo, C_NoThings] : List Addr).zip errW) := List.mem_cons_of_mem _ (List.mem_cons_self ..)
  -- the rows
  refine ⟨tb8, fun G1 e1 t1 => .inr ⟨bw8.ext e1, rfl, C_NoWord, "word", rfl, mW, fun G2 z2 => ⟨(by show 2 ≤ sizeLine; decide), fun t nt => ⟨(by show 1 ≤ sizeLine; decide), fun l nl => ?_⟩⟩⟩⟩
  have k1 : Pack K [(Ptab, QL)] p l (n + 7) 1 v0 (upd (upd G2 t (.tup [.str "word", .str "word"])) l (.lst [.ref t])) := Pack.base hp8 od8 hv8 e1 t1 z2 nt nl
  dsimp only
  clear e1 t1 z2 nt nl
  refine rowL (σ := [some (.ref p), some (.str (S u)), some (.str (S pl)), some v0, some (.int (M : Int)), some (.str (S L)), some (.str (S F)), some (.str (S [c, oth c])), some (.int r2), some (.str (S D)), some (.str (S B)), some (.ref l), none]) k1 (by decide) rfl (fun Q hQ => ⟨k1.tb, fun G1 e1 t1 => .inr ⟨(k1.bad.ext e1), rfl, C_NoWord, "word", rfl, mW, fun G2 z2 => hQ G1 G2 e1 t1 z2⟩⟩) fun R2 k2 => ?_
  refine rowL k2 (by decide) rfl (fun Q hQ => ⟨k2.tb, fun G1 e1 t1 => .inl ⟨(k2.bad.ext e1).badP, fun G0 z0 => ⟨rfl, C_NoPlace, "place", rfl, mP, fun G2 z2 => hQ G1 G2 e1 t1 (z0.trans z2)⟩⟩⟩) fun R3 k3 => ?_
  refine rowL k3 (by decide) rfl (fun Q hQ => ⟨k3.tb, fun G1 e1 t1 => .inl ⟨(bD G1), fun G0 z0 => ⟨rfl, C_NoPlace, "place", rfl, mP, fun G2 z2 => hQ G1 G2 e1 t1 (z0.trans z2)⟩⟩⟩) fun R4 k4 => ?_
  refine rowL k4 (by decide) rfl (fun Q hQ => ⟨k4.tb, fun G1 e1 t1 => .inl ⟨(bF G1), fun G0 z0 => ⟨rfl, C_NoPlace, "place", rfl, mP, fun G2 z2 => hQ G1 G2 e1 t1 (z0.trans z2)⟩⟩⟩) fun R5 k5 => ?_
  refine rowL k5 (by decide) rfl (fun Q hQ => ⟨k5.tb, fun G1 e1 t1 => .inl ⟨(bB G1), fun G0 z0 => ⟨rfl, C_NoPlace, "place", rfl, mP, fun G2 z2 => hQ G1 G2 e1 t1 (z0.trans z2)⟩⟩⟩) fun R6 k6 => ?_
  refine rowL k6 (by decide) rfl (fun Q hQ => ⟨k6.tb, fun G1 e1 t1 => .inl ⟨(bB G1), fun G0 z0 => ⟨rfl, C_NoPlace, "place", rfl, mP, fun G2 z2 => hQ G1 G2 e1 t1 (z0.trans z2)⟩⟩⟩) fun R7 k7 => ?_
  refine rowL k7 (by decide) rfl (fun Q hQ => ⟨k7.tb, fun G1 e1 t1 => .inr ⟨pl, rfl, p1, p2, by omega, .inl ⟨(k7.bad.ext e1), fun G0 z0 => ⟨rfl, C_NoWord, "word", rfl, mW, fun G2 z2 => hQ G1 G2 e1 t1 (z0.trans z2)⟩⟩⟩⟩) fun R8 k8 => ?_
  refine rowL k8 (by decide) rfl (fun Q hQ => ⟨k8.tb, fun G1 e1 t1 => .inr ⟨(bL G1), rfl, C_NoWord, "word", rfl, mW, fun G2 z2 => hQ G1 G2 e1 t1 z2⟩⟩) fun R9 k9 => ?_
  refine rowL k9 (by decide) rfl (fun Q hQ => ⟨k9.tb, fun G1 e1 t1 => .inr ⟨(bL G1), rfl, C_NoWord, "word", rfl, mW, fun G2 z2 => hQ G1 G2 e1 t1 z2⟩⟩) fun R10 k10 => ?_
  refine rowL k10 (by decide) rfl (fun Q hQ => ⟨k10.tb, fun G1 e1 t1 => .inr ⟨pl, rfl, p1, p2, by omega, .inl ⟨(bL G1), fun G0 z0 => ⟨rfl, C_NoWord, "word", rfl, mW, fun G2 z2 => hQ G1 G2 e1 t1 (z0.trans z2)⟩⟩⟩⟩) fun R11 k11 => ?_
  refine rowL k11 (by decide) rfl (fun Q hQ => ⟨k11.tb, fun G1 e1 t1 => .inl ⟨(bF G1), fun G0 z0 => ⟨rfl, C_NoPlace, "place", rfl, mP, fun G2 z2 => hQ G1 G2 e1 t1 (z0.trans z2)⟩⟩⟩) fun R12 k12 => ?_
  refine rowL k12 (by decide) rfl (fun Q hQ => ⟨k12.tb, fun G1 e1 t1 => .inl ⟨(bF G1), fun G0 z0 => ⟨rfl, C_NoPlace, "place", rfl, mP, fun G2 z2 => hQ G1 G2 e1 t1 (z0.trans z2)⟩⟩⟩) fun R13 k13 => ?_
  exact refTail k13 (by decide) LL (by omega) F1 F2 (by omega) dW dP (by omega) q

theorem ok_law {f : Addr} {fd : FuncData} (T : Txt K mg C_TreadError C_NoWord C_NoPlace C_NoTread C_NoPower C_NoNumber C_NoMakers C_NoWalk C_NoAnswers C_NoWishes C_NoUndo C_NoThings C_NoMatch C_TooGreat) (D_is_place : Dfn P w K mg base CX0 2 "is_place" ["thing"] (spIsPlace K)) (D_is_word : Dfn P w K mg base CX0 1 "is_word" ["thing"] (spIsWord K)) (D_reduced : Dfn P w K mg base (L2.CX P w) 3 "reduced" ["word"] (spReduced K C_NoWord)) (D__law_z_mirror : Dfn P w K mg base CX0 2 "_law_z_mirror" ["word"] (spMirror)) (D__law_take : Dfn P w K mg base CX0 2 "_law_take" ["pen", "many"] (spTake)) (D__law_z_far : Dfn P w K mg base CX0 4 "_law_z_far" ["pen", "many"] (spFar)) (D__law_z_pick : Dfn P w K mg base CX0 3 "_law_z_pick" ["pen", "some"] (spPick K)) (D__law_z_refused_right : DfnG P w K mg base CX0 8 "_law_z_refused_right" ["pen", "word", "place"] (spRef Ptab)) (D_behind : Dfn P w K mg base (L2.CX P w) 4 "behind" ["place", "word"] (spBehind K C_NoWord C_NoPlace)) (D__law_z_behind : Dfn P w K mg base CX0 2 "_law_z_behind" ["place", "word"] (spFollow)) (D_back : Dfn P w K mg base (L2.CX P w) 3 "back" ["word"] (spBack K C_NoWord)) (D__law_z_path : Dfn P w K mg base CX0 4 "_law_z_path" ["pen", "most", "signs"] (spPath)) (D__law_z_signs : Dfn P w K mg base CX0 4 "_law_z_signs" ["pen"] (spSigns)) (D__law_open : Dfn P w K mg base CX0 1 "_law_open" ["script"] (spOpen K)) (F : Fun K "law" "law" s_law f fd) (hm : mg "law" = some (.ref f)) (hb : Binds K fd ["script"] []) : FnG P w K mg base CX0 10 f fd ["script"] (spLaw K Ptab) := by
  refine fnG_of F sc_law (fun vs H Q E h => Sp1.len h) (fun cdv A outer s H vs Q E hr hG hcd hsp hlk => ?_)
  obtain ⟨a0, rfl, h⟩ := Sp1.of hsp
  clear hsp
  have hu := hr.units
  obtain ⟨a, ns, rfl, hS, hlen, tb, q⟩ := h
  have hz := sizeLine_eq
  refine ⟨_, (pss_cons (ps_set (i := 1) sc_law.nd rfl (by first | exact .inl rfl | exact .inr rfl) (pC D__law_open (hr.mono (by decide)) pass0 (pa_cons (pV 0) pa_nil)))
      (pss_cons (ps_for PassesOwn.never rfl (pi_range1 (by rfl) T.b_range (pa_cons pe_int pa_nil)) (pg_name (i := 2) sc_law.nd rfl (by first | exact .inl rfl | exact .inr rfl)) (pss_cons (ps_set (i := 3) sc_law.nd rfl (by first | exact .inl rfl | exact .inr rfl) (pC D__law_z_signs (hr.mono (by decide)) pass0 (pa_cons (pV 1) pa_nil)))
      (pss_cons (ps_par (i := 4) (j := 5) (by rfl) sc_law.nd rfl rfl (by decide) rfl rfl (pa_cons (pC D__law_z_path (hr.mono (by decide)) pass0 (pa_cons (pV 1) (pa_cons pe_int (pa_cons (pV 3) pa_nil)))) (pa_cons (pC D__law_z_behind (hr.mono (by decide)) pass0 (pa_cons pe_str (pa_cons (pC D__law_z_path (hr.mono (by decide)) pass0 (pa_cons (pV 1) (pa_cons pe_int (pa_cons (pV 3) pa_nil)))) pa_nil))) pa_nil)) (by rfl))
      (pss_cons (ps_set (i := 6) sc_law.nd rfl (by first | exact .inl rfl | exact .inr rfl) (pe_slice (sSl (K := K)) (pe_op oMul (pe_op oAdd (pV 4) (pe_ix (xIx (K := K)) (pV 3) pe_int (fun _ _ => rfl))) pe_int) po_none (oPart (pC D__law_z_pick (hr.mono (by decide)) pass0 (pa_cons (pV 1) (pa_cons (pe_lst (pa_cons pe_int (pa_cons pe_int (pa_cons pe_int pa_nil)))) pa_nil))))))
      (pss_cons (ps_set (i := 7) sc_law.nd rfl (by first | exact .inl rfl | exact .inr rfl) (pC D__law_z_far (hr.mono (by decide)) pass0 (pa_cons (pV 1) (pa_cons (pC D__law_z_pick (hr.mono (by decide)) pass0 (pa_cons (pV 1) (pa_cons (pe_lst (pa_cons pe_int (pa_cons pe_int (pa_cons pe_int pa_nil)))) pa_nil))) pa_nil))))
      (pss_cons (ps_for PassesOwn.never rfl (pI (K := K) (pe_lst (pa_cons (pV 4) (pa_cons (pV 6) (pa_cons pe_str pa_nil))))) (pg_name (i := 8) sc_law.nd rfl (by first | exact .inl rfl | exact .inr rfl)) (pss_cons (ps_set (i := 9) sc_law.nd rfl (by first | exact .inl rfl | exact .inr rfl) (pC D__law_z_behind (hr.mono (by decide)) pass0 (pa_cons pe_str (pa_cons (pV 8) pa_nil))))
      (pss_cons (ps_set (i := 10) sc_law.nd rfl (by first | exact .inl rfl | exact .inr rfl) (pe_lst (pa_cons (pC D_back (hr.mono (by decide)) passL (pa_cons (pV 8) pa_nil)) (pa_cons (pC D_reduced (hr.mono (by decide)) passL (pa_cons (pV 8) pa_nil)) (pa_cons (pC D_behind (hr.mono (by decide)) passL (pa_cons pe_str (pa_cons (pV 8) pa_nil))) (pa_cons (pC D_behind (hr.mono (by decide)) passL (pa_cons (pV 5) (pa_cons (pV 8) pa_nil))) (pa_cons (pC D_behind (hr.mono (by decide)) passL (pa_cons (pV 7) (pa_cons (pV 8) pa_nil))) pa_nil)))))))
      (pss_cons (ps_set (i := 11) sc_law.nd rfl (by first | exact .inl rfl | exact .inr rfl) (pe_lst (pa_cons (pC D__law_z_mirror (hr.mono (by decide)) pass0 (pa_cons (pV 8) pa_nil)) (pa_cons (pV 9) (pa_cons (pV 9) (pa_cons (pC D__law_z_behind (hr.mono (by decide)) pass0 (pa_cons (pV 5) (pa_cons (pV 8) pa_nil))) pa_nil))))))
      (pss_cons (ps_if (tCm (oNe (K := K) hu) (pe_callB (cRepr (K := K) hG hu) (by rfl) T.b_repr PyProof.Rows.boot_repr (pa_cons (pV 10) pa_nil)) (pe_callB (cRepr (K := K) hG hu) (by rfl) T.b_repr PyProof.Rows.boot_repr (pa_cons (pe_op oAdd (pV 11) (pe_lst (pa_cons (pC D__law_z_behind (hr.mono (by decide)) pass0 (pa_cons (pV 7) (pa_cons (pV 8) pa_nil))) pa_nil))) pa_nil)) (nomark _)) (pss_one (ps_ret pe_bl)) pss_nil)
      (pss_one (ps_if (tCm (oNe (K := K) hu) (pe_callB (cRepr (K := K) hG hu) (by rfl) T.b_repr PyProof.Rows.boot_repr (pa_cons (pe_lst (pa_cons (pC D_is_word (hr.mono (by decide)) pass0 (pa_cons (pV 8) pa_nil)) (pa_cons (pC D_is_place (hr.mono (by decide)) pass0 (pa_cons (pV 8) pa_nil)) (pa_cons (pC D_is_place (hr.mono (by decide)) pass0 (pa_cons (pV 9) pa_nil)) pa_nil)))) pa_nil)) (pe_callB (cRepr (K := K) hG hu) (by rfl) T.b_repr PyProof.Rows.boot_repr (pa_cons (pe_lst (pa_cons pe_bl (pa_cons (pe_cmpR (oEq (K := K) hu) (pV 9) (pV 8) (nomark _)) (pa_cons pe_bl pa_nil)))) pa_nil)) (nomark _)) (pss_one (ps_ret pe_bl)) pss_nil)))))))
      (pss_cons (ps_if (tCm (oNe (K := K) hu) (pe_callB (cRepr (K := K) hG hu) (by rfl) T.b_repr PyProof.Rows.boot_repr (pa_cons (pe_lst (pa_cons (pC D_behind (hr.mono (by decide)) passL (pa_cons (pV 7) (pa_cons (pC D__law_z_mirror (hr.mono (by decide)) pass0 (pa_cons (pV 7) pa_nil)) pa_nil))) (pa_cons (pC D_is_place (hr.mono (by decide)) pass0 (pa_cons (pV 7) pa_nil)) (pa_cons (pC D_is_word (hr.mono (by decide)) pass0 (pa_cons (pV 7) pa_nil)) pa_nil)))) pa_nil)) (pe_callB (cRepr (K := K) hG hu) (by rfl) T.b_repr PyProof.Rows.boot_repr (pa_cons (pe_lst (pa_cons pe_str (pa_cons pe_bl (pa_cons pe_bl pa_nil)))) pa_nil)) (nomark _)) (pss_one (ps_ret pe_bl)) pss_nil)
      (pss_cons (ps_if (pt_not (tVal (pCG D__law_z_refused_right (hr.mono (by decide)) hG pass0 (pa_cons (pV 1) (pa_cons (pV 4) (pa_cons (pV 5) pa_nil)))))) (pss_one (ps_ret pe_bl)) pss_nil)
      (pss_cons (ps_set (i := 12) sc_law.nd rfl (by first | exact .inl rfl | exact .inr rfl) (pC D__law_z_far (hr.mono (by decide)) pass0 (pa_cons (pV 1) (pa_cons (pC D__law_z_pick (hr.mono (by decide)) pass0 (pa_cons (pV 1) (pa_cons (pe_lst (pa_cons pe_int (pa_cons pe_int (pa_cons pe_int pa_nil)))) pa_nil))) pa_nil))))
      (pss_cons (ps_set (i := 13) sc_law.nd rfl (by first | exact .inl rfl | exact .inr rfl) (pC D__law_take (hr.mono (by decide)) pass0 (pa_cons (pV 1) (pa_cons (pe_op oAdd (pe_callB (cLen (K := K)) (by rfl) T.b_len PySem.boot_len (pa_cons (pV 12) pa_nil)) pe_int) pa_nil))))
      (pss_cons (ps_set (i := 14) sc_law.nd rfl (by first | exact .inl rfl | exact .inr rfl) (pe_op oAdd (pe_op oAdd (pe_slice (sSl (K := K)) (pV 12) po_none (oPart (pV 13))) pe_str) (pe_slice (sSl (K := K)) (pV 12) (oPart (pV 13)) po_none)))
      (pss_cons (ps_set (i := 15) sc_law.nd rfl (by first | exact .inl rfl | exact .inr rfl) (pe_op oAdd (pe_slice (sSl (K := K)) (pV 12) po_none (oPart pe_int)) (pC D__law_z_mirror (hr.mono (by decide)) pass0 (pa_cons (pe_slice (sSl (K := K)) (pV 12) po_none (oPart pe_int)) pa_nil))))
      (pss_cons (ps_set (i := 10) sc_law.nd rfl (by first | exact .inl rfl | exact .inr rfl) (pe_lst (pa_cons (pC D_is_word (hr.mono (by decide)) pass0 (pa_cons (pV 12) pa_nil)) (pa_cons (pC D_is_place (hr.mono (by decide)) pass0 (pa_cons (pV 12) pa_nil)) (pa_cons (pC D_is_word (hr.mono (by decide)) pass0 (pa_cons (pV 14) pa_nil)) (pa_cons (pC D_is_place (hr.mono (by decide)) pass0 (pa_cons (pV 14) pa_nil)) pa_nil))))))
      (pss_cons (ps_if (PW.pt (pw_or (tCm (oNe (K := K) hu) (pe_callB (cRepr (K := K) hG hu) (by rfl) T.b_repr PyProof.Rows.boot_repr (pa_cons (pV 10) pa_nil)) pe_str (nomark _)) (pw_or1 (tCm (oNe (K := K) hu) (pC D_reduced (hr.mono (by decide)) passL (pa_cons (pV 15) pa_nil)) pe_str (nomark _))))) (pss_one (ps_ret pe_bl)) pss_nil)
      (pss_cons (ps_set (i := 16) sc_law.nd rfl (by first | exact .inl rfl | exact .inr rfl) (pe_op oAdd (pe_op oAdd (pe_slice (sSl (K := K)) (pV 12) po_none (oPart (pV 13))) pe_str) (pe_slice (sSl (K := K)) (pV 12) (oPart (pV 13)) po_none)))
      (pss_one (ps_if (PW.pt (pw_or (tCm oIsNot2 (pC D_is_place (hr.mono (by decide)) pass0 (pa_cons (pV 15) pa_nil)) pe_bl (nomark _)) (pw_or (tCm oIsNot2 (pC D_is_word (hr.mono (by decide)) pass0 (pa_cons (pV 16) pa_nil)) pe_bl (nomark _)) (pw_or1 (tCm oIsNot2 (pC D_is_place (hr.mono (by decide)) pass0 (pa_cons (pV 16) pa_nil)) pe_bl (nomark _)))))) (pss_one (ps_ret pe_bl)) pss_nil)))))))))))))))))
      (pss_one (ps_ret pe_bl)))), ?_⟩
  refine ⟨a, ns, rfl, hS, hlen, fun p H1 s1 np hp1 => ?_⟩
  refine ⟨4, rfl, by decide, by decide, for_range (lo := 0) (n := 4) (fun i σ' H2 => ∃ x2 x3 x4 x5 x6 x7 x8 x9 x10 x11 x12 x13 x14 x15 x16, σ' = [some (.ref a), some (.ref p), x2, x3, x4, x5, x6, x7, x8, x9, x10, x11, x12, x13, x14, x15, x16] ∧ PenAt (100 * i) H2 p ∧ Tabs [(Ptab, QL)] H2) ⟨_, _, _, _, _, _, _, _, _, _, _, _, _, _, _, rfl, hp1, tb.same s1⟩ ?_ ?_⟩
  · rintro i σ' H2 hi ⟨x2, x3, x4, x5, x6, x7, x8, x9, x10, x11, x12, x13, x14, x15, x16, rfl, hp2, tb2⟩
    have tbk : ∀ {G G' : Hp} {m : Nat}, Tabs [(Ptab, QL)] G → PenAt m G p → SameP p G G' → Tabs [(Ptab, QL)] G' := fun t h s => by
      obtain ⟨c, cells, a, r, h1, _⟩ := h.ex
      exact t.sameP s h1
    refine ⟨p, 100 * i, rfl, hp2, by omega, fun sg H3 hsg s3 hp3 => ?_⟩
    obtain ⟨g1, g2, g3⟩ := signs_ok sg hsg
    refine ⟨p, 100 * i + 1, 14, sg, rfl, rfl, rfl, hp3, by omega, by decide, g1, g3, by omega, fun wd H4 w1 w2 s4 hp4 => ?_⟩
    refine ⟨p, 100 * i + 30, 14, sg, rfl, rfl, rfl, hp4.mono (by omega), by omega, by decide, g1, g3, by omega, fun pw H5 q1 q2 s5 hp5 => ⟨[], pw, rfl, rfl, q1, by show 0 + pw.length ≤ _; omega, _, _, rfl, ?_⟩⟩
    have tb5 : Tabs [(Ptab, QL)] H5 := tbk tb2 hp2 ((s3.trans s4).trans s5)
    have pp : IsL (fol [] pw) ∧ isP (fol [] pw) = true ∧ (fol [] pw).length ≤ 14 := ⟨IsL.fol .nil q1, isP_fol .nil q1 rfl, by have := fol_len (p := []) (w := pw); simp only [List.length_nil] at this; omega⟩
    generalize fol [] pw = pl at pp ⊢
    obtain ⟨p1, p2, p3⟩ := pp
    clear s3 s4 s5 tb2 hp2 hp3 hp4 q1 q2 hp1 s1
    -- long
    obtain ⟨c0, sgr, rfl⟩ : ∃ c0 sgr, sg = c0 :: sgr := by
      cases sg with
      | nil => exact absurd rfl g1
      | cons c r => exact ⟨c, r, rfl⟩
    have hc0 : c0 ∈ letC := g3 c0 (List.mem_cons_self ..)
    refine ⟨by rw [S_len]; omega, c0, (show atI (c0 :: sgr) (0 : Int) = some c0 from atI_nat (j := 0) rfl), by rw [S_len]; show wd.length + 1 ≤ _; omega, ?_⟩
    have e1 : S wd ++ (⟨#[c0]⟩ : Str) = S (wd ++ [c0]) := S_cat wd [c0]
    have e2 : Txt.mul (S (wd ++ [c0])) 200 = S (rep (wd ++ [c0]) 200) := mul_S _ (by decide)
    have l1 : (wd ++ [c0]).length = wd.length + 1 := by rw [List.length_append]; rfl
    have rl := rep_len (wd ++ [c0]) 200
    rw [l1] at rl
    have wc : IsL (rep (wd ++ [c0]) 200) := rep_l (w1.app (.one hc0)) 200
    rw [e1]
    refine ⟨mulOk (by decide) (by decide) (by rw [S_len, l1]; show (wd.length + 1) * 200 ≤ _; omega) (by rw [S_len]; omega), ?_⟩
    rw [e2]
    generalize rep (wd ++ [c0]) 200 = RW at rl wc ⊢
    clear e1 e2
    refine ⟨(by show 3 ≤ sizeLine; decide), fun l1' nl1 => ⟨p, 100 * i + 59, rfl, (same_upd nl1).pen (hp5.mono (by omega)), by omega, _, .inl (.inl (.inl upd_same)), hp5.ne nl1, (by intro z; cases z), (by show 3 ≤ sizeLine; decide), fun v hv H6 s6 hp6 => ?_⟩⟩
    obtain ⟨k, hk1, hk2, rfl⟩ : ∃ k : Nat, 199 ≤ k ∧ k ≤ 200 ∧ v = .int (k : Int) := by
      have hv : v ∈ ([.int 199, .int 200, .int 200] : List V) := hv
      simp only [List.mem_cons, List.not_mem_nil, or_false] at hv
      rcases hv with rfl | rfl | rfl
      · exact ⟨199, by decide, by decide, rfl⟩
      · exact ⟨200, by decide, by decide, rfl⟩
      · exact ⟨200, by decide, by decide, rfl⟩
    have tb6 := tbk tb5 hp5 ((SameP.of (same_upd nl1)).trans s6)
    refine ⟨by rw [S_len]; omega, ?_⟩
    have e3 : cutS (S RW) none (some (k : Int)) = S (RW.take k) := by rw [cut_to _ (by omega), Int.toNat_natCast]
    rw [e3]
    have Ll : (RW.take k).length ≤ 200 := by rw [List.length_take]; omega
    have LL : IsL (RW.take k) := wc.take k
    generalize RW.take k = LG at Ll LL ⊢
    clear e3 rl wc RW
    -- far
    refine ⟨(by show 3 ≤ sizeLine; decide), fun l2 nl2 => ⟨p, 100 * i + 60, rfl, (same_upd nl2).pen hp6, by omega, _, .inl (.inl (.inl upd_same)), hp6.ne nl2, (by intro z; cases z), (by show 3 ≤ sizeLine; decide), fun v hv H7 s7 hp7 => ?_⟩⟩
    obtain ⟨k2, hk3, rfl⟩ : ∃ k : Nat, k ≤ 200 ∧ v = .int (k : Int) := by
      have hv : v ∈ ([.int 30, .int 199, .int 200] : List V) := hv
      simp only [List.mem_cons, List.not_mem_nil, or_false] at hv
      rcases hv with rfl | rfl | rfl
      · exact ⟨30, by decide, rfl⟩
      · exact ⟨199, by decide, rfl⟩
      · exact ⟨200, by decide, rfl⟩
    refine ⟨p, 100 * i + 61, k2, rfl, rfl, hp7, by omega, by omega, fun F H8 F1 F2 F3 s8 hp8 => ?_⟩
    have tb8 := tbk tb6 hp6 (((SameP.of (same_upd nl2)).trans s7).trans s8)
    clear s6 s7 s8 hp5 hp6 hp7 tb5 tb6
    -- the texts
    refine ⟨(by show 3 ≤ sizeLine; decide), fun l3 nl3 => .inl ⟨_, .inl (.inl upd_same), for_it walk_list (fun j σ' H' => ∃ x8 x9 x10 x11 x12 x13 x14 x15 x16, σ' = [some (.ref a), some (.ref p), some (.int ((0 : Int) + (i : Nat))), some (.str (S (c0 :: sgr))), some (.str (S wd)), some (.str (S pl)), some (.str (S LG)), some (.str (S F)), x8, x9, x10, x11, x12, x13, x14, x15, x16] ∧ Same (upd H8 l3 (.lst [.str (S wd), .str (S LG), .str ""])) H') ⟨_, _, _, _, _, _, _, _, _, rfl, Same.refl _⟩ (fun j σ' H' _ ⟨_, _, _, _, _, _, _, _, _, _, s⟩ => .inl (.inl (s _ _ upd_same))) ?_ ?_⟩⟩
    · rintro j x σ' G1 G2 hj ⟨y8, y9, y10, y11, y12, y13, y14, y15, y16, rfl, sG⟩ ⟨rfl, hx⟩
      obtain ⟨tx, rfl, t1, t2⟩ : ∃ tx, x = .str (S tx) ∧ IsL tx ∧ tx.length ≤ 200 := by
        have hm := List.mem_of_getElem? hx
        simp only [List.mem_cons, List.not_mem_nil, or_false] at hm
        rcases hm with rfl | rfl | rfl
        · exact ⟨wd, rfl, w1, by omega⟩
        · exact ⟨LG, rfl, LL, Ll⟩
        · exact ⟨[], rfl, .nil, by decide⟩
      have wT : isW (S tx) = true := isW_S t1
      refine ⟨[], tx, rfl, rfl, t1, by show 0 + tx.length ≤ _; omega, ?_⟩
      have dd : IsL (fol [] tx) ∧ isP (fol [] tx) = true ∧ (fol [] tx).length ≤ 200 := ⟨IsL.fol .nil t1, isP_fol .nil t1 rfl, by have := fol_len (p := []) (w := tx); simp only [List.length_nil] at this; omega⟩
      have hpl := place_of_word t1
      have lpt : (fol pl tx).length ≤ 400 := by have := fol_len (p := pl) (w := tx); omega
      have lft : (fol F tx).length ≤ 400 := by have := fol_len (p := F) (w := tx); omega
      have lm := mir_len tx
      have dW : IsL (fol pl tx) := IsL.fol p1 t1
      have dF : IsL (fol F tx) := IsL.fol F1 t1
      refine .inl ⟨tx, rfl, t1, t2, .inl ⟨tx, rfl, t1, t2, .inr ⟨[], rfl, .nil, rfl, by decide, .inr ⟨tx, rfl, t1, t2, fun J1 j1 => .inr ⟨pl, rfl, p1, p2, by omega, .inr ⟨tx, rfl, t1, t2, fun J2 j2 => .inr ⟨F, rfl, F1, F2, by omega, .inr ⟨tx, rfl, t1, t2, fun J3 j3 => ⟨(by show 5 ≤ sizeLine; decide), fun r1 nr1 => ?_⟩⟩⟩⟩⟩⟩⟩⟩⟩
      generalize hg : upd J3 r1 _ = K1
      have o1 : K1 r1 = some (.lst (([mir tx, fol [] tx, fol [] tx, fol pl tx, fol F tx] : List (List Nat)).map fun u => V.str (S u))) := by rw [← hg]; exact upd_same
      have sK1 : Same (upd H8 l3 (.lst [.str (S wd), .str (S LG), .str ""])) K1 := by rw [← hg]; exact (((sG.trans j1).trans j2).trans j3).trans (same_upd nr1)
      clear hg j1 j2 j3 nr1
      have shD : Shows (wordsD [mir tx, fol [] tx, fol [] tx, fol pl tx, fol F tx]) := shows_words (by show 5 ≤ 20; decide) fun u hu => by
        simp only [List.mem_cons, List.not_mem_nil, or_false] at hu
        rcases hu with rfl | rfl | rfl | rfl | rfl
        · exact ⟨t1.mir, by omega⟩
        · exact ⟨dd.1, by omega⟩
        · exact ⟨dd.1, by omega⟩
        · exact ⟨dW, by omega⟩
        · exact ⟨dF, by omega⟩
      refine ⟨tx, rfl, t1, by omega, fun J4 j4 => ⟨pl, tx, rfl, rfl, t1, by omega, (by show 4 ≤ sizeLine; decide), fun r2 nr2 => ?_⟩⟩
      refine ⟨wordsD [mir tx, fol [] tx, fol [] tx, fol pl tx, fol F tx], .lst (.inl (.inl (same_upd nr2 _ _ (j4 _ _ o1)))) (dp_words _), shD, ?_⟩
      refine ⟨F, tx, rfl, rfl, t1, by omega, (by show 1 ≤ sizeLine; decide), fun r3 nr3 => ⟨[.str (S (mir tx)), .str (S (fol [] tx)), .str (S (fol [] tx)), .str (S (fol pl tx))], [.str (S (fol F tx))], same_upd nr3 _ _ upd_same, upd_same, (by show 4 + 1 ≤ sizeLine; decide), fun r4 nr4 => ?_⟩⟩
      refine ⟨wordsD [mir tx, fol [] tx, fol [] tx, fol pl tx, fol F tx], .lst (.inl (.inl upd_same)) (dp_words [mir tx, fol [] tx, fol [] tx, fol pl tx, fol F tx]), shD, ?_⟩
      generalize hg : upd (upd (upd J4 r2 _) r3 _) r4 _ = K2
      have sK2 : Same (upd H8 l3 (.lst [.str (S wd), .str (S LG), .str ""])) K2 := by rw [← hg]; exact sK1.trans (((j4.trans (same_upd nr2)).trans (same_upd nr3)).trans (same_upd nr4))
      clear hg j4 nr2 nr3 nr4 o1 sK1 shD
      refine ite2 (fun e => ?_) (fun _ => ?_)
      · rw [decide_eq_true rfl] at e
        cases e
      have pD : isP (fol [] tx) = true := dd.2.1
      refine ⟨true, .inl ⟨_, rfl, wT.symm⟩, isP tx, .inl ⟨_, rfl, by rw [S_len]; omega, by rw [wT]; rfl⟩, fun J5 j5 => ⟨true, .inl ⟨_, rfl, by rw [S_len]; omega, by rw [isW_S dd.1]; exact pD.symm⟩, fun J6 j6 => ⟨(by show 3 ≤ sizeLine; decide), fun r5 nr5 => ?_⟩⟩⟩
      refine ⟨.list (([true, isP tx, true] : List Bool).map PyData.bool), .lst (.inl (.inl upd_same)) (dp_bls [true, isP tx, true]), shows3 _, ?_⟩
      refine ⟨(by show 3 ≤ sizeLine; decide), fun r6 nr6 => ?_⟩
      rw [← hpl]
      refine ⟨.list (([true, isP tx, true] : List Bool).map PyData.bool), .lst (.inl (.inl upd_same)) (dp_bls [true, isP tx, true]), shows3 _, ?_⟩
      refine ite2 (fun e => ?_) (fun _ => ?_)
      · rw [decide_eq_true rfl] at e
        cases e
      exact ⟨_, _, _, _, _, _, _, _, _, rfl, sK2.trans (((j5.trans j6).trans (same_upd nr5)).trans (same_upd nr6))⟩
    · rintro σ' G1 ⟨y8, y9, y10, y11, y12, y13, y14, y15, y16, rfl, sG⟩
      have hp9 : PenAt (100 * i + 62) G1 p := sG.pen ((same_upd nl3).pen hp8)
      have tb9 : Tabs [(Ptab, QL)] G1 := (tb8.same (same_upd nl3)).same sG
      clear sG nl3 hp8 tb8
      refine ⟨F, rfl, F1, by omega, fun J1 j1 => .inr ⟨F, rfl, F1, F2, by omega, .inr ⟨mir F, rfl, F1.mir, by rw [mir_len]; omega, fun J2 j2 => ⟨true, .inl ⟨_, rfl, by rw [S_len]; omega, by rw [isW_S F1]; exact F2.symm⟩, fun J3 j3 => ⟨true, .inl ⟨_, rfl, (isW_S F1).symm⟩, (by show 3 ≤ sizeLine; decide), fun r1 nr1 => ?_⟩⟩⟩⟩⟩
      rw [back_home F1 F2]
      refine ⟨.list [.str (S []), .bool true, .bool true], .lst (.inl (.inl upd_same)) (.cons (.str _) (.cons (.bl _) (.cons (.bl _) .nil))), shows_e, ?_⟩
      refine ⟨(by show 3 ≤ sizeLine; decide), fun r2 nr2 => ⟨.list [.str (S []), .bool true, .bool true], .lst (.inl (.inl upd_same)) (.cons (.str (S [])) (.cons (.bl _) (.cons (.bl _) .nil))), shows_e, ?_⟩⟩
      generalize hg : upd (upd J3 r1 _) r2 _ = K1
      have sK : Same G1 K1 := by rw [← hg]; exact (((j1.trans j2).trans j3).trans (same_upd nr1)).trans (same_upd nr2)
      clear hg
      have hpA := sK.pen hp9
      have tbA := tb9.same sK
      clear j1 j2 j3 nr1 nr2 sK hp9 tb9
      refine ite2 (fun e => ?_) (fun _ => ?_)
      · rw [decide_eq_true rfl] at e
        cases e
      refine ⟨p, 100 * i + 62, wd, pl, rfl, rfl, rfl, hpA, by omega, w1, w2, p1, p2, p3, tbA, fun K2 hpB tbB => ?_⟩
      clear hpA tbA
      -- huge
      refine ⟨(by show 3 ≤ sizeLine; decide), fun l4 nl4 => ⟨p, 100 * i + 69, rfl, (same_upd nl4).pen (hpB.mono (by omega)), by omega, _, .inl (.inl (.inl upd_same)), hpB.ne nl4, (by intro z; cases z), (by show 3 ≤ sizeLine; decide), fun v hv K3 s3 hpC => ?_⟩⟩
      obtain ⟨k3, hk4, hk5, rfl⟩ : ∃ k : Nat, 401 ≤ k ∧ k ≤ 5000 ∧ v = .int (k : Int) := by
        have hv : v ∈ ([.int 401, .int 1500, .int 5000] : List V) := hv
        simp only [List.mem_cons, List.not_mem_nil, or_false] at hv
        rcases hv with rfl | rfl | rfl
        · exact ⟨401, by decide, by decide, rfl⟩
        · exact ⟨1500, by decide, by decide, rfl⟩
        · exact ⟨5000, by decide, by decide, rfl⟩
      refine ⟨p, 100 * i + 70, k3, rfl, rfl, hpC, by omega, by omega, fun HG K4 hg1 hg2 hg3 s4 hpD => ?_⟩
      refine ⟨by rw [S_len]; omega, p, 100 * i + 71, _, rfl, rfl, hpD, by omega, by rw [S_len]; omega, by rw [S_len]; omega, fun r K5 r0 r1 s5 hpE => ?_⟩
      have tbE := tbk tbB hpB ((((SameP.of (same_upd nl4)).trans s3).trans s4).trans s5)
      clear s3 s4 s5 hpC hpD hpB tbB nl4
      have ea : ("aA" : Str) = S [97, 65] := by kernel_rfl
      have ee : ("e" : Str) = S [101] := by kernel_rfl
      have lt1 : (HG.take r.toNat).length ≤ 5000 := by rw [List.length_take]; omega
      have lt2 : (HG.drop r.toNat).length ≤ 5000 := by rw [List.length_drop]; omega
      have c1 : cutS (S HG) none (some r) = S (HG.take r.toNat) := cut_to HG r0
      have c2 : cutS (S HG) (some r) none = S (HG.drop r.toNat) := cut_from HG r0
      have eB : S (HG.take r.toNat) ++ S [97, 65] ++ S (HG.drop r.toNat) = S (HG.take r.toNat ++ [97, 65] ++ HG.drop r.toNat) := by rw [S_cat, S_cat]
      have eW : S (HG.take r.toNat) ++ S [101] ++ S (HG.drop r.toNat) = S (HG.take r.toNat ++ [101] ++ HG.drop r.toNat) := by rw [S_cat, S_cat]
      have lB : (HG.take r.toNat ++ [97, 65] ++ HG.drop r.toNat).length ≤ 10002 := by rw [List.length_append, List.length_append]; show _ + 2 + _ ≤ _; omega
      have lW : (HG.take r.toNat ++ [101] ++ HG.drop r.toNat).length ≤ 10002 := by rw [List.length_append, List.length_append]; show _ + 1 + _ ≤ _; omega
      refine ⟨by rw [S_len]; omega, by rw [ea, c1, S_len, S_len]; show _ + 2 ≤ _; omega, by rw [S_len]; omega, by rw [ea, c1, c2, S_cat, S_len, S_len, List.length_append]; show _ + 2 + _ ≤ _; omega, ?_⟩
      rw [ea, c1, c2, eB]
      have bW : isW (S (HG.take r.toNat ++ [97, 65] ++ HG.drop r.toNat)) = true := isW_S (((hg1.take _).app (fun c hc => (show ∀ c ∈ ([97, 65] : List Nat), c ∈ letC from by decide) c hc)).app (hg1.drop _))
      have bP : isP (HG.take r.toNat ++ [97, 65] ++ HG.drop r.toNat) = false := by rw [List.append_assoc]; exact pair_bad 97 _ _
      generalize HG.take r.toNat ++ [97, 65] ++ HG.drop r.toNat = BT at lB bW bP ⊢
      clear eB
      -- nested
      have c3 : cutS (S HG) none (some 100) = S (HG.take 100) := cut_to HG (by decide)
      have lX : (HG.take 100).length = 100 := by rw [List.length_take]; omega
      have XL : IsL (HG.take 100) := hg1.take 100
      refine ⟨by rw [S_len]; omega, by rw [S_len]; omega, HG.take 100, congrArg V.str c3, XL, by omega, fun K6 s6 => ⟨by rw [c3, S_len, S_len, mir_len]; omega, ?_⟩⟩
      rw [c3, S_cat]
      have nN : isP (HG.take 100 ++ mir (HG.take 100)) = false := nest_bad fun z => by rw [z] at lX; cases lX
      have nL : IsL (HG.take 100 ++ mir (HG.take 100)) := XL.app XL.mir
      have nl : (HG.take 100 ++ mir (HG.take 100)).length = 200 := by rw [List.length_append, mir_len, lX]
      have nR : fol [] (HG.take 100 ++ mir (HG.take 100)) = [] := by rw [fol_app]; exact fol_mir .nil rfl XL
      generalize HG.take 100 ++ mir (HG.take 100) = NS at nN nL nl nR ⊢
      clear c3 lX XL
      -- told
      refine ⟨true, .inl ⟨_, rfl, (isW_S hg1).symm⟩, true, .inl ⟨_, rfl, by rw [S_len]; omega, by rw [isW_S hg1]; exact hg2.symm⟩, fun K7 s7 => ⟨true, .inl ⟨_, rfl, bW.symm⟩, false, .inl ⟨_, rfl, by rw [S_len]; omega, by rw [bW]; exact bP.symm⟩, fun K8 s8 => ⟨(by show 4 ≤ sizeLine; decide), fun r3 nr3 => ?_⟩⟩⟩
      have sL := ((s6.trans s7).trans s8).trans (same_upd (o := .lst (([true, true, true, false] : List Bool).map V.bl)) nr3)
      refine ⟨.list (([true, true, true, false] : List Bool).map PyData.bool), .lst (.inl (.inl upd_same)) (dp_bls [true, true, true, false]), ⟨rfl, by decide, by rw [show4]; decide⟩, ?_⟩
      rw [show4]
      refine .inl ⟨NS, rfl, nL, by omega, ?_⟩
      rw [nR]
      refine ⟨by rw [S_len]; omega, by rw [ee, c1, S_len, S_len]; show _ + 1 ≤ _; omega, by rw [S_len]; omega, by rw [ee, c1, c2, S_cat, S_len, S_len, List.length_append]; show _ + 1 + _ ≤ _; omega, ?_⟩
      rw [ee, c1, c2, eW]
      have wW : isW (S (HG.take r.toNat ++ [101] ++ HG.drop r.toNat)) = false := isW_bad (by decide)
      generalize HG.take r.toNat ++ [101] ++ HG.drop r.toNat = WR at lW wW ⊢
      refine ⟨false, .inl ⟨_, rfl, by rw [S_len]; omega, by rw [show isP (S NS).cps.toList = isP NS from rfl, nN, Bool.and_false]⟩, fun K9 s9 => ⟨false, .inl ⟨_, rfl, wW.symm⟩, false, .inl ⟨_, rfl, by rw [S_len]; omega, by rw [wW]; rfl⟩, fun K10 s10 => ?_⟩⟩
      have sM := (sL.trans s9).trans s10
      exact ⟨_, _, _, _, _, _, _, _, _, _, _, _, _, _, _, rfl, (sM.pen hpE).mono (by omega), tbE.same sM⟩
  · rintro σ' H2 ⟨x2, x3, x4, x5, x6, x7, x8, x9, x10, x11, x12, x13, x14, x15, x16, rfl, hp2, tb2⟩
    exact q H2

end
theorem all_mk {l : PySem.W.OpenLaw} {q : Program} {w : World} {K : PySem.W.Frag} {h : Heap} {mg : Str → Option Value} {fa : Addr} (X : K.In h) (G : h.Ns mainGlobals mg) (hfa : mg "law" = some (.ref fa))
    {od0 an0 : Option Addr} {sl0 : Array (Option Value)} {oc0 kV0 dc0 pm0 cd0 ct0 : Value} {f0 : Addr}
    {od1 an1 : Option Addr} {sl1 : Array (Option Value)} {oc1 kV1 dc1 pm1 cd1 ct1 : Value} {f1 : Addr}
    {od2 an2 : Option Addr} {sl2 : Array (Option Value)} {oc2 kV2 dc2 pm2 cd2 ct2 : Value} {f2 : Addr}
    {od3 an3 : Option Addr} {sl3 : Array (Option Value)} {oc3 kV3 dc3 pm3 cd3 ct3 : Value} {f3 : Addr}
    {od4 an4 : Option Addr} {sl4 : Array (Option Value)} {oc4 kV4 dc4 pm4 cd4 ct4 : Value} {f4 : Addr}
    {od5 an5 : Option Addr} {sl5 : Array (Option Value)} {oc5 kV5 dc5 pm5 cd5 ct5 : Value} {f5 : Addr}
    {od6 an6 : Option Addr} {sl6 : Array (Option Value)} {oc6 kV6 dc6 pm6 cd6 ct6 : Value} {f6 : Addr}
    {od7 an7 : Option Addr} {sl7 : Array (Option Value)} {oc7 kV7 dc7 pm7 cd7 ct7 : Value} {f7 : Addr}
    {od8 an8 : Option Addr} {sl8 : Array (Option Value)} {oc8 kV8 dc8 pm8 cd8 ct8 : Value} {f8 : Addr}
    {od9 an9 : Option Addr} {sl9 : Array (Option Value)} {oc9 kV9 dc9 pm9 cd9 ct9 : Value} {f9 : Addr}
    {od10 an10 : Option Addr} {sl10 : Array (Option Value)} {oc10 kV10 dc10 pm10 cd10 ct10 : Value} {f10 : Addr}
    {od11 an11 : Option Addr} {sl11 : Array (Option Value)} {oc11 kV11 dc11 pm11 cd11 ct11 : Value} {f11 : Addr}
    {od12 an12 : Option Addr} {sl12 : Array (Option Value)} {oc12 kV12 dc12 pm12 cd12 ct12 : Value} {f12 : Addr}
    {od13 an13 : Option Addr} {sl13 : Array (Option Value)} {oc13 kV13 dc13 pm13 cd13 ct13 : Value} {f13 : Addr}
    {od14 an14 : Option Addr} {sl14 : Array (Option Value)} {oc14 kV14 dc14 pm14 cd14 ct14 : Value} {f14 : Addr}
    {od15 an15 : Option Addr} {sl15 : Array (Option Value)} {oc15 kV15 dc15 pm15 cd15 ct15 : Value} {f15 : Addr}
    {od16 an16 : Option Addr} {sl16 : Array (Option Value)} {oc16 kV16 dc16 pm16 cd16 ct16 : Value} {f16 : Addr}
    {od17 an17 : Option Addr} {sl17 : Array (Option Value)} {oc17 kV17 dc17 pm17 cd17 ct17 : Value} {f17 : Addr}
    {od18 an18 : Option Addr} {sl18 : Array (Option Value)} {oc18 kV18 dc18 pm18 cd18 ct18 : Value} {f18 : Addr}
    {od19 an19 : Option Addr} {sl19 : Array (Option Value)} {oc19 kV19 dc19 pm19 cd19 ct19 : Value} {f19 : Addr}
    {od20 an20 : Option Addr} {sl20 : Array (Option Value)} {oc20 kV20 dc20 pm20 cd20 ct20 : Value} {f20 : Addr}
    {od21 an21 : Option Addr} {sl21 : Array (Option Value)} {oc21 kV21 dc21 pm21 cd21 ct21 : Value} {f21 : Addr}
    {od22 an22 : Option Addr} {sl22 : Array (Option Value)} {oc22 kV22 dc22 pm22 cd22 ct22 : Value} {f22 : Addr}
    {od23 an23 : Option Addr} {sl23 : Array (Option Value)} {oc23 kV23 dc23 pm23 cd23 ct23 : Value} {f23 : Addr}
    (a0 : PySem.W.nsIn K mainGlobals "_law_spread" = some (some (.ref f0))) (l0 : K.lookup f0 = some ⟨oc0, od0, .func (PySem.W.fnOf "_law_spread" "_law_spread" (defArgs s__law_spread) (defBody s__law_spread) (defScope s__law_spread) .none kV0 dc0 pm0 an0 cd0 ct0), sl0⟩) (c0 : PySem.W.codeIn K cd0 "_law_spread" = true) (k0 : PySem.W.keepIn K (.ref f0) = true)
    (a1 : PySem.W.nsIn K mainGlobals "_law_open" = some (some (.ref f1))) (l1 : K.lookup f1 = some ⟨oc1, od1, .func (PySem.W.fnOf "_law_open" "_law_open" (defArgs s__law_open) (defBody s__law_open) (defScope s__law_open) .none kV1 dc1 pm1 an1 cd1 ct1), sl1⟩) (c1 : PySem.W.codeIn K cd1 "_law_open" = true) (k1 : PySem.W.keepIn K (.ref f1) = true)
    (a2 : PySem.W.nsIn K mainGlobals "_law_take" = some (some (.ref f2))) (l2 : K.lookup f2 = some ⟨oc2, od2, .func (PySem.W.fnOf "_law_take" "_law_take" (defArgs s__law_take) (defBody s__law_take) (defScope s__law_take) .none kV2 dc2 pm2 an2 cd2 ct2), sl2⟩) (c2 : PySem.W.codeIn K cd2 "_law_take" = true) (k2 : PySem.W.keepIn K (.ref f2) = true)
    (a3 : PySem.W.nsIn K mainGlobals "_law_z_pick" = some (some (.ref f3))) (l3 : K.lookup f3 = some ⟨oc3, od3, .func (PySem.W.fnOf "_law_z_pick" "_law_z_pick" (defArgs s__law_z_pick) (defBody s__law_z_pick) (defScope s__law_z_pick) .none kV3 dc3 pm3 an3 cd3 ct3), sl3⟩) (c3 : PySem.W.codeIn K cd3 "_law_z_pick" = true) (k3 : PySem.W.keepIn K (.ref f3) = true)
    (a4 : PySem.W.nsIn K mainGlobals "is_word" = some (some (.ref f4))) (l4 : K.lookup f4 = some ⟨oc4, od4, .func (PySem.W.fnOf "is_word" "is_word" (defArgs s_is_word) (defBody s_is_word) (defScope s_is_word) .none kV4 dc4 pm4 an4 cd4 ct4), sl4⟩) (c4 : PySem.W.codeIn K cd4 "is_word" = true) (k4 : PySem.W.keepIn K (.ref f4) = true)
    (a5 : PySem.W.nsIn K mainGlobals "is_place" = some (some (.ref f5))) (l5 : K.lookup f5 = some ⟨oc5, od5, .func (PySem.W.fnOf "is_place" "is_place" (defArgs s_is_place) (defBody s_is_place) (defScope s_is_place) .none kV5 dc5 pm5 an5 cd5 ct5), sl5⟩) (c5 : PySem.W.codeIn K cd5 "is_place" = true) (k5 : PySem.W.keepIn K (.ref f5) = true)
    (a6 : PySem.W.nsIn K mainGlobals "check_word" = some (some (.ref f6))) (l6 : K.lookup f6 = some ⟨oc6, od6, .func (PySem.W.fnOf "check_word" "check_word" (defArgs s_check_word) (defBody s_check_word) (defScope s_check_word) .none kV6 dc6 pm6 an6 cd6 ct6), sl6⟩) (c6 : PySem.W.codeIn K cd6 "check_word" = true) (k6 : PySem.W.keepIn K (.ref f6) = true)
    (a7 : PySem.W.nsIn K mainGlobals "turn" = some (some (.ref f7))) (l7 : K.lookup f7 = some ⟨oc7, od7, .func (PySem.W.fnOf "turn" "turn" (defArgs s_turn) (defBody s_turn) (defScope s_turn) .none kV7 dc7 pm7 an7 cd7 ct7), sl7⟩) (c7 : PySem.W.codeIn K cd7 "turn" = true) (k7 : PySem.W.keepIn K (.ref f7) = true)
    (a8 : PySem.W.nsIn K mainGlobals "step" = some (some (.ref f8))) (l8 : K.lookup f8 = some ⟨oc8, od8, .func (PySem.W.fnOf "step" "step" (defArgs s_step) (defBody s_step) (defScope s_step) .none kV8 dc8 pm8 an8 cd8 ct8), sl8⟩) (c8 : PySem.W.codeIn K cd8 "step" = true) (k8 : PySem.W.keepIn K (.ref f8) = true)
    (a9 : PySem.W.nsIn K mainGlobals "follow" = some (some (.ref f9))) (l9 : K.lookup f9 = some ⟨oc9, od9, .func (PySem.W.fnOf "follow" "follow" (defArgs s_follow) (defBody s_follow) (defScope s_follow) .none kV9 dc9 pm9 an9 cd9 ct9), sl9⟩) (c9 : PySem.W.codeIn K cd9 "follow" = true) (k9 : PySem.W.keepIn K (.ref f9) = true)
    (a10 : PySem.W.nsIn K mainGlobals "check_place" = some (some (.ref f10))) (l10 : K.lookup f10 = some ⟨oc10, od10, .func (PySem.W.fnOf "check_place" "check_place" (defArgs s_check_place) (defBody s_check_place) (defScope s_check_place) .none kV10 dc10 pm10 an10 cd10 ct10), sl10⟩) (c10 : PySem.W.codeIn K cd10 "check_place" = true) (k10 : PySem.W.keepIn K (.ref f10) = true)
    (a11 : PySem.W.nsIn K mainGlobals "back" = some (some (.ref f11))) (l11 : K.lookup f11 = some ⟨oc11, od11, .func (PySem.W.fnOf "back" "back" (defArgs s_back) (defBody s_back) (defScope s_back) .none kV11 dc11 pm11 an11 cd11 ct11), sl11⟩) (c11 : PySem.W.codeIn K cd11 "back" = true) (k11 : PySem.W.keepIn K (.ref f11) = true)
    (a12 : PySem.W.nsIn K mainGlobals "reduced" = some (some (.ref f12))) (l12 : K.lookup f12 = some ⟨oc12, od12, .func (PySem.W.fnOf "reduced" "reduced" (defArgs s_reduced) (defBody s_reduced) (defScope s_reduced) .none kV12 dc12 pm12 an12 cd12 ct12), sl12⟩) (c12 : PySem.W.codeIn K cd12 "reduced" = true) (k12 : PySem.W.keepIn K (.ref f12) = true)
    (a13 : PySem.W.nsIn K mainGlobals "behind" = some (some (.ref f13))) (l13 : K.lookup f13 = some ⟨oc13, od13, .func (PySem.W.fnOf "behind" "behind" (defArgs s_behind) (defBody s_behind) (defScope s_behind) .none kV13 dc13 pm13 an13 cd13 ct13), sl13⟩) (c13 : PySem.W.codeIn K cd13 "behind" = true) (k13 : PySem.W.keepIn K (.ref f13) = true)
    (a14 : PySem.W.nsIn K mainGlobals "_law_z_other" = some (some (.ref f14))) (l14 : K.lookup f14 = some ⟨oc14, od14, .func (PySem.W.fnOf "_law_z_other" "_law_z_other" (defArgs s__law_z_other) (defBody s__law_z_other) (defScope s__law_z_other) .none kV14 dc14 pm14 an14 cd14 ct14), sl14⟩) (c14 : PySem.W.codeIn K cd14 "_law_z_other" = true) (k14 : PySem.W.keepIn K (.ref f14) = true)
    (a15 : PySem.W.nsIn K mainGlobals "_law_z_mirror" = some (some (.ref f15))) (l15 : K.lookup f15 = some ⟨oc15, od15, .func (PySem.W.fnOf "_law_z_mirror" "_law_z_mirror" (defArgs s__law_z_mirror) (defBody s__law_z_mirror) (defScope s__law_z_mirror) .none kV15 dc15 pm15 an15 cd15 ct15), sl15⟩) (c15 : PySem.W.codeIn K cd15 "_law_z_mirror" = true) (k15 : PySem.W.keepIn K (.ref f15) = true)
    (a16 : PySem.W.nsIn K mainGlobals "_law_z_behind" = some (some (.ref f16))) (l16 : K.lookup f16 = some ⟨oc16, od16, .func (PySem.W.fnOf "_law_z_behind" "_law_z_behind" (defArgs s__law_z_behind) (defBody s__law_z_behind) (defScope s__law_z_behind) .none kV16 dc16 pm16 an16 cd16 ct16), sl16⟩) (c16 : PySem.W.codeIn K cd16 "_law_z_behind" = true) (k16 : PySem.W.keepIn K (.ref f16) = true)
    (a17 : PySem.W.nsIn K mainGlobals "_law_z_signs" = some (some (.ref f17))) (l17 : K.lookup f17 = some ⟨oc17, od17, .func (PySem.W.fnOf "_law_z_signs" "_law_z_signs" (defArgs s__law_z_signs) (defBody s__law_z_signs) (defScope s__law_z_signs) .none kV17 dc17 pm17 an17 cd17 ct17), sl17⟩) (c17 : PySem.W.codeIn K cd17 "_law_z_signs" = true) (k17 : PySem.W.keepIn K (.ref f17) = true)
    (a18 : PySem.W.nsIn K mainGlobals "_law_z_path" = some (some (.ref f18))) (l18 : K.lookup f18 = some ⟨oc18, od18, .func (PySem.W.fnOf "_law_z_path" "_law_z_path" (defArgs s__law_z_path) (defBody s__law_z_path) (defScope s__law_z_path) .none kV18 dc18 pm18 an18 cd18 ct18), sl18⟩) (c18 : PySem.W.codeIn K cd18 "_law_z_path" = true) (k18 : PySem.W.keepIn K (.ref f18) = true)
    (a19 : PySem.W.nsIn K mainGlobals "_law_z_far" = some (some (.ref f19))) (l19 : K.lookup f19 = some ⟨oc19, od19, .func (PySem.W.fnOf "_law_z_far" "_law_z_far" (defArgs s__law_z_far) (defBody s__law_z_far) (defScope s__law_z_far) .none kV19 dc19 pm19 an19 cd19 ct19), sl19⟩) (c19 : PySem.W.codeIn K cd19 "_law_z_far" = true) (k19 : PySem.W.keepIn K (.ref f19) = true)
    (a20 : PySem.W.nsIn K mainGlobals "_law_z_odd" = some (some (.ref f20))) (l20 : K.lookup f20 = some ⟨oc20, od20, .func (PySem.W.fnOf "_law_z_odd" "_law_z_odd" (defArgs s__law_z_odd) (defBody s__law_z_odd) (defScope s__law_z_odd) .none kV20 dc20 pm20 an20 cd20 ct20), sl20⟩) (c20 : PySem.W.codeIn K cd20 "_law_z_odd" = true) (k20 : PySem.W.keepIn K (.ref f20) = true)
    (a21 : PySem.W.nsIn K mainGlobals "_law_z_error" = some (some (.ref f21))) (l21 : K.lookup f21 = some ⟨oc21, od21, .func (PySem.W.fnOf "_law_z_error" "_law_z_error" (defArgs s__law_z_error) (defBody s__law_z_error) (defScope s__law_z_error) .none kV21 dc21 pm21 an21 cd21 ct21), sl21⟩) (c21 : PySem.W.codeIn K cd21 "_law_z_error" = true) (k21 : PySem.W.keepIn K (.ref f21) = true)
    (a22 : PySem.W.nsIn K mainGlobals "_law_z_refused_right" = some (some (.ref f22))) (l22 : K.lookup f22 = some ⟨oc22, od22, .func (PySem.W.fnOf "_law_z_refused_right" "_law_z_refused_right" (defArgs s__law_z_refused_right) (defBody s__law_z_refused_right) (defScope s__law_z_refused_right) .none kV22 dc22 pm22 an22 cd22 ct22), sl22⟩) (c22 : PySem.W.codeIn K cd22 "_law_z_refused_right" = true) (k22 : PySem.W.keepIn K (.ref f22) = true)
    (a23 : PySem.W.nsIn K mainGlobals "law" = some (some (.ref f23))) (l23 : K.lookup f23 = some ⟨oc23, od23, .func (PySem.W.fnOf "law" "law" (defArgs s_law) (defBody s_law) (defScope s_law) .none kV23 dc23 pm23 an23 cd23 ct23), sl23⟩) (c23 : PySem.W.codeIn K cd23 "law" = true) (k23 : PySem.W.keepIn K (.ref f23) = true)
    (z_ValueError : PySem.W.nsIn K mainGlobals "ValueError" = some none)
    (z_enumerate : PySem.W.nsIn K mainGlobals "enumerate" = some none)
    (z_int : PySem.W.nsIn K mainGlobals "int" = some none)
    (z_isinstance : PySem.W.nsIn K mainGlobals "isinstance" = some none)
    (z_len : PySem.W.nsIn K mainGlobals "len" = some none)
    (z_list : PySem.W.nsIn K mainGlobals "list" = some none)
    (z_range : PySem.W.nsIn K mainGlobals "range" = some none)
    (z_repr : PySem.W.nsIn K mainGlobals "repr" = some none)
    (z_str : PySem.W.nsIn K mainGlobals "str" = some none)
    (z_zip : PySem.W.nsIn K mainGlobals "zip" = some none)
    {t_LETTERS : Tok} (v_LETTERS : PySem.W.nsIn K mainGlobals "LETTERS" = some (some (.str "ABCDabcd" t_LETTERS)))
    {t_MOST_LETTERS : Tok} (v_MOST_LETTERS : PySem.W.nsIn K mainGlobals "MOST_LETTERS" = some (some (.int 200 t_MOST_LETTERS)))
    {C_TreadError : Addr} (e_TreadError : PySem.W.nsIn K mainGlobals "TreadError" = some (some (.ref C_TreadError)))
    (y_TreadError : PySem.W.excIn K C_TreadError [.type "ValueError", .type "Exception", .type "BaseException", .type "object"] "ValueError.__new__" = true)
    (w_TreadError : excCB K C_TreadError = true)
    {C_NoWord : Addr} (e_NoWord : PySem.W.nsIn K mainGlobals "NoWord" = some (some (.ref C_NoWord)))
    (y_NoWord : PySem.W.excIn K C_NoWord [.type "ValueError", .type "Exception", .type "BaseException", .type "object"] "ValueError.__new__" = true)
    (w_NoWord : excCB K C_NoWord = true)
    {C_NoPlace : Addr} (e_NoPlace : PySem.W.nsIn K mainGlobals "NoPlace" = some (some (.ref C_NoPlace)))
    (y_NoPlace : PySem.W.excIn K C_NoPlace [.type "ValueError", .type "Exception", .type "BaseException", .type "object"] "ValueError.__new__" = true)
    (w_NoPlace : excCB K C_NoPlace = true)
    {C_NoTread : Addr} (e_NoTread : PySem.W.nsIn K mainGlobals "NoTread" = some (some (.ref C_NoTread)))
    (y_NoTread : PySem.W.excIn K C_NoTread [.type "ValueError", .type "Exception", .type "BaseException", .type "object"] "ValueError.__new__" = true)
    (w_NoTread : excCB K C_NoTread = true)
    {C_NoPower : Addr} (e_NoPower : PySem.W.nsIn K mainGlobals "NoPower" = some (some (.ref C_NoPower)))
    (y_NoPower : PySem.W.excIn K C_NoPower [.type "ValueError", .type "Exception", .type "BaseException", .type "object"] "ValueError.__new__" = true)
    (w_NoPower : excCB K C_NoPower = true)
    {C_NoNumber : Addr} (e_NoNumber : PySem.W.nsIn K mainGlobals "NoNumber" = some (some (.ref C_NoNumber)))
    (y_NoNumber : PySem.W.excIn K C_NoNumber [.type "ValueError", .type "Exception", .type "BaseException", .type "object"] "ValueError.__new__" = true)
    (w_NoNumber : excCB K C_NoNumber = true)
    {C_NoMakers : Addr} (e_NoMakers : PySem.W.nsIn K mainGlobals "NoMakers" = some (some (.ref C_NoMakers)))
    (y_NoMakers : PySem.W.excIn K C_NoMakers [.type "ValueError", .type "Exception", .type "BaseException", .type "object"] "ValueError.__new__" = true)
    (w_NoMakers : excCB K C_NoMakers = true)
    {C_NoWalk : Addr} (e_NoWalk : PySem.W.nsIn K mainGlobals "NoWalk" = some (some (.ref C_NoWalk)))
    (y_NoWalk : PySem.W.excIn K C_NoWalk [.type "ValueError", .type "Exception", .type "BaseException", .type "object"] "ValueError.__new__" = true)
    (w_NoWalk : excCB K C_NoWalk = true)
    {C_NoAnswers : Addr} (e_NoAnswers : PySem.W.nsIn K mainGlobals "NoAnswers" = some (some (.ref C_NoAnswers)))
    (y_NoAnswers : PySem.W.excIn K C_NoAnswers [.type "ValueError", .type "Exception", .type "BaseException", .type "object"] "ValueError.__new__" = true)
    (w_NoAnswers : excCB K C_NoAnswers = true)
    {C_NoWishes : Addr} (e_NoWishes : PySem.W.nsIn K mainGlobals "NoWishes" = some (some (.ref C_NoWishes)))
    (y_NoWishes : PySem.W.excIn K C_NoWishes [.type "ValueError", .type "Exception", .type "BaseException", .type "object"] "ValueError.__new__" = true)
    (w_NoWishes : excCB K C_NoWishes = true)
    {C_NoUndo : Addr} (e_NoUndo : PySem.W.nsIn K mainGlobals "NoUndo" = some (some (.ref C_NoUndo)))
    (y_NoUndo : PySem.W.excIn K C_NoUndo [.type "ValueError", .type "Exception", .type "BaseException", .type "object"] "ValueError.__new__" = true)
    (w_NoUndo : excCB K C_NoUndo = true)
    {C_NoThings : Addr} (e_NoThings : PySem.W.nsIn K mainGlobals "NoThings" = some (some (.ref C_NoThings)))
    (y_NoThings : PySem.W.excIn K C_NoThings [.type "ValueError", .type "Exception", .type "BaseException", .type "object"] "ValueError.__new__" = true)
    (w_NoThings : excCB K C_NoThings = true)
    {C_NoMatch : Addr} (e_NoMatch : PySem.W.nsIn K mainGlobals "NoMatch" = some (some (.ref C_NoMatch)))
    (y_NoMatch : PySem.W.excIn K C_NoMatch [.type "ValueError", .type "Exception", .type "BaseException", .type "object"] "ValueError.__new__" = true)
    (w_NoMatch : excCB K C_NoMatch = true)
    {C_TooGreat : Addr} (e_TooGreat : PySem.W.nsIn K mainGlobals "TooGreat" = some (some (.ref C_TooGreat)))
    (y_TooGreat : PySem.W.excIn K C_TooGreat [.type "ValueError", .type "Exception", .type "BaseException", .type "object"] "ValueError.__new__" = true)
    (w_TooGreat : excCB K C_TooGreat = true)
    (hkit : kitTab K [.ref C_NoWord, .ref C_NoPlace, .ref C_NoTread, .ref C_NoPower, .ref C_TooGreat, .ref C_NoMatch, .ref C_NoNumber, .ref C_NoMakers, .ref C_NoWalk, .ref C_NoAnswers, .ref C_NoWishes, .ref C_NoUndo, .ref C_NoThings] [.ref C_NoWord, .ref C_NoPlace, .ref C_NoTread, .ref C_NoPower, .ref C_TooGreat, .ref C_NoMatch, .ref C_NoNumber, .ref C_NoMakers, .ref C_NoWalk, .ref C_NoAnswers, .ref C_NoWishes, .ref C_NoUndo, .ref C_NoThings, .type "ValueError"] [[true, false, false, false, false, false, false, false, false, false, false, false, false, true], [false, true, false, false, false, false, false, false, false, false, false, false, false, true], [false, false, true, false, false, false, false, false, false, false, false, false, false, true], [false, false, false, true, false, false, false, false, false, false, false, false, false, true], [false, false, false, false, true, false, false, false, false, false, false, false, false, true], [false, false, false, false, false, true, false, false, false, false, false, false, false, true], [false, false, false, false, false, false, true, false, false, false, false, false, false, true], [false, false, false, false, false, false, false, true, false, false, false, false, false, true], [false, false, false, false, false, false, false, false, true, false, false, false, false, true], [false, false, false, false, false, false, false, false, false, true, false, false, false, true], [false, false, false, false, false, false, false, false, false, false, true, false, false, true], [false, false, false, false, false, false, false, false, false, false, false, true, false, true], [false, false, false, false, false, false, false, false, false, false, false, false, true, true]] = true)
    (hsub : ([C_NoWord, C_NoPlace, C_NoTread, C_NoPower, C_TooGreat, C_NoMatch, C_NoNumber, C_NoMakers, C_NoWalk, C_NoAnswers, C_NoWishes, C_NoUndo, C_NoThings] : List Addr).all (fun D => PySem.W.subIn K (.ref D) (.ref C_TreadError) == some true) = true)
    {tc0 tp0 : Addr} (ht0 : tabOf K f22 = some (tc0, tp0)) (hr0 : ((recsOf q).any fun e => e.name == "_law_z_refused_right") = true) :
    ∃ (fd : FuncData) (ts : List (Str × Addr × Addr × Addr)) (sp : Sp), (∀ t ∈ ts, ((recsOf q).any fun e => e.name == t.1) = true ∧ mg t.1 = some (.ref t.2.1) ∧ tabOf K t.2.1 = some t.2.2) ∧ (∀ (s : Shared) (u : Value), BindsTo s fd ⟨[u], []⟩ [("script", u)]) ∧
      (∀ (H : Hp) (a : Addr) (ns : List Int), ns.length ≤ 63 → (∀ t ∈ ts, H t.2.2.2 = some (.tbl #[])) → SqL K H a (ns.map V.int) → sp [.ref a] H (fun v _ => v = .bl true) E0) ∧
      ∀ base : Heap, K.In base → base.Ns mainGlobals mg → (∀ t ∈ ts, TabB base mg t.2.2.1 t.2.2.2) → FnG l.prog w K mg base CX0 10 fa fd ["script"] sp := by
  have e := hfa.symm.trans (PySem.W.mg_of X G a23)
  cases e
  have T : Txt K mg C_TreadError C_NoWord C_NoPlace C_NoTread C_NoPower C_NoNumber C_NoMakers C_NoWalk C_NoAnswers C_NoWishes C_NoUndo C_NoThings C_NoMatch C_TooGreat := ⟨XC.of X G e_TreadError y_TreadError w_TreadError, XC.of X G e_NoWord y_NoWord w_NoWord, XC.of X G e_NoPlace y_NoPlace w_NoPlace, XC.of X G e_NoTread y_NoTread w_NoTread, XC.of X G e_NoPower y_NoPower w_NoPower, XC.of X G e_NoNumber y_NoNumber w_NoNumber, XC.of X G e_NoMakers y_NoMakers w_NoMakers, XC.of X G e_NoWalk y_NoWalk w_NoWalk, XC.of X G e_NoAnswers y_NoAnswers w_NoAnswers, XC.of X G e_NoWishes y_NoWishes w_NoWishes, XC.of X G e_NoUndo y_NoUndo w_NoUndo, XC.of X G e_NoThings y_NoThings w_NoThings, XC.of X G e_NoMatch y_NoMatch w_NoMatch, XC.of X G e_TooGreat y_TooGreat w_TooGreat, PySem.W.mg_none_of X G z_ValueError, PySem.W.mg_none_of X G z_enumerate, PySem.W.mg_none_of X G z_int, PySem.W.mg_none_of X G z_isinstance, PySem.W.mg_none_of X G z_len, PySem.W.mg_none_of X G z_list, PySem.W.mg_none_of X G z_range, PySem.W.mg_none_of X G z_repr, PySem.W.mg_none_of X G z_str, PySem.W.mg_none_of X G z_zip, ⟨_, PySem.W.mg_of X G v_LETTERS, ⟨_, rfl⟩⟩, ⟨_, PySem.W.mg_of X G v_MOST_LETTERS, ⟨_, rfl⟩⟩⟩
  have F0 := fun_mk (st := s__law_spread) l0 c0 k0
  have b0 := F0.binds (ps := ["cell", "at"]) fun _ _ _ _ _ _ us hl => match us, hl with | [_, _], _ => rfl
  have F1 := fun_mk (st := s__law_open) l1 c1 k1
  have b1 := F1.binds (ps := ["script"]) fun _ _ _ _ _ _ us hl => match us, hl with | [_], _ => rfl
  have F2 := fun_mk (st := s__law_take) l2 c2 k2
  have b2 := F2.binds (ps := ["pen", "many"]) fun _ _ _ _ _ _ us hl => match us, hl with | [_, _], _ => rfl
  have F3 := fun_mk (st := s__law_z_pick) l3 c3 k3
  have b3 := F3.binds (ps := ["pen", "some"]) fun _ _ _ _ _ _ us hl => match us, hl with | [_, _], _ => rfl
  have F4 := fun_mk (st := s_is_word) l4 c4 k4
  have b4 := F4.binds (ps := ["thing"]) fun _ _ _ _ _ _ us hl => match us, hl with | [_], _ => rfl
  have F5 := fun_mk (st := s_is_place) l5 c5 k5
  have b5 := F5.binds (ps := ["thing"]) fun _ _ _ _ _ _ us hl => match us, hl with | [_], _ => rfl
  have F6 := fun_mk (st := s_check_word) l6 c6 k6
  have b6 := F6.binds (ps := ["word"]) fun _ _ _ _ _ _ us hl => match us, hl with | [_], _ => rfl
  have F7 := fun_mk (st := s_turn) l7 c7 k7
  have b7 := F7.binds (ps := ["word"]) fun _ _ _ _ _ _ us hl => match us, hl with | [_], _ => rfl
  have F8 := fun_mk (st := s_step) l8 c8 k8
  have b8 := F8.binds (ps := ["place", "letter"]) fun _ _ _ _ _ _ us hl => match us, hl with | [_, _], _ => rfl
  have F9 := fun_mk (st := s_follow) l9 c9 k9
  have b9 := F9.binds (ps := ["place", "word"]) fun _ _ _ _ _ _ us hl => match us, hl with | [_, _], _ => rfl
  have F10 := fun_mk (st := s_check_place) l10 c10 k10
  have b10 := F10.binds (ps := ["place"]) fun _ _ _ _ _ _ us hl => match us, hl with | [_], _ => rfl
  have F11 := fun_mk (st := s_back) l11 c11 k11
  have b11 := F11.binds (ps := ["word"]) fun _ _ _ _ _ _ us hl => match us, hl with | [_], _ => rfl
  have F12 := fun_mk (st := s_reduced) l12 c12 k12
  have b12 := F12.binds (ps := ["word"]) fun _ _ _ _ _ _ us hl => match us, hl with | [_], _ => rfl
  have F13 := fun_mk (st := s_behind) l13 c13 k13
  have b13 := F13.binds (ps := ["place", "word"]) fun _ _ _ _ _ _ us hl => match us, hl with | [_, _], _ => rfl
  have F14 := fun_mk (st := s__law_z_other) l14 c14 k14
  have b14 := F14.binds (ps := ["letter"]) fun _ _ _ _ _ _ us hl => match us, hl with | [_], _ => rfl
  have F15 := fun_mk (st := s__law_z_mirror) l15 c15 k15
  have b15 := F15.binds (ps := ["word"]) fun _ _ _ _ _ _ us hl => match us, hl with | [_], _ => rfl
  have F16 := fun_mk (st := s__law_z_behind) l16 c16 k16
  have b16 := F16.binds (ps := ["place", "word"]) fun _ _ _ _ _ _ us hl => match us, hl with | [_, _], _ => rfl
  have F17 := fun_mk (st := s__law_z_signs) l17 c17 k17
  have b17 := F17.binds (ps := ["pen"]) fun _ _ _ _ _ _ us hl => match us, hl with | [_], _ => rfl
  have F18 := fun_mk (st := s__law_z_path) l18 c18 k18
  have b18 := F18.binds (ps := ["pen", "most", "signs"]) fun _ _ _ _ _ _ us hl => match us, hl with | [_, _, _], _ => rfl
  have F19 := fun_mk (st := s__law_z_far) l19 c19 k19
  have b19 := F19.binds (ps := ["pen", "many"]) fun _ _ _ _ _ _ us hl => match us, hl with | [_, _], _ => rfl
  have F20 := fun_mk (st := s__law_z_odd) l20 c20 k20
  have b20 := F20.binds (ps := ["pen", "word"]) fun _ _ _ _ _ _ us hl => match us, hl with | [_, _], _ => rfl
  have F21 := fun_mk (st := s__law_z_error) l21 c21 k21
  have b21 := F21.binds (ps := ["act"]) fun _ _ _ _ _ _ us hl => match us, hl with | [_], _ => rfl
  have F22 := fun_mk (st := s__law_z_refused_right) l22 c22 k22
  have b22 := F22.binds (ps := ["pen", "word", "place"]) fun _ _ _ _ _ _ us hl => match us, hl with | [_, _, _], _ => rfl
  have F23 := fun_mk (st := s_law) l23 c23 k23
  have b23 := F23.binds (ps := ["script"]) fun _ _ _ _ _ _ us hl => match us, hl with | [_], _ => rfl
  refine ⟨PySem.W.fnOf "law" "law" (defArgs s_law) (defBody s_law) (defScope s_law) .none kV23 dc23 pm23 an23 cd23 ct23, [("_law_z_refused_right", f22, tc0, tp0)], spLaw K tp0, fun t ht => ?_, fun s v => .of_eq rfl, fun H a ns hl hH hS => ?_, fun base _ _ TB => ?_⟩
  · simp only [List.mem_cons, List.not_mem_nil, or_false] at ht
    rcases ht with rfl
    · exact ⟨hr0, PySem.W.mg_of X G a22, ht0⟩
  · exact ⟨a, ns, rfl, hS, hl, fun t ht => by rw [List.mem_singleton.mp ht]; exact LamX.TabS.nil (hH _ (List.mem_cons_self ..)), fun _ => rfl⟩
  have TB0 := TB _ (List.mem_cons_self ..)
  have D__law_spread := ok__law_spread (P := l.prog) (w := w) (base := base) T F0 (PySem.W.mg_of X G a0) b0
  have D__law_open := ok__law_open (P := l.prog) (w := w) (base := base) T F1 (PySem.W.mg_of X G a1) b1
  have D__law_take := ok__law_take (P := l.prog) (w := w) (base := base) T D__law_spread F2 (PySem.W.mg_of X G a2) b2
  have D__law_z_pick := ok__law_z_pick (P := l.prog) (w := w) (base := base) T D__law_take F3 (PySem.W.mg_of X G a3) b3
  have D_is_word := ok_is_word (P := l.prog) (w := w) (base := base) T F4 (PySem.W.mg_of X G a4) b4
  have D_is_place := ok_is_place (P := l.prog) (w := w) (base := base) T D_is_word F5 (PySem.W.mg_of X G a5) b5
  have D_check_word := ok_check_word (P := l.prog) (w := w) (base := base) T D_is_word F6 (PySem.W.mg_of X G a6) b6
  have D_turn := ok_turn (P := l.prog) (w := w) (base := base) T F7 (PySem.W.mg_of X G a7) b7
  have D_step := ok_step (P := l.prog) (w := w) (base := base) T F8 (PySem.W.mg_of X G a8) b8
  have D_follow := ok_follow (P := l.prog) (w := w) (base := base) T D_step F9 (PySem.W.mg_of X G a9) b9
  have D_check_place := ok_check_place (P := l.prog) (w := w) (base := base) T D_is_place F10 (PySem.W.mg_of X G a10) b10
  have D_back := ok_back (P := l.prog) (w := w) (base := base) T D_turn D_check_word F11 (PySem.W.mg_of X G a11) b11
  have D_reduced := ok_reduced (P := l.prog) (w := w) (base := base) T D_follow D_check_word F12 (PySem.W.mg_of X G a12) b12
  have D_behind := ok_behind (P := l.prog) (w := w) (base := base) T D_follow D_check_word D_check_place F13 (PySem.W.mg_of X G a13) b13
  have D__law_z_other := ok__law_z_other (P := l.prog) (w := w) (base := base) T F14 (PySem.W.mg_of X G a14) b14
  have D__law_z_mirror := ok__law_z_mirror (P := l.prog) (w := w) (base := base) T D__law_z_other F15 (PySem.W.mg_of X G a15) b15
  have D__law_z_behind := ok__law_z_behind (P := l.prog) (w := w) (base := base) T D__law_z_other F16 (PySem.W.mg_of X G a16) b16
  have D__law_z_signs := ok__law_z_signs (P := l.prog) (w := w) (base := base) T D__law_z_pick F17 (PySem.W.mg_of X G a17) b17
  have D__law_z_path := ok__law_z_path (P := l.prog) (w := w) (base := base) T D__law_take D__law_z_behind D__law_z_other D__law_z_pick F18 (PySem.W.mg_of X G a18) b18
  have D__law_z_far := ok__law_z_far (P := l.prog) (w := w) (base := base) T D__law_z_pick F19 (PySem.W.mg_of X G a19) b19
  have D__law_z_odd := ok__law_z_odd (P := l.prog) (w := w) (base := base) T D__law_z_pick D__law_take F20 (PySem.W.mg_of X G a20) b20
  have D__law_z_error := ok__law_z_error (P := l.prog) (w := w) (base := base) T F21 (PySem.W.mg_of X G a21) b21 hkit hsub
  have D__law_z_refused_right := ok__law_z_refused_right (P := l.prog) (w := w) (base := base) T D_is_word D_is_place D__law_z_error D_behind D_reduced D_back D__law_take D__law_z_pick D__law_z_far D__law_z_odd F22 (PySem.W.mg_of X G a22) b22 ht0 TB0
  have D_law := ok_law (P := l.prog) (w := w) (base := base) T D_is_place D_is_word D_reduced D__law_z_mirror D__law_take D__law_z_far D__law_z_pick D__law_z_refused_right D_behind D__law_z_behind D_back D__law_z_path D__law_z_signs D__law_open F23 (PySem.W.mg_of X G a23) b23
  exact D_law
end K31
open PySem PySem.W PyProof.Rows
set_option maxHeartbeats 0 in
theorem PySem.Challenge.cw_solvedtreads_k31_words_and_places_holds : PySem.Challenge.rw_solvedtreads_k31_words_and_places.Holds := by
  w_on; o_law; k_head; (case hw => w_witness2)
  k_fill
  refine Xia.walkG (l := PySem.Challenge.rw_solvedtreads_k31_words_and_places) (n := 63) (k := 10) (x := "script") rfl (by decide) rfl ⟨rfl, by decide, by decide⟩ (fun w h Y => PySem.W.km_in_of Y) ?F
  case F =>
    intro w mg fa h KX G hmg
    refine' K31.all_mk KX G hmg ?a0 ?l0 ?c0 ?k0 ?a1 ?l1 ?c1 ?k1 ?a2 ?l2 ?c2 ?k2 ?a3 ?l3 ?c3 ?k3 ?a4 ?l4 ?c4 ?k4 ?a5 ?l5 ?c5 ?k5 ?a6 ?l6 ?c6 ?k6 ?a7 ?l7 ?c7 ?k7 ?a8 ?l8 ?c8 ?k8 ?a9 ?l9 ?c9 ?k9 ?a10 ?l10 ?c10 ?k10 ?a11 ?l11 ?c11 ?k11 ?a12 ?l12 ?c12 ?k12 ?a13 ?l13 ?c13 ?k13 ?a14 ?l14 ?c14 ?k14 ?a15 ?l15 ?c15 ?k15 ?a16 ?l16 ?c16 ?k16 ?a17 ?l17 ?c17 ?k17 ?a18 ?l18 ?c18 ?k18 ?a19 ?l19 ?c19 ?k19 ?a20 ?l20 ?c20 ?k20 ?a21 ?l21 ?c21 ?k21 ?a22 ?l22 ?c22 ?k22 ?a23 ?l23 ?c23 ?k23 ?z_ValueError ?z_enumerate ?z_int ?z_isinstance ?z_len ?z_list ?z_range ?z_repr ?z_str ?z_zip ?v_LETTERS ?v_MOST_LETTERS ?e_TreadError ?y_TreadError ?w_TreadError ?e_NoWord ?y_NoWord ?w_NoWord ?e_NoPlace ?y_NoPlace ?w_NoPlace ?e_NoTread ?y_NoTread ?w_NoTread ?e_NoPower ?y_NoPower ?w_NoPower ?e_NoNumber ?y_NoNumber ?w_NoNumber ?e_NoMakers ?y_NoMakers ?w_NoMakers ?e_NoWalk ?y_NoWalk ?w_NoWalk ?e_NoAnswers ?y_NoAnswers ?w_NoAnswers ?e_NoWishes ?y_NoWishes ?w_NoWishes ?e_NoUndo ?y_NoUndo ?w_NoUndo ?e_NoThings ?y_NoThings ?w_NoThings ?e_NoMatch ?y_NoMatch ?w_NoMatch ?e_TooGreat ?y_TooGreat ?w_TooGreat ?hkit ?hsub ?ht0 ?hr0
    (case a0 => k_is); (case l0 => k_is); (case c0 => k_is); (case k0 => k_is); (case a1 => k_is); (case l1 => k_is); (case c1 => k_is); (case k1 => k_is); (case a2 => k_is); (case l2 => k_is); (case c2 => k_is); (case k2 => k_is); (case a3 => k_is); (case l3 => k_is); (case c3 => k_is); (case k3 => k_is); (case a4 => k_is); (case l4 => k_is); (case c4 => k_is); (case k4 => k_is); (case a5 => k_is); (case l5 => k_is); (case c5 => k_is); (case k5 => k_is); (case a6 => k_is); (case l6 => k_is); (case c6 => k_is); (case k6 => k_is); (case a7 => k_is); (case l7 => k_is); (case c7 => k_is); (case k7 => k_is); (case a8 => k_is); (case l8 => k_is); (case c8 => k_is); (case k8 => k_is); (case a9 => k_is); (case l9 => k_is); (case c9 => k_is); (case k9 => k_is); (case a10 => k_is); (case l10 => k_is); (case c10 => k_is); (case k10 => k_is); (case a11 => k_is); (case l11 => k_is); (case c11 => k_is); (case k11 => k_is); (case a12 => k_is); (case l12 => k_is); (case c12 => k_is); (case k12 => k_is); (case a13 => k_is); (case l13 => k_is); (case c13 => k_is); (case k13 => k_is); (case a14 => k_is); (case l14 => k_is); (case c14 => k_is); (case k14 => k_is); (case a15 => k_is); (case l15 => k_is); (case c15 => k_is); (case k15 => k_is); (case a16 => k_is); (case l16 => k_is); (case c16 => k_is); (case k16 => k_is); (case a17 => k_is); (case l17 => k_is); (case c17 => k_is); (case k17 => k_is); (case a18 => k_is); (case l18 => k_is); (case c18 => k_is); (case k18 => k_is); (case a19 => k_is); (case l19 => k_is); (case c19 => k_is); (case k19 => k_is); (case a20 => k_is); (case l20 => k_is); (case c20 => k_is); (case k20 => k_is); (case a21 => k_is); (case l21 => k_is); (case c21 => k_is); (case k21 => k_is); (case a22 => k_is); (case l22 => k_is); (case c22 => k_is); (case k22 => k_is); (case a23 => k_is); (case l23 => k_is); (case c23 => k_is); (case k23 => k_is); (case z_ValueError => k_is); (case z_enumerate => k_is); (case z_int => k_is); (case z_isinstance => k_is); (case z_len => k_is); (case z_list => k_is); (case z_range => k_is); (case z_repr => k_is); (case z_str => k_is); (case z_zip => k_is); (case v_LETTERS => k_is); (case v_MOST_LETTERS => k_is); (case e_TreadError => k_is); (case y_TreadError => k_exc); (case w_TreadError => kernel_rfl); (case e_NoWord => k_is); (case y_NoWord => k_exc); (case w_NoWord => kernel_rfl); (case e_NoPlace => k_is); (case y_NoPlace => k_exc); (case w_NoPlace => kernel_rfl); (case e_NoTread => k_is); (case y_NoTread => k_exc); (case w_NoTread => kernel_rfl); (case e_NoPower => k_is); (case y_NoPower => k_exc); (case w_NoPower => kernel_rfl); (case e_NoNumber => k_is); (case y_NoNumber => k_exc); (case w_NoNumber => kernel_rfl); (case e_NoMakers => k_is); (case y_NoMakers => k_exc); (case w_NoMakers => kernel_rfl); (case e_NoWalk => k_is); (case y_NoWalk => k_exc); (case w_NoWalk => kernel_rfl); (case e_NoAnswers => k_is); (case y_NoAnswers => k_exc); (case w_NoAnswers => kernel_rfl); (case e_NoWishes => k_is); (case y_NoWishes => k_exc); (case w_NoWishes => kernel_rfl); (case e_NoUndo => k_is); (case y_NoUndo => k_exc); (case w_NoUndo => kernel_rfl); (case e_NoThings => k_is); (case y_NoThings => k_exc); (case w_NoThings => kernel_rfl); (case e_NoMatch => k_is); (case y_NoMatch => k_exc); (case w_NoMatch => kernel_rfl); (case e_TooGreat => k_is); (case y_TooGreat => k_exc); (case w_TooGreat => kernel_rfl); (case hkit => kernel_rfl); (case hsub => kernel_rfl); (case ht0 => (first | k_is | exact rfl)); (case hr0 => kernel_rfl)
