import PyProof.Rows.All
import Wide.All
import OpenK.AllK
import Wide.FinOn
import PyProof.EqAt
import PyProof.EqKinds
import PyProof.TupleCall
import HandS.Base
import HandS.Call
import HandS.List
import HandS.Comp
import HandS.Ends
import HandS.Dict
import HandS.Iter
import HandS.Text
import HandS.Words
import HandS.WordsList
import HandS.WordsDict
import HandS.Exc
import HandS.ExcOwn
import HandS.TryOnly
import HandS.WordsExc
import HandS.IsInst
import HandS.ExcValue
import HandS.ExcIs
import HandS.Walk
import HandS.Codes
import PySem.Challenge.RW_solvedtreads_k44_errors_by_hand
set_option Elab.async false
set_option linter.all false
set_option maxRecDepth 100000
set_option maxHeartbeats 4000000
/-! Own rules: readings that reduce by themselves (match on the values), calls of defs by one fact, exceptions kept as values. -/
namespace Xia
open PySem PySem.Spec PyProof.Rows L2

/-! ### names -/
def tV (i : Nat) : TE := fun σ H Q => match σ[i]? with | some (some v) => Q v H | _ => False
section
variable {X : Cx}
theorem pV (i : Nat) {x : Str} {pos : Pos} (hN : X.N[i]? = some x := by rfl) (hv : Vis X.env.scope x := by first | exact Or.inl rfl | exact Or.inr (Or.inl rfl) | exact Or.inr (Or.inr rfl)) (hd : (x == ("__debug__" : Str)) = false := by decide)
    (hcd : (x == ("__classdict__" : Str)) = false := by decide) : PE X (.Name x pos) (tV i) := by
  refine ⟨fun pins s σ H Q I h => (pe_var hN hv hd hcd).run pins s σ H Q I ?_⟩
  unfold tV at h
  split at h
  · rename_i v e
    exact ⟨v, e, h⟩
  · exact h.elim

/-! ### operators -/
def mAdd : R2 := fun x y H Q => match x, y with
  | .int i, .int j => Q (.int (i + j)) H
  | .str a, .str b => a.length + b.length ≤ sizeLine ∧ Q (.str (a ++ b)) H
  | .ref p, .ref q => ∃ xs ys, H p = some (.lst xs) ∧ H q = some (.lst ys) ∧ xs.length + ys.length ≤ sizeLine ∧ ∀ r, H r = none → Q (.ref r) (upd H r (.lst (xs ++ ys)))
  | _, _ => False
theorem oAdd : OpR X (binaryOp .Add) mAdd := by
  intro pins s σ H x y v u Q I rx ry h
  unfold mAdd at h
  split at h
  · exact op_add pins s σ H _ _ v u Q I rx ry ⟨_, _, rfl, rfl, h⟩
  · exact op_add_str pins s σ H _ _ v u Q I rx ry ⟨_, _, rfl, rfl, h⟩
  · obtain ⟨xs, ys, h1, h2, h3, h4⟩ := h
    exact op_cat pins s σ H _ _ v u Q I rx ry ⟨_, _, _, _, rfl, rfl, h1, h2, h3, h4⟩
  · exact h.elim
def mSub : R2 := fun x y H Q => match x, y with | .int i, .int j => Q (.int (i - j)) H | _, _ => False
theorem oSub : OpR X (binaryOp .Sub) mSub := by
  intro pins s σ H x y v u Q I rx ry h
  unfold mSub at h
  split at h
  · exact op_sub pins s σ H _ _ v u Q I rx ry ⟨_, _, rfl, rfl, h⟩
  · exact h.elim
/-- a text, n times -/
def repS (a : Str) (n : Int) : Str := Txt.mul a n
theorem op_mul_str : OpR X (binaryOp .Mult) (fun x y H Q => ∃ a i, x = .str a ∧ y = .int i ∧ MulOk a i ∧ Q (.str (Txt.mul a i)) H) := by
  intro pins s σ H x y v u Q I rx ry h
  obtain ⟨a, i, rfl, rfl, hc, q⟩ := h
  obtain ⟨t, rfl⟩ := rx
  obtain ⟨t', rfl⟩ := ry
  exact SB.mul hc fun t' k => ⟨.str _, H, I.tok k, ⟨_, rfl⟩, q⟩
def mMul : R2 := fun x y H Q => match x, y with
  | .int i, .int j => CMul i j ∧ Q (.int (i * j)) H
  | .str a, .int i => MulOk a i ∧ Q (.str (Txt.mul a i)) H
  | .ref l, .int k => ∃ xs, H l = some (.lst xs) ∧ -(2 ^ 63) ≤ k ∧ k < 2 ^ 63 ∧ xs.length * k.toNat ≤ sizeLine ∧ ∀ p, H p = none → Q (.ref p) (upd H p (.lst (List.replicate k.toNat xs).flatten))
  | _, _ => False
theorem oMul : OpR X (binaryOp .Mult) mMul := by
  intro pins s σ H x y v u Q I rx ry h
  unfold mMul at h
  split at h
  · exact op_mul pins s σ H _ _ v u Q I rx ry ⟨_, _, rfl, rfl, h⟩
  · exact op_mul_str pins s σ H _ _ v u Q I rx ry ⟨_, _, rfl, rfl, h⟩
  · obtain ⟨xs, h1, h2, h3, h4, h5⟩ := h
    exact op_rep pins s σ H _ _ v u Q I rx ry ⟨_, _, _, rfl, rfl, h1, h2, h3, h4, h5⟩
  · exact h.elim
def mMod : R2 := fun x y H Q => match x, y with | .int i, .int j => 0 < j ∧ Q (.int (i % j)) H | _, _ => False
theorem oMod : OpR X (binaryOp .Mod) mMod := by
  intro pins s σ H x y v u Q I rx ry h
  unfold mMod at h
  split at h
  · exact op_mod pins s σ H _ _ v u Q I rx ry ⟨_, _, rfl, rfl, h⟩
  · exact h.elim
def mFdiv : R2 := fun x y H Q => match x, y with | .int i, .int j => CDiv i j ∧ Q (.int (i / j)) H | _, _ => False
theorem oFdiv : OpR X (binaryOp .FloorDiv) mFdiv := by
  intro pins s σ H x y v u Q I rx ry h
  unfold mFdiv at h
  split at h
  · exact op_fdiv pins s σ H _ _ v u Q I rx ry ⟨_, _, rfl, rfl, h⟩
  · exact h.elim
def mPow : R2 := fun x y H Q => match x, y with | .int i, .int j => CPow i j ∧ Q (.int (i ^ j.toNat)) H | _, _ => False
theorem oPow : OpR X (binaryOp .Pow) mPow := by
  intro pins s σ H x y v u Q I rx ry h
  unfold mPow at h
  split at h
  · exact op_pow pins s σ H _ _ v u Q I rx ry ⟨_, _, rfl, rfl, h⟩
  · exact h.elim
def mNeg : V → Hp → VK → Prop := fun x H Q => match x with | .int i => Q (.int (-i)) H | _ => False
theorem oNeg : UnR X (unaryOp .USub) mNeg := by
  intro pins s σ H x v Q I rx h
  unfold mNeg at h
  split at h
  · exact un_neg pins s σ H _ v Q I rx ⟨_, rfl, h⟩
  · exact h.elim

/-! ### comparisons -/
/-- do the two stand for data, and are they equal -/
def EqB (K : PySem.W.Frag) (H : Hp) (x y : V) (b : Bool) : Prop := ∃ d e, Dp K H x d ∧ Dp K H y e ∧ SeqAt.shaped d = true ∧ SeqAt.shaped e = true ∧ b = PyData.eqv d e
def mEq (K : PySem.W.Frag) : R2 := fun x y H Q => match x, y with
  | .int i, .int j => Q (.bl (decide (i = j))) H
  | .str i, .str j => Q (.bl (decide (i = j))) H
  | .bl i, .bl j => Q (.bl (decide (i = j))) H
  | .int _, .non => Q (.bl false) H
  | .non, .non => Q (.bl true) H
  | x, y => ∃ b, EqB K H x y b ∧ Q (.bl b) H
theorem oEq {K : PySem.W.Frag} (hu : X.A.units + 64 < cLine) (hK : X.K = K := by rfl) : OpR X (compareOp .Eq) (mEq K) := by
  subst hK
  intro pins s σ H x y v u Q I rx ry h
  unfold mEq at h
  split at h
  · exact op_eq pins s σ H _ _ v u Q I rx ry ⟨rfl, by simpa using h⟩
  · exact op_eq pins s σ H _ _ v u Q I rx ry ⟨rfl, by simpa using h⟩
  · exact op_eq pins s σ H _ _ v u Q I rx ry ⟨rfl, by simpa using h⟩
  · exact op_eq pins s σ H _ _ v u Q I rx ry ⟨rfl, by simpa using h⟩
  · exact op_eq pins s σ H _ _ v u Q I rx ry ⟨rfl, by simpa using h⟩
  · obtain ⟨b, ⟨d, e, h1, h2, h3, h4, rfl⟩, q⟩ := h
    exact op_eqD hu pins s σ H _ _ v u Q I rx ry ⟨d, e, h1, h2, h3, h4, q⟩
def mNe (K : PySem.W.Frag) : R2 := fun x y H Q => match x, y with
  | .int i, .int j => Q (.bl (!decide (i = j))) H
  | .str i, .str j => Q (.bl (!decide (i = j))) H
  | .bl i, .bl j => Q (.bl (!decide (i = j))) H
  | .non, .non => Q (.bl false) H
  | x, y => ∃ b, EqB K H x y b ∧ Q (.bl (!b)) H
theorem oNe {K : PySem.W.Frag} (hu : X.A.units + 64 < cLine) (hK : X.K = K := by rfl) : OpR X (compareOp .NotEq) (mNe K) := by
  subst hK
  intro pins s σ H x y v u Q I rx ry h
  unfold mNe at h
  split at h
  · exact op_ne pins s σ H _ _ v u Q I rx ry ⟨rfl, by simpa using h⟩
  · exact op_ne pins s σ H _ _ v u Q I rx ry ⟨rfl, by simpa using h⟩
  · exact op_ne pins s σ H _ _ v u Q I rx ry ⟨rfl, by simpa using h⟩
  · exact op_ne pins s σ H _ _ v u Q I rx ry ⟨rfl, by simpa using h⟩
  · obtain ⟨b, ⟨d, e, h1, h2, h3, h4, rfl⟩, q⟩ := h
    exact op_neD hu pins s σ H _ _ v u Q I rx ry ⟨d, e, h1, h2, h3, h4, q⟩
def mII (g : Int → Int → Bool) : R2 := fun x y H Q => match x, y with | .int i, .int j => Q (.bl (g i j)) H | _, _ => False
theorem oII {f : Value → Value → Sem Value} {g : Int → Int → Bool} (h : OpR X f (rI0 fun i j => .bl (g i j))) : OpR X f (mII g) := by
  intro pins s σ H x y v u Q I rx ry q
  unfold mII at q
  split at q
  · exact h pins s σ H _ _ v u Q I rx ry ⟨_, _, rfl, rfl, q⟩
  · exact q.elim
theorem oLt : OpR X (compareOp .Lt) (mII fun i j => decide (i < j)) := oII op_lt
theorem oLe : OpR X (compareOp .LtE) (mII fun i j => decide (i ≤ j)) := oII op_le
theorem oGt : OpR X (compareOp .Gt) (mII fun i j => decide (j < i)) := oII op_gt
theorem oGe : OpR X (compareOp .GtE) (mII fun i j => decide (j ≤ i)) := oII op_ge
def mIsN : R2 := fun x y H Q => match y with | .non => Q (.bl (decide (x = .non))) H | _ => False
theorem oIs : OpR X (compareOp .Is) mIsN := by
  intro pins s σ H x y v u Q I rx ry h
  unfold mIsN at h
  split at h
  · exact op_isN pins s σ H _ _ v u Q I rx ry ⟨rfl, h⟩
  · exact h.elim
def mNotN : R2 := fun x y H Q => match y with | .non => Q (.bl (!decide (x = .non))) H | _ => False
theorem oIsNot : OpR X (compareOp .IsNot) mNotN := by
  intro pins s σ H x y v u Q I rx ry h
  unfold mNotN at h
  split at h
  · exact op_notN pins s σ H _ _ v u Q I rx ry ⟨rfl, h⟩
  · exact h.elim
/-- one sign in a text -/
def mInS (n : Bool) : R2 := fun x y H Q => match x, y with | .str c, .str z => c.cps.size = 1 ∧ Q (.bl (n != decide (c.cps.getD 0 0 ∈ z.cps.toList))) H | _, _ => False
theorem sign_of {c : Str} (h : c.cps.size = 1) : c = ⟨#[c.cps.getD 0 0]⟩ := by
  obtain ⟨⟨l⟩⟩ := c
  match l, h with
  | [a], _ => rfl
theorem oInS : OpR X (compareOp .In) (mInS false) := by
  intro pins s σ H x y v u Q I rx ry h
  unfold mInS at h
  split at h
  · rename_i c z
    obtain ⟨h1, h2⟩ := h
    refine op_in_sign pins s σ H _ _ v u Q I rx ry ⟨c.cps.getD 0 0, z, by rw [← sign_of h1], rfl, ?_⟩
    simpa using h2
  · exact h.elim
theorem oNotInS : OpR X (compareOp .NotIn) (mInS true) := by
  intro pins s σ H x y v u Q I rx ry h
  unfold mInS at h
  split at h
  · rename_i c z
    obtain ⟨h1, h2⟩ := h
    refine op_notIn_sign pins s σ H _ _ v u Q I rx ry ⟨c.cps.getD 0 0, z, by rw [← sign_of h1], rfl, ?_⟩
    simpa using h2
  · exact h.elim
/-! ### subscripts, len, int -/
def mIx (K : PySem.W.Frag) : R2 := fun x y H Q => match x, y with
  | .str z, .int i => z.length ≤ sizeLine ∧ ∃ c, atI z.cps.toList i = some c ∧ Q (.str ⟨#[c]⟩) H
  | .ref p, .int i => ∃ xs v, (SqL K H p xs ∨ SqT K H p xs) ∧ atI xs i = some v ∧ Q v H
  | _, _ => False
theorem xIx {K : PySem.W.Frag} (hK : X.K = K := by rfl) : IxR X (mIx K) := by
  subst hK
  intro value slice pins s σ H x y v u Q I rx ry h hs
  unfold mIx at h
  split at h
  · obtain ⟨h1, c, h2, h3⟩ := h
    exact ix_str value slice pins s σ H _ _ v u Q I rx ry ⟨_, _, _, rfl, rfl, h1, h2, h3⟩ hs
  · obtain ⟨xs, w', h1 | h1, h2, h3⟩ := h
    · exact ix_list value slice pins s σ H _ _ v u Q I rx ry ⟨_, _, _, _, rfl, rfl, h1, h2, h3⟩ hs
    · exact ix_tup value slice pins s σ H _ _ v u Q I rx ry ⟨_, _, _, _, rfl, rfl, h1, h2, h3⟩ hs
  · exact h.elim
def mLen (K : PySem.W.Frag) : List V → Hp → VK → Prop := fun xs H Q => match xs with
  | [.str z] => z.length ≤ sizeLine ∧ Q (.int z.length) H
  | [.ref p] => ∃ ys, (SqL K H p ys ∨ SqT K H p ys) ∧ Q (.int ys.length) H
  | _ => False
theorem cLen {K : PySem.W.Frag} (hK : X.K = K := by rfl) : CallR X (.builtin "len") (mLen K) := by
  subst hK
  intro pins s σ H xs us Q I r h
  unfold mLen at h
  split at h
  · exact call_len_str pins s σ H _ us Q I r ⟨_, rfl, h⟩
  · obtain ⟨ys, h1, h2⟩ := h
    exact call_len_seq pins s σ H _ us Q I r ⟨_, ys, rfl, h1, h2⟩
  · exact h.elim
def mInt1 : List V → Hp → VK → Prop := fun xs H Q => match xs with | [.int i] => Q (.int i) H | _ => False
theorem cInt : CallR X (.type "int") mInt1 := by
  intro pins s σ H xs us Q I r h
  unfold mInt1 at h
  split at h
  · exact call_int1 pins s σ H _ us Q I r (.inl ⟨_, rfl, h⟩)
  · exact h.elim
def mListOf (K : PySem.W.Frag) : List V → Hp → VK → Prop := fun xs H Q => match xs with
  | [.ref p] => ∃ ys, (SqL K H p ys ∨ SqT K H p ys) ∧ ∀ l, H l = none → Q (.ref l) (upd H l (.lst ys))
  | _ => False
theorem cListOf {K : PySem.W.Frag} (hK : X.K = K := by rfl) : CallR X (.type "list") (mListOf K) := by
  subst hK
  intro pins s σ H xs us Q I r h
  unfold mListOf at h
  split at h
  · obtain ⟨ys, h1, h2⟩ := h
    exact call_list_of pins s σ H _ us Q I r ⟨_, ys, rfl, h1, h2⟩
  · exact h.elim
/-! ### slices -/
def mSl (K : PySem.W.Frag) : V → Option Int → Option Int → Hp → VK → Prop := fun x lo hi H Q => match x with
  | .str z => z.length ≤ sizeLine ∧ Q (.str (cutS z lo hi)) H
  | .ref a => ∃ xs, SqL K H a xs ∧ ∀ p, H p = none → Q (.ref p) (upd H p (.lst (cutV xs lo hi)))
  | _ => False
theorem sSl {K : PySem.W.Frag} (hK : X.K = K := by rfl) : SlR X (mSl K) := by
  subst hK
  intro pins s σ H x v vl vu lo hi sl Q I rx hs pl pu h
  unfold mSl at h
  split at h
  · exact sl_str pins s σ H _ v vl vu lo hi sl Q I rx hs pl pu ⟨_, rfl, h⟩
  · obtain ⟨xs, h1, h2⟩ := h
    exact sl_list pins s σ H _ v vl vu lo hi sl Q I rx hs pl pu ⟨_, _, rfl, h1, h2⟩
  · exact h.elim
def mPart (te : TE) : TO := fun σ H Q => te σ H fun x H1 => match x with | .int i => Q (some i) H1 | _ => False
theorem oPart {e : Expr} {te : TE} (h : PE X e te) : PO X (some e) (mPart te) := by
  refine ⟨fun pins s σ H Q I hw => ?_⟩
  rw [evalPart_some]
  refine thn (h.run pins s σ H _ I hw) fun u s1 ⟨x, H1, I1, r1, q1⟩ => ?_
  cases x with
  | int i =>
    obtain ⟨t, rfl⟩ := r1
    exact ⟨some i, H1, I1, .int i t, q1⟩
  | _ => exact False.elim q1
/-! ### tests -/
def mT (t : TE) : TT := fun σ H Q => t σ H fun x H1 => match x with | .bl c => Q c H1 | _ => False
theorem tCm {a b : Expr} {ta tb : TE} {pos : Pos} {op : CmpOp} {r : R2} (ho : OpR X (compareOp op) r) (ha : PE X a ta) (hb : PE X b tb) (hm : behindInMarks op b = false) : PT X (.Compare a [op] [b] pos) (mT (tOp r ta tb)) := by
  refine ⟨fun pins s σ H Q I h => ?_⟩
  refine wpAny_isTrue_Compare1 (thn (ha.run pins s σ H _ I h) fun v s1 ⟨x, H1, I1, r1, q1⟩ => thn (hb.run pins s1 σ H1 _ I1 q1) fun u s2 ⟨y, H2, I2, r2, q2⟩ =>
    thn (ho pins s2 σ H2 x y v u _ I2 r1 r2 q2) fun c s3 ⟨z, H3, I3, r3, q3⟩ => ?_) hm
  cases z with
  | bl k =>
    cases r3
    exact wpAny_truthy_bool ⟨H3, I3, q3⟩
  | _ => exact False.elim q3
theorem tVal {e : Expr} {t : TE} (h : PE X e t) (he : ∀ whole, isTrue e X.env whole = (do let v ← whole; standAt e.pos; holding [v] (truthy v)) := by intro _; rfl) : PT X e (mT t) := by
  refine ⟨fun pins s σ H Q I hw => ?_⟩
  refine isTrue_plain (thn (h.run pins s σ H _ I hw) fun v s1 ⟨x, H1, I1, r1, q1⟩ => ?_) (he _)
  cases x with
  | bl k =>
    cases r1
    exact wpAny_truthy_bool ⟨H1, I1, q1⟩
  | _ => exact False.elim q1
/-- a not, as a value of a test -/
def mNotV (t : TT) : TE := fun σ H Q => t σ H fun c H1 => Q (.bl (!c)) H1
end
end Xia

/-! ### defs by one fact -/
namespace Xia
open PySem PySem.Spec PyProof.Rows L2
/-- the def called x keeps the promise sp -/
structure Dfn (P : Program) (w : World) (K : PySem.W.Frag) (mg : Str → Option Value) (base : Heap) (CX : CXT) (k : Nat) (x : Str) (ps : List Str) (sp : Sp) : Prop where
  ex : ∃ (f : Addr) (fd : FuncData), FnOk P w K mg base CX k f fd ps sp ∧ mg x = some (.ref f) ∧ PySem.W.keepIn K (.ref f) = true ∧ Binds K fd ps []
theorem Dfn.imp {P : Program} {w : World} {K : PySem.W.Frag} {mg : Str → Option Value} {base : Heap} {CX : CXT} {k : Nat} {x : Str} {ps : List Str} {sp sp' : Sp} (D : Dfn P w K mg base CX k x ps sp)
    (h : ∀ vs H Q E, sp' vs H Q E → sp vs H Q E) : Dfn P w K mg base CX k x ps sp' := by
  obtain ⟨f, fd, F, r⟩ := D.ex
  exact ⟨f, fd, F.imp h, r⟩
section
variable {X : Cx} {CX : CXT} {k : Nat} {x : Str} {ps : List Str} {sp : Sp} {E : XK} {p pos : Pos} {e : Expr} {es : List Expr} {t : TA}
theorem pC (D : Dfn X.prog X.w X.K X.mg X.base CX k x ps sp) (hr : Room k X.A) (hx : Passes CX X E) (ha : PA X (e :: es) t) (hg : Gl X x := by rfl)
    (hdb : (x == ("__debug__" : Str)) = false := by decide) (he : starEach (e :: es) X.env = (false, eval e X.env) :: starEach es X.env := by rfl) (hpl : (backTo pos (starEach es X.env)).any (·.1) = false := by rfl) :
    PE X (.Call (.Name x p) (e :: es) [] pos) (tCall sp [] E t) := by
  obtain ⟨f, fd, F, hm, hk, hb⟩ := D.ex
  exact pe_call F hr hg hm hk hb .nil hx ha hdb he hpl
/-- in a try's body: what is raised is wished for at the slots -/
theorem pCS {E : L2.St → XK} (D : Dfn X.prog X.w X.K X.mg X.base CX k x ps sp) (hr : Room k X.A) (hx : ∀ σ, PassesAt CX X σ (E σ)) (ha : PA X (e :: es) t) (hg : Gl X x := by rfl)
    (hdb : (x == ("__debug__" : Str)) = false := by decide) (he : starEach (e :: es) X.env = (false, eval e X.env) :: starEach es X.env := by rfl) (hpl : (backTo pos (starEach es X.env)).any (·.1) = false := by rfl) :
    PE X (.Call (.Name x p) (e :: es) [] pos) (tCallS sp E t) := by
  obtain ⟨f, fd, F, hm, hk, hb⟩ := D.ex
  exact pe_callS F hr hg hm hk hb hx ha hdb he hpl
end

/-! ### heaps -/
/-- all but what stands at p is as it was -/
def SameP (p : Addr) (H H' : Hp) : Prop := ∀ b o, b ≠ p → H b = some o → H' b = some o
theorem SameP.refl (p : Addr) (H : Hp) : SameP p H H := fun _ _ _ h => h
theorem SameP.trans {p : Addr} {H H1 H2 : Hp} (a : SameP p H H1) (b : SameP p H1 H2) : SameP p H H2 := fun c o n h => b c o n (a c o n h)
theorem SameP.of {p : Addr} {H H' : Hp} (h : Same H H') : SameP p H H' := fun b o _ e => h b o e
theorem same_upd {H : Hp} {p : Addr} {o : HO} (h : H p = none) : Same H (upd H p o) := fun b x e => by
  rw [upd_ne (ne_of_none e h)]
  exact e
theorem sameP_upd {H : Hp} {p : Addr} {o : HO} : SameP p H (upd H p o) := fun b x n e => by
  rw [upd_ne n]
  exact e
theorem _root_.L2.Same.tup {K : PySem.W.Frag} {H H' : Hp} {a : Addr} {xs : List V} (e : Same H H') (h : SqT K H a xs) : SqT K H' a xs := by
  rcases h with (h | ⟨o, h⟩) | h
  · exact .inl (.inl (e _ _ h))
  · exact .inl (.inr ⟨o, e _ _ h⟩)
  · exact .inr h
theorem SameP.seq {K : PySem.W.Frag} {H H' : Hp} {p a : Addr} {xs : List V} (e : SameP p H H') (n : a ≠ p) (h : SqL K H a xs) : SqL K H' a xs := by
  rcases h with (h | ⟨o, h⟩) | h
  · exact .inl (.inl (e _ _ n h))
  · exact .inl (.inr ⟨o, e _ _ n h⟩)
  · exact .inr h
theorem SameP.tup {K : PySem.W.Frag} {H H' : Hp} {p a : Addr} {xs : List V} (e : SameP p H H') (n : a ≠ p) (h : SqT K H a xs) : SqT K H' a xs := by
  rcases h with (h | ⟨o, h⟩) | h
  · exact .inl (.inl (e _ _ n h))
  · exact .inl (.inr ⟨o, e _ _ n h⟩)
  · exact .inr h
theorem _root_.L2.Same.upd_new {H H' : Hp} {p : Addr} {o : HO} (s : Same H H') (n : H p = none) : Same H (upd H' p o) := fun b x e => by
  rw [upd_ne (ne_of_none e n)]
  exact s b x e
theorem SameP.upd_new {H H' : Hp} {q p : Addr} {o : HO} (s : SameP q H H') (n : H p = none) : SameP q H (upd H' p o) := fun b x m e => by
  rw [upd_ne (ne_of_none e n)]
  exact s b x m e
theorem none_of_upd {H : Hp} {p q : Addr} {o : HO} (h : upd H p o q = none) : H q = none ∧ q ≠ p := by
  have n : q ≠ p := fun z => by rw [z, upd_same] at h; cases h
  rw [upd_ne n] at h
  exact ⟨h, n⟩
theorem ixN_n {n j : Nat} (h : j < n) : ixN n (j : Int) = some j := by
  unfold ixN
  rw [if_pos (by omega), if_pos (by omega), Int.toNat_natCast]
theorem at_int {α : Type} {xs : List α} {r : Int} (h0 : 0 ≤ r) (h1 : r < xs.length) : ∃ v ∈ xs, atI xs r = some v := by
  obtain ⟨j, rfl⟩ : ∃ j : Nat, r = j := ⟨r.toNat, by omega⟩
  have hj : j < xs.length := by omega
  exact ⟨xs[j], List.getElem_mem hj, atI_nat (List.getElem?_eq_getElem hj)⟩
theorem str_len (z : Str) : z.cps.toList.length = z.length := by simp [Str.length]
/-! ### exceptions as values -/
/-- an exception object of the own class at D, without a dict, caught or made -/
def ExK (D : Addr) (a : Addr) : HO := .ext fun h => ∃ (oe : Obj) (vs : Array Value), h.get? a = some oe ∧ Zc (.ref D) none oe ∧ oe.data = .fields vs
theorem exK_ok {P : Program} {w : World} {H : Hp} {h : Heap} {a D : Addr} {oe : Obj} {vs : Array Value} (e : h.get? a = some oe) (z : Zc (.ref D) none oe) (d : oe.data = .fields vs) : ObjOk P w H h a (ExK D a) :=
  ⟨⟨oe, vs, e, z, d⟩, ⟨oe, e⟩, fun _ _ ⟨o, v, q, r⟩ k => ⟨o, v, k o q, r⟩⟩
def ExAt (H : Hp) (a D : Addr) : Prop := H a = some (ExO (.ref D) a) ∨ H a = some (ExK D a)
theorem ExAt.inst {P : Program} {w : World} {H : Hp} {h : Heap} {a D : Addr} (x : ExAt H a D) (ok : HOk P w H h) : ∃ oe, PySem.W.InstAt h a oe D none := by
  have : ∃ (oe : Obj) (vs : Array Value), h.get? a = some oe ∧ Zc (.ref D) none oe ∧ oe.data = .fields vs := by
    rcases x with x | x
    · obtain ⟨⟨oe, vs, e, z, d, _⟩, _⟩ := ok a _ x
      exact ⟨oe, vs, e, z, d⟩
    · obtain ⟨⟨oe, vs, e, z, d⟩, _⟩ := ok a _ x
      exact ⟨oe, vs, e, z, d⟩
  obtain ⟨oe, vs, e, z, d⟩ := this
  refine ⟨oe, ?_⟩
  obtain ⟨oc, od, oda, osl⟩ := oe
  obtain ⟨h1, h2⟩ := z
  dsimp only at h1 h2 d
  subst h1 h2 d
  exact ⟨e, rfl, rfl, trivial⟩
theorem ExAt.same {H H' : Hp} {a D : Addr} (x : ExAt H a D) (s : Same H H') : ExAt H' a D := x.imp (s _ _) (s _ _)
theorem ExAt.sameP {H H' : Hp} {a D p : Addr} (x : ExAt H a D) (s : SameP p H H') (n : a ≠ p) : ExAt H' a D := x.imp (s _ _ n) (s _ _ n)
/-- isinstance of an exception object -/
def rIsX (K : PySem.W.Frag) : List V → Hp → VK → Prop := fun xs H Q => ∃ (a D : Addr) (c : V) (u : Value) (b : Bool), xs = [.ref a, c] ∧ ClsV c u ∧ ExAt H a D ∧ ExcC K D ∧ PySem.W.kitOne K (.ref D) u = some b ∧ Q (.bl b) H
theorem cIsX {X : Cx} : CallR X (.builtin "isinstance") (rIsX X.K) := by
  intro pins s σ H xs us Q I r h
  obtain ⟨a, D, c, u, b, rfl, k, hx, C, e, q⟩ := h
  obtain ⟨u1, u2, rfl, r1, r2⟩ := vals2 r
  have e2 := k.eq r2
  subst e2
  cases (show u1 = Value.ref a from r1)
  obtain ⟨oe, J⟩ := hx.inst I.hok
  exact PySem.W.kia_one (PySem.W.handS_kitx_exc C.hg C.hk C.hs C.hd C.ha C.hn C.ht C.hm) I.kIn J e (fun z => nomatch z) fun tk => ⟨.bl b, H, I.tok tk, rfl, q⟩
/-- both: of a plain value or of an exception object -/
def rIs (K : PySem.W.Frag) : List V → Hp → VK → Prop := fun xs H Q => rIsi K xs H Q ∨ rIsX K xs H Q
theorem cIs {X : Cx} {K : PySem.W.Frag} (hK : X.K = K := by rfl) : CallR X (.builtin "isinstance") (rIs K) := by
  subst hK
  intro pins s σ H xs us Q I r h
  rcases h with h | h
  · exact call_isi pins s σ H xs us Q I r h
  · exact cIsX pins s σ H xs us Q I r h
/-- a caught exception is tracked from now on -/
theorem Inv.track {X : Cx} {pins : List (Addr × Obj)} {σ : L2.St} {H : Hp} {s : Shared} {a : Addr} {o : HO} (I : Inv X pins σ H s) (na : H a = none) (nL : a ≠ X.env.locals) (nF : a ∉ X.fs)
    (nC : ∀ x c, X.env.cells.lookup x = some c → c ≠ a) (nP : ∀ p ∈ X.pn ++ pins, p.1 ≠ a) (n0 : X.s_0.heap.get? a = none) (new : ObjOk X.prog X.w (upd H a o) s.heap a o) : Inv X pins σ (upd H a o) s := by
  have ne : ∀ b u, H b = some u → b ≠ a := fun b u e => ne_of_none e na
  refine ⟨I.ok, I.os, I.bare, ⟨fun b ob e n hb hx => I.base.keep b ob e n hb hx, fun b ob e n hb hx => I.base.slot b ob e n hb hx, fun b ob e n hx => ?_, I.base.there, fun b xs e => ?_, fun b ob u e => ?_, fun b ps e => ?_⟩, I.loc, I.cell, ?_, fun x c e => ?_, fun p hp => ?_, fun b u e => ?_, I.len⟩
  · rw [upd_ne (fun z => by rw [z, n0] at e; cases e)]
    exact I.base.free b ob e n hx
  · have q := I.base.tups b xs e
    rw [upd_ne (ne b _ q)]
    exact q
  · have q := I.base.frzs b ob u e
    rw [upd_ne (ne b _ q)]
    exact q
  · obtain ⟨m, q⟩ := I.base.tbls b ps e
    exact ⟨m, by rw [upd_ne (ne b _ q)]; exact q⟩
  · rw [upd_ne (Ne.symm nL)]
    exact I.free
  · rw [upd_ne (nC x c e)]
    exact I.freeC x c e
  · obtain ⟨e, n, h1, h2, h3⟩ := I.pin p hp
    exact ⟨e, by rw [upd_ne (nP p hp)]; exact n, h1, h2, h3⟩
  · by_cases hb : b = a
    · subst hb
      rw [upd_same] at e
      cases e
      exact new
    · rw [upd_ne hb] at e
      exact (I.hok b u e).stay (fun c v _ q => q) (fun c q => by rw [upd_ne (ne c _ q)]; exact q) fun c xs q => by rw [upd_ne (ne c _ q)]; exact q
theorem Inv.suiteN {X : Cx} {pins : List (Addr × Obj)} {σ : L2.St} {H : Hp} {s : Shared} (I : Inv X pins σ H s) (a : Addr) : Inv (X.suite a (X.pn ++ pins)) [] σ H s :=
  ⟨I.ok.suite _ _, I.os, I.bare, I.base, I.loc, I.cell, I.free, I.freeC, fun p hp => I.pin p (by rw [List.append_nil] at hp; exact hp), I.hok, I.len⟩
theorem Inv.unsuiteN {X : Cx} {pins pn' : List (Addr × Obj)} {σ : L2.St} {H : Hp} {s : Shared} {a : Addr} (I : Inv (X.suite a (X.pn ++ pins)) pn' σ H s) (ok : X.Ok) : Inv X pins σ H s :=
  ⟨ok, I.os, I.bare, I.base, I.loc, I.cell, I.free, I.freeC, fun p hp => I.pin p (List.mem_append_left _ hp), I.hok, I.len⟩
/-- what the clause «except x as n» wishes, where the exception outlives it: slot i is n's; in the suite the exception stands at a, tracked -/
def wCt (K : PySem.W.Frag) (c : Value) (i : Nat) (ts : TS) (Wout : WX) (D : Ends) : WX := fun cls d σ H =>
  ∃ b, PySem.W.exmOne K cls c = some b ∧ (b = true → ∃ C, cls = .ref C ∧ d = none ∧ ∀ a, H a = none → ts { nx := fun σ' H' => D.nx (σ'.set i none) H', rt := D.rt, bk := fun σ' H' => D.bk (σ'.set i none) H', ct := fun σ' H' => D.ct (σ'.set i none) H' } (σ.set i (some (.ref a))) (upd H a (ExK C a))) ∧
    (b = false → Wout cls d σ H)
section
variable {X : Cx} {x n : Str} {c : Value} {i : Nat} {body suite : List Stmt} {b₀ : Stmt} {np pos pos' : Pos} {tb : WX → TS} {ts : TS} {Wout : WX}
theorem sCatch (hs : X.stack = X.env :: X.outer) (hf : X.env.frame = some X.env.locals) (hex : X.ex = []) (hN : X.N.Nodup) (hi : X.N[i]? = some n) (hln : X.env.kindOf n = some .local) (hc : Names X x c) (tk : Takes X Wout)
    (hb : ∀ (W : WX) (pn : List (Addr × Obj)) (xe : Value → Shared → Prop), Takes (X.tr pn xe) W → PassesOwn (model X.prog X.w) X.A X.env xe → PSs (X.tr pn xe) body (tb W))
    (hsu : ∀ (a : Addr) (pn : List (Addr × Obj)), PSs (X.suite a pn) (b₀ :: suite) ts) :
    PS X (.Try body [.ExceptHandler (some (.Name x np)) (some n) (b₀ :: suite) pos'] [] [] pos) (fun D σ H => tb (wCt X.K c i ts Wout D) D σ H) := by
  refine ⟨fun pins s σ H D I h => ?_⟩
  have ok := I.ok
  have hfr : X.A.frames = some (X.env :: X.outer) := by rw [ok.frames, hs]
  have hloc : Loc X.env.scope n := .inl hln
  refine wpAny_Try_except ?_
  refine wpAny_mono ((hb (wCt X.K c i ts Wout D) (X.pn ++ pins) (fun e s₁ => wpAny (model X.prog X.w) X.A (noteFrame e X.env) (fun _ s₂ => wpAny (model X.prog X.w) X.A (setFlight e none) (fun _ s₃ =>
    wpAny (model X.prog X.w) X.A (handleBy e X.env [.ExceptHandler (some (.Name x np)) (some n) (b₀ :: suite) pos']) (SP X pins D) X.xe s₃) X.xe s₂) X.xe s₁) (fun u s' xx => ?_) PassesOwn.looking).run [] s σ H D (I.toTry _) h) (fun f s1 hsp => ?_) (fun e s1 he => he)
  · -- the catch
    obtain ⟨a, B, sI, pins', σ', H', cls, d, rfl, J', nb, up, sky, na, os, ag, b, hb1, hyes, hno⟩ := xx
    have J : Inv X pins σ' H' sI := J'.ofTry ok
    have sky' : Sky B (X.env :: X.outer) a (Zc cls d) X.env.locals s'.heap := by rw [← hs]; exact sky
    show wpAny (model X.prog X.w) X.A (noteFrame (.ref a) X.env) _ _ _
    refine Sky.land Zc.steady hfr hf sky' fun h3 fl3 up3 => ?_
    have J3 : Inv X pins σ' H' { s' with heap := h3 } := J.landed nb fl3.1 (up.trans up3) os ag
    obtain ⟨oe3, vs3, he3, hz3, hd3⟩ := fl3.there
    have hB : B.get? a = none := fl3.2.1
    have notFr : ∀ {h : Heap} {o : Obj} {vs : Array Value}, h.FunFrames B (X.env :: X.outer) → h.get? a = some o → o.data = .fields vs → a ∉ frs (X.env :: X.outer) := fun {h o vs} ff e dd hm => by
      obtain ⟨_, o', e', hnf⟩ := ff.mem hm
      rw [e] at e'; cases e'
      exact hnf _ dd
    have nfr := notFr fl3.2.2.1 he3 hd3
    have nL : a ≠ X.env.locals := fun z => nfr (List.mem_filterMap.mpr ⟨X.env, List.mem_cons_self, by rw [hf, z]⟩)
    have nF : a ∉ X.fs := fun hm => by
      obtain ⟨e, he, q⟩ := List.mem_filterMap.mp hm
      exact nfr (List.mem_filterMap.mpr ⟨e, List.mem_cons_of_mem _ he, q⟩)
    have nI : ∀ b o, sI.heap.get? b = some o → b ≠ X.env.locals → b ∉ X.fs → b ≠ a := fun b o e h1 h2 z => by
      subst z
      have q := nb b o e fun hm => by rw [hs] at hm; exact nfr hm
      rw [hB] at q; cases q
    have n0 : X.s_0.heap.get? a = none := by
      cases e : X.s_0.heap.get? a with
      | none => rfl
      | some o =>
        obtain ⟨o', e'⟩ := J.base.there a o e (by rw [hex]; exact fun z => nomatch z)
        exact absurd rfl (nI a o' e' nL nF)
    have nP : ∀ p ∈ X.pn ++ pins, p.1 ≠ a := fun p hp => by
      obtain ⟨e, _, h1, h2, _⟩ := J.pin p hp
      exact nI p.1 p.2 e h1 h2
    have S3 := J3.suite he3 hd3 na nL nF
    refine wpAny_handleBy_cons (codeAny_handlers_test ?_) (by intro q; cases q)
    have LT : PySem.W.Looks (model X.prog X.w) h3 (typeOf (.ref a)) cls := fun A Q E s k q => wpAny_typeOf_ref (k _ _ he3) (by rw [hz3.1]; exact q)
    have LM := PySem.W.exm_one (M := model X.prog X.w) (J3.kIn) LT hb1
    have test : ∀ {Q : Value → Shared → Prop} {E : Value → Shared → Prop}, Q c { s' with heap := h3 } → wpAny (model X.prog X.w) (X.A.mark (some (.ref a))) (eval (.Name x np) X.env) Q E { s' with heap := h3 } := fun {Q E} q => by
      obtain ⟨hg, hdbg, hm | ⟨hm, hv, hnn⟩⟩ := hc
      · exact ld_glob (X := X.suite a ((a, oe3) :: (X.pn ++ pins))) S3 hg hm q hdbg
      · exact ld_blt (X := X.suite a ((a, oe3) :: (X.pn ++ pins))) S3 hg hm hv q hnn hdbg
    refine test (LM.here ?_)
    cases b with
    | true =>
      obtain ⟨C, e1, e2, hy2⟩ := hyes rfl
      subst e1
      subst e2
      refine codeAny_handlers_suite_as ?_
      refine HandSPX.lands_againZ fl3 fun h4 fl4 up4 => ?_
      have J4 : Inv X pins σ' H' { s' with heap := h4 } := J.landed nb fl4.1 ((up.trans up3).trans up4) os ag
      obtain ⟨oe4, vs4, he4, hz4, hd4⟩ := fl4.there
      have nC : ∀ x c, X.env.cells.lookup x = some c → c ≠ a := fun x c e z => by
        obtain ⟨v, o, ho, hd⟩ := J4.cell x c e
        rw [z] at ho
        have e1 := ho.symm.trans he4
        cases e1
        rw [hd4] at hd; cases hd
      have T4 : Inv X pins σ' (upd H' a (ExK C a)) { s' with heap := h4 } := Inv.track J4 na nL nF nC nP n0 (exK_ok he4 hz4 hd4)
      have S4 := Inv.suiteN T4 a
      refine store_ok (X := X.suite a (X.pn ++ pins)) (v := .ref a) S4 hN hi hloc rfl (fun s5 S5 => ?_) (.inr hln)
      refine wpAny_mono ((hsu a (X.pn ++ pins)).run [] s5 _ _ _ S5 (hy2 a na)) (fun f s6 hsp => ?_) (fun _ _ z => False.elim z)
      have end_ : ∀ {σ6 : L2.St} {H6 : Hp} {Q : Shared → Prop}, Inv (X.suite a (X.pn ++ pins)) [] σ6 H6 s6 → (∀ s7, Inv X pins (σ6.set i none) H6 s7 → Q s7) →
          wpAny (model X.prog X.w) X.A (do bindName X.env n .none; unbindBehindTheSuite X.env n pos') (fun _ s7 => Q s7) X.xe s6 := fun {σ6 H6 Q} S6 hq => gone_ok (Inv.unsuiteN S6 ok) hN hi hln hq
      cases f with
      | next =>
        obtain ⟨σ6, H6, S6, q6⟩ := hsp
        exact end_ S6 fun s7 J7 => ⟨_, _, J7, q6⟩
      | brk =>
        obtain ⟨σ6, H6, S6, q6⟩ := hsp
        exact end_ S6 fun s7 J7 => ⟨_, _, J7, q6⟩
      | cont =>
        obtain ⟨σ6, H6, S6, q6⟩ := hsp
        exact end_ S6 fun s7 J7 => ⟨_, _, J7, q6⟩
      | ret u =>
        obtain ⟨v6, σ6, H6, S6, r6, q6⟩ := hsp
        exact end_ S6 fun s7 J7 => ⟨_, _, _, J7, r6, q6⟩
    | false =>
      show wpAny _ X.A (handleBy (.ref a) X.env []) _ _ _
      refine wpAny_handleBy_nil ?_
      obtain ⟨k1, k2, k3, oe, vs, T, oT, ts', he, hz, hd, h1, hr⟩ := id fl3
      unfold PySem.passOn
      refine wpAny_bind (wpAny_field he hd h1 ?_)
      rw [if_neg (show ¬ ((Value.ref T == Value.none) = true) from by simp)]
      have fin : wpAny (model X.prog X.w) X.A (setFlight (.ref a) X.env.frame) (fun _ s4 => wpAny (model X.prog X.w) X.A (throw (.ref a) : Sem Flow) (SP X pins D) X.xe s4) X.xe { s' with heap := h3 } := by
        rw [hf]
        refine HandSPX.setFlight_upZ fl3 fun h4 hh4 up4 => wpAny_throw (tk _ _ ?_)
        exact ⟨a, B, sI, pins, σ', H', cls, d, rfl, J, nb, (up.trans up3).trans up4, .inr (.inr (by rw [hs]; exact hh4)), na, os, ag, hno rfl⟩
      first
        | exact wpAny_bind (wpAny_pure (wpAny_bind fin))
        | exact wpAny_bind fin
  · cases f with
    | next =>
      obtain ⟨σ', H', J', q⟩ := hsp
      exact wpAny_execs_nil ⟨σ', H', J'.ofTry ok, q⟩
    | brk =>
      obtain ⟨σ', H', J', q⟩ := hsp
      exact ⟨σ', H', J'.ofTry ok, q⟩
    | cont =>
      obtain ⟨σ', H', J', q⟩ := hsp
      exact ⟨σ', H', J'.ofTry ok, q⟩
    | ret u =>
      obtain ⟨v, σ', H', J', r, q⟩ := hsp
      exact ⟨v, σ', H', J'.ofTry ok, r, q⟩
end
end Xia

/-! ### promises by the number of arguments; walks of any kind -/
namespace Xia
open PySem PySem.Spec PyProof.Rows L2
def Sp1 (B : V → Hp → VK → XK → Prop) : Sp := fun vs H Q E => match vs with | [x] => B x H Q E | _ => False
def Sp2 (B : V → V → Hp → VK → XK → Prop) : Sp := fun vs H Q E => match vs with | [x, y] => B x y H Q E | _ => False
def Sp3 (B : V → V → V → Hp → VK → XK → Prop) : Sp := fun vs H Q E => match vs with | [x, y, z] => B x y z H Q E | _ => False
def Sp4 (B : V → V → V → V → Hp → VK → XK → Prop) : Sp := fun vs H Q E => match vs with | [x, y, z, u] => B x y z u H Q E | _ => False
section
variable {vs : List V} {H : Hp} {Q : VK} {E : XK}
theorem Sp1.of {B : V → Hp → VK → XK → Prop} (h : Sp1 B vs H Q E) : ∃ x, vs = [x] ∧ B x H Q E := by
  match vs, h with
  | [x], h => exact ⟨x, rfl, h⟩
  | [], h => exact False.elim h
  | _ :: _ :: _, h => exact False.elim h
theorem Sp2.of {B : V → V → Hp → VK → XK → Prop} (h : Sp2 B vs H Q E) : ∃ x y, vs = [x, y] ∧ B x y H Q E := by
  match vs, h with
  | [x, y], h => exact ⟨x, y, rfl, h⟩
  | [], h => exact False.elim h
  | [_], h => exact False.elim h
  | _ :: _ :: _ :: _, h => exact False.elim h
theorem Sp3.of {B : V → V → V → Hp → VK → XK → Prop} (h : Sp3 B vs H Q E) : ∃ x y z, vs = [x, y, z] ∧ B x y z H Q E := by
  match vs, h with
  | [x, y, z], h => exact ⟨x, y, z, rfl, h⟩
  | [], h => exact False.elim h
  | [_], h => exact False.elim h
  | [_, _], h => exact False.elim h
  | _ :: _ :: _ :: _ :: _, h => exact False.elim h
theorem Sp4.of {B : V → V → V → V → Hp → VK → XK → Prop} (h : Sp4 B vs H Q E) : ∃ x y z u, vs = [x, y, z, u] ∧ B x y z u H Q E := by
  match vs, h with
  | [x, y, z, u], h => exact ⟨x, y, z, u, rfl, h⟩
  | [], h => exact False.elim h
  | [_], h => exact False.elim h
  | [_, _], h => exact False.elim h
  | [_, _, _], h => exact False.elim h
  | _ :: _ :: _ :: _ :: _ :: _, h => exact False.elim h
theorem Sp1.len {B : V → Hp → VK → XK → Prop} (h : Sp1 B vs H Q E) : vs.length = 1 := by
  obtain ⟨x, rfl, _⟩ := h.of; rfl
theorem Sp2.len {B : V → V → Hp → VK → XK → Prop} (h : Sp2 B vs H Q E) : vs.length = 2 := by
  obtain ⟨x, y, rfl, _⟩ := h.of; rfl
theorem Sp3.len {B : V → V → V → Hp → VK → XK → Prop} (h : Sp3 B vs H Q E) : vs.length = 3 := by
  obtain ⟨x, y, z, rfl, _⟩ := h.of; rfl
theorem Sp4.len {B : V → V → V → V → Hp → VK → XK → Prop} (h : Sp4 B vs H Q E) : vs.length = 4 := by
  obtain ⟨x, y, z, u, rfl, _⟩ := h.of; rfl
end
section
variable {P : Program} {w : World} {K : PySem.W.Frag} {mg : Str → Option Value} {base : Heap} {x : Str} {st : Stmt} {f : Addr} {fd : FuncData} {N ps : List Str} {k : Nat} {sp : Sp}
/-- a def that lets nothing out -/
theorem Dfn.mk0 (F : Fun K x x st f fd) (hm : mg x = some (.ref f)) (hb : Binds K fd ps []) (S : FnScope N ps (defScope st)) (len : ∀ vs H Q E, sp vs H Q E → vs.length = ps.length)
    (hbody : ∀ (cdv : Value) (A : Around) (outer : List Env) (s : Shared) (H : Hp) (vs : List V) (Q : VK) (E : XK), Room k (A.deeper (envOfC x (defScope st) s.heap.objs.size f cdv)) → sp vs H Q E →
      ∃ t, PSs (cxOf CX0 P w K mg base N x (defScope st) f cdv A outer s H E).nox (defBody st) t ∧ t { nx := fun _ H' => Q .non H', rt := Q } (start N vs) H) : Dfn P w K mg base CX0 (k + 1) x ps sp :=
  ⟨f, fd, F.ok S len hbody, hm, F.kp, hb⟩
/-- a def that may raise -/
theorem Dfn.mkX (F : Fun K x x st f fd) (hm : mg x = some (.ref f)) (hb : Binds K fd ps []) (S : FnScope N ps (defScope st)) (len : ∀ vs H Q E, sp vs H Q E → vs.length = ps.length)
    (hbody : ∀ (cdv : Value) (A : Around) (outer : List Env) (s : Shared) (H : Hp) (vs : List V) (Q : VK) (E : XK), Room k (A.deeper (envOfC x (defScope st) s.heap.objs.size f cdv)) → sp vs H Q E →
      ∃ t, PSs (cxOf (L2.CX P w) P w K mg base N x (defScope st) f cdv A outer s H E) (defBody st) t ∧ t { nx := fun _ H' => Q .non H', rt := Q } (start N vs) H) : Dfn P w K mg base (L2.CX P w) (k + 1) x ps sp :=
  ⟨f, fd, F.okX S len hbody, hm, F.kp, hb⟩
end
section
variable {X : Cx} {tg e : Expr} {te : TE}
/-- a text, a list or a tuple is walked -/
def iAny (K : PySem.W.Frag) (te : TE) : TI := fun σ H R => te σ H fun v H1 => match v with
  | .str z => R (Its z) H1
  | .ref a => (∃ xs, SqL K H1 a xs ∧ R (Itl K a) H1) ∨ (∃ xs, SqT K H1 a xs ∧ R (Itt K a) H1)
  | _ => False
def iVal (K : PySem.W.Frag) (v : V) : TI := fun _ H R => match v with
  | .str z => R (Its z) H
  | .ref a => (∃ xs, SqL K H a xs ∧ R (Itl K a) H) ∨ (∃ xs, SqT K H a xs ∧ R (Itt K a) H)
  | _ => False
theorem pI {K : PySem.W.Frag} (he : PE X e te) (hK : X.K = K := by rfl) : PI X tg e (iAny K te) := by
  subst hK
  refine ⟨fun pins s σ H R I h => ?_⟩
  refine thn (he.run pins s σ H _ I h) fun v s1 ⟨y, H1, I1, r1, q⟩ => ?_
  cases y with
  | str x =>
    obtain ⟨t, rfl⟩ := r1
    cases ha : x.cps.all (· < 128)
    · exact wpAny_pyIter_wide ha (pi_one (tk := s1.toks) I1 _ (turn_str _ x t "str_iterator" (.inr rfl)) ⟨_, Heap.get?_push_size _ rfl, rfl, rfl⟩ q)
    · exact wpAny_pyIter_ascii ha (pi_one (tk := s1.toks) I1 _ (turn_str _ x t "str_ascii_iterator" (.inl rfl)) ⟨_, Heap.get?_push_size _ rfl, rfl, rfl⟩ q)
  | ref a =>
    cases (show v = Value.ref a from r1)
    rcases q with ⟨xs, hq, q⟩ | ⟨xs, hq, q⟩
    · obtain ⟨its, rv, p, hz⟩ := I1.list hq
      refine wpAny_pyIter_list p.isList ?_
      refine ⟨s1.heap.objs.size, [s1.heap.objs.size], _, _, H1, rfl, I1.kept (t' := s1.toks) fun b o e => Heap.get?_push_of_some _ e, turn_list a _, ⟨_, Heap.get?_push_size _ rfl, rfl, rfl⟩, fun b hb => ?_, q⟩
      have e : b = s1.heap.objs.size := by simpa using hb
      subst e
      exact I1.fpOk (Nat.le_refl _) (I1.hok.fresh (Nat.le_refl _))
    · obtain ⟨its, rv, p, hz⟩ := I1.tuple hq
      refine wpAny_pyIter_tuple (show s1.heap.IsTuple a its.toArray from p) ?_
      refine ⟨s1.heap.objs.size, [s1.heap.objs.size], _, _, H1, rfl, I1.kept (t' := s1.toks) fun b o e => Heap.get?_push_of_some _ e, turn_tuple a _, ⟨_, Heap.get?_push_size _ rfl, rfl, rfl⟩, fun b hb => ?_, q⟩
      have e : b = s1.heap.objs.size := by simpa using hb
      subst e
      exact I1.fpOk (Nat.le_refl _) (I1.hok.fresh (Nat.le_refl _))
  | _ => exact False.elim q
end
end Xia

/-! ### an exception's class -/
namespace Xia
open PySem PySem.Spec PyProof.Rows L2
/-- a constant of the module -/
def Cst (mg : Str → Option Value) (x : Str) (v : V) : Prop := ∃ u, mg x = some u ∧ RelV v u
theorem pK {X : Cx} {x : Str} {v : V} {pos : Pos} (h : Cst X.mg x v) (hg : Gl X x := by rfl) (hd : (x == ("__debug__" : Str)) = false := by decide) : PE X (.Name x pos) (tC v) := by
  obtain ⟨u, h1, h2⟩ := h
  exact pe_glob hg h1 h2 hd
abbrev veAll : List Value := [.type "ValueError", .type "Exception", .type "BaseException", .type "object"]
structure XC (K : PySem.W.Frag) (mg : Str → Option Value) (x : Str) (C : Addr) : Prop where
  gC : mg x = some (.ref C)
  ex : PySem.W.excIn K C veAll "ValueError.__new__" = true
  kp : PySem.W.keepIn K (.ref C) = true
  sub : PySem.W.subIn K (.ref C) (.type "BaseException") = some true
  ty : PySem.W.typeIn K (.ref C) = some (.type "type")
  cls : ExcC K C
def excCB (K : PySem.W.Frag) (C : Addr) : Bool :=
  PySem.W.keepIn K (.ref C) && PySem.W.subIn K (.ref C) (.type "BaseException") == some true && PySem.W.typeIn K (.ref C) == some (.type "type") &&
  PySem.W.findIn K (.ref C) "__getattribute__" == some (some (.builtin "BaseException.__getattribute__")) && PySem.W.findIn K (.ref C) "__getattr__" == some none && PySem.W.hasDictIn K C &&
  PySem.W.findIn K (.ref C) "__class__" == some (some (.builtin "object.__class__")) && PySem.W.specialIn K (.builtin "object.__class__") "__get__" == some (some (.builtin "getset_descriptor.__get__")) &&
  PySem.W.takesIn K (.builtin "object.__class__") == some true && PySem.W.mroIn K C (.type "object") == some true
theorem XC.of {K : PySem.W.Frag} {h : Heap} {mg : Str → Option Value} {x : Str} {C : Addr} (X : K.In h) (G : h.Ns mainGlobals mg) (e : PySem.W.nsIn K mainGlobals x = some (some (.ref C)))
    (y : PySem.W.excIn K C veAll "ValueError.__new__" = true) (w : excCB K C = true) : XC K mg x C := by
  unfold excCB at w
  simp only [Bool.and_eq_true, beq_iff_eq] at w
  obtain ⟨⟨⟨⟨⟨⟨⟨⟨⟨w1, w2⟩, w3⟩, w4⟩, w5⟩, w6⟩, w7⟩, w8⟩, w9⟩, w10⟩ := w
  exact ⟨PySem.W.mg_of X G e, y, w1, w2, w3, ⟨w4, w5, w2, w6, w7, w8, w9, w10⟩⟩
theorem XC.rs {X : Cx} {x : Str} {C : Addr} (c : XC X.K X.mg x C) : Raises X (.ref C) := raises_own c.sub c.ty
theorem XC.names {X : Cx} {x : Str} {C : Addr} (c : XC X.K X.mg x C) (hg : Gl X x := by rfl) (hd : (x == ("__debug__" : Str)) = false := by decide) : Names X x (.ref C) := ⟨hg, hd, .inl c.gC⟩
/-- what isinstance of the own classes answers: rows by columns -/
def kitTab (K : PySem.W.Frag) (ts cs : List Value) (r : List (List Bool)) : Bool :=
  (ts.zip r).all fun p => (cs.zip p.2).all fun q => PySem.W.kitOne K p.1 q.1 == some q.2
theorem all_ix {α : Type} {p : α → Bool} {l : List α} (h : l.all p = true) {i : Nat} {x : α} (e : l[i]? = some x) : p x = true := List.all_eq_true.mp h x (List.mem_of_getElem? e)
theorem kitTab_at {K : PySem.W.Frag} {ts cs : List Value} {r : List (List Bool)} (h : kitTab K ts cs r = true) {i j : Nat} {t c : Value} {row : List Bool} {b : Bool} (e1 : ts[i]? = some t) (e2 : r[i]? = some row) (e3 : cs[j]? = some c) (e4 : row[j]? = some b) : PySem.W.kitOne K t c = some b := by
  unfold kitTab at h
  have z1 : (ts.zip r)[i]? = some (t, row) := by rw [List.getElem?_zip_eq_some]; exact ⟨e1, e2⟩
  have q := all_ix h z1
  have z2 : (cs.zip row)[j]? = some (c, b) := by rw [List.getElem?_zip_eq_some]; exact ⟨e3, e4⟩
  have q2 := all_ix q z2
  exact beq_iff_eq.mp q2
/-! ### data -/
theorem dp_bls {K : PySem.W.Frag} {H : Hp} : ∀ bs : List Bool, DpAll K H (bs.map V.bl) (bs.map PyData.bool)
  | [] => .nil
  | b :: r => .cons (.bl b) (dp_bls r)
theorem bls_lay : ∀ bs : List Bool, PyData.canLayAll0 (bs.map PyData.bool) = true ∧ PyData.depthAll (bs.map PyData.bool) = 0
  | [] => ⟨rfl, rfl⟩
  | b :: r => by
    obtain ⟨h1, h2⟩ := bls_lay r
    refine ⟨?_, ?_⟩
    · show (PyData.canLay0 (.bool b) && PyData.canLayAll0 (r.map PyData.bool)) = true
      rw [h1]; rfl
    · show max (PyData.depth (.bool b)) (PyData.depthAll (r.map PyData.bool)) = 0
      rw [h2]; rfl
theorem canLay_bls (bs : List Bool) : (PyData.list (bs.map PyData.bool)).canLay0 = true ∧ (PyData.list (bs.map PyData.bool)).depth ≤ 64 := by
  obtain ⟨h1, h2⟩ := bls_lay bs
  refine ⟨h1, ?_⟩
  show PyData.depthAll (bs.map PyData.bool) + 1 ≤ 64
  omega
theorem eqb_bls {K : PySem.W.Frag} {H : Hp} {p q : Addr} {bs cs : List Bool} (h1 : SqL K H p (bs.map V.bl)) (h2 : SqL K H q (cs.map V.bl)) (e : bs = cs) : EqB K H (.ref p) (.ref q) true := by
  subst e
  obtain ⟨c1, c2⟩ := canLay_bls bs
  have sh : SeqAt.shaped (PyData.list (bs.map PyData.bool)) = true := by
    unfold SeqAt.shaped
    rw [c1, decide_eq_true c2]
    rfl
  exact ⟨_, _, .lst h1 (dp_bls bs), .lst h2 (dp_bls bs), sh, sh, (SeqAt.eqv_refl _ c1).symm⟩
/-- a text may be repeated so often -/
theorem mulOk {x : Str} {n : Int} (h0 : 0 ≤ n) (h1 : n ≤ 1000000) (h2 : x.length * n.toNat ≤ 16777216) (h3 : x.length ≤ 1000000) : MulOk x n := by
  have hz := sizeLine_eq
  refine ⟨?_, fun c _ => ?_, fun _ _ => ?_⟩
  · rw [decide_eq_false (by omega), decide_eq_false (by omega)]; rfl
  · have e : (2 ^ 63 - 1 : Int) / n ≥ 9000000000000 := by
      refine Int.le_ediv_of_mul_le (by omega) ?_
      omega
    omega
  · unfold Builtin.Str.tooLong
    rw [decide_eq_false (by omega)]
end Xia

set_option Elab.async false
set_option linter.all false
set_option maxRecDepth 100000
set_option maxHeartbeats 4000000
namespace K44
open PySem PySem.Spec PyProof.Rows L2 Xia
/-! ### the text -/
def topS (i : Nat) : Stmt := PySem.Challenge.pw_solvedtreads_k44_errors_by_hand.main.body.getD i (.Pass ⟨0, 0, 0, 0⟩)
abbrev s__law_spread : Stmt := topS 27
abbrev N__law_spread : List Str := ["cell", "at", "primes", "one", "two", "three"]
theorem sc__law_spread : FnScope N__law_spread ["cell", "at"] (defScope s__law_spread) := ⟨rfl, rfl, rfl, by decide +kernel, rfl, by decide +kernel, by decide +kernel⟩
abbrev s__law_open : Stmt := topS 28
abbrev N__law_open : List Str := ["script", "cells", "nth", "cell"]
theorem sc__law_open : FnScope N__law_open ["script"] (defScope s__law_open) := ⟨rfl, rfl, rfl, by decide +kernel, rfl, by decide +kernel, by decide +kernel⟩
abbrev s__law_take : Stmt := topS 29
abbrev N__law_take : List Str := ["pen", "many", "at", "cell", "found"]
theorem sc__law_take : FnScope N__law_take ["pen", "many"] (defScope s__law_take) := ⟨rfl, rfl, rfl, by decide +kernel, rfl, by decide +kernel, by decide +kernel⟩
abbrev s__law_z_pick : Stmt := topS 30
abbrev N__law_z_pick : List Str := ["pen", "some"]
theorem sc__law_z_pick : FnScope N__law_z_pick ["pen", "some"] (defScope s__law_z_pick) := ⟨rfl, rfl, rfl, by decide +kernel, rfl, by decide +kernel, by decide +kernel⟩
abbrev s_is_word : Stmt := topS 18
abbrev N_is_word : List Str := ["thing", "letter"]
theorem sc_is_word : FnScope N_is_word ["thing"] (defScope s_is_word) := ⟨rfl, rfl, rfl, by decide +kernel, rfl, by decide +kernel, by decide +kernel⟩
abbrev s_check_word : Stmt := topS 19
abbrev N_check_word : List Str := ["word"]
theorem sc_check_word : FnScope N_check_word ["word"] (defScope s_check_word) := ⟨rfl, rfl, rfl, by decide +kernel, rfl, by decide +kernel, by decide +kernel⟩
abbrev s_tread_of : Stmt := topS 25
abbrev N_tread_of : List Str := ["word"]
theorem sc_tread_of : FnScope N_tread_of ["word"] (defScope s_tread_of) := ⟨rfl, rfl, rfl, by decide +kernel, rfl, by decide +kernel, by decide +kernel⟩
abbrev s__law_z_kinds : Stmt := topS 31
abbrev N__law_z_kinds : List Str := ["one", "found"]
theorem sc__law_z_kinds : FnScope N__law_z_kinds ["one"] (defScope s__law_z_kinds) := ⟨rfl, rfl, rfl, by decide +kernel, rfl, by decide +kernel, by decide +kernel⟩
abbrev s_law : Stmt := topS 32
abbrev N_law : List Str := ["script", "pen", "turn", "text", "errors", "caught", "e", "j", "base", "k", "one"]
theorem sc_law : FnScope N_law ["script"] (defScope s_law) := ⟨rfl, rfl, rfl, by decide +kernel, rfl, by decide +kernel, by decide +kernel⟩
structure Txt (K : PySem.W.Frag) (mg : Str → Option Value) (C_TreadError : Addr) (C_NoWord : Addr) (C_NoPlace : Addr) (C_NoTread : Addr) (C_NoPower : Addr) (C_NoNumber : Addr) (C_NoMakers : Addr) (C_NoWalk : Addr) (C_NoAnswers : Addr) (C_NoWishes : Addr) (C_NoUndo : Addr) (C_NoThings : Addr) (C_NoMatch : Addr) (C_TooGreat : Addr) : Prop where
  x_TreadError : XC K mg "TreadError" C_TreadError
  x_NoWord : XC K mg "NoWord" C_NoWord
  x_NoPlace : XC K mg "NoPlace" C_NoPlace
  x_NoTread : XC K mg "NoTread" C_NoTread
  x_NoPower : XC K mg "NoPower" C_NoPower
  x_NoNumber : XC K mg "NoNumber" C_NoNumber
  x_NoMakers : XC K mg "NoMakers" C_NoMakers
  x_NoWalk : XC K mg "NoWalk" C_NoWalk
  x_NoAnswers : XC K mg "NoAnswers" C_NoAnswers
  x_NoWishes : XC K mg "NoWishes" C_NoWishes
  x_NoUndo : XC K mg "NoUndo" C_NoUndo
  x_NoThings : XC K mg "NoThings" C_NoThings
  x_NoMatch : XC K mg "NoMatch" C_NoMatch
  x_TooGreat : XC K mg "TooGreat" C_TooGreat
  b_ArithmeticError : mg "ArithmeticError" = none
  b_LookupError : mg "LookupError" = none
  b_TypeError : mg "TypeError" = none
  b_ValueError : mg "ValueError" = none
  b_enumerate : mg "enumerate" = none
  b_int : mg "int" = none
  b_isinstance : mg "isinstance" = none
  b_len : mg "len" = none
  b_list : mg "list" = none
  b_range : mg "range" = none
  b_str : mg "str" = none
  k_LETTERS : Cst mg "LETTERS" (.str "ABCDabcd")
  k_MOST_LETTERS : Cst mg "MOST_LETTERS" (.int 200)

/-! ### the pen -/
structure PenAt (n : Nat) (H : Hp) (p : Addr) : Prop where
  ex : ∃ (c : Addr) (cells : List Int) (at_ rest : Int), H p = some (.lst [.ref c, .int at_, .int rest]) ∧ H c = some (.lst (cells.map V.int)) ∧ c ≠ p ∧ 0 ≤ at_ ∧ at_ ≤ n ∧ 0 ≤ rest
theorem _root_.L2.Same.pen {H H' : Hp} {n : Nat} {p : Addr} (s : Same H H') (h : PenAt n H p) : PenAt n H' p := by
  obtain ⟨c, cells, a, r, h1, h2, h3⟩ := h.ex
  exact ⟨c, cells, a, r, s _ _ h1, s _ _ h2, h3⟩
theorem PenAt.mono {H : Hp} {n m : Nat} {p : Addr} (h : PenAt n H p) (l : n ≤ m) : PenAt m H p := by
  obtain ⟨c, cells, a, r, h1, h2, h3, h4, h5, h6⟩ := h.ex
  exact ⟨c, cells, a, r, h1, h2, h3, h4, by omega, h6⟩
def spSpread : Sp := Sp2 fun x y H Q E => ∃ c a : Int, x = .int c ∧ y = .int a ∧ 0 ≤ a ∧ a ≤ 4000000000 ∧ ∀ r H', 0 ≤ r → Same H H' → Q (.int r) H'
def spOpen (K : PySem.W.Frag) : Sp := Sp1 fun x H Q E => ∃ (a : Addr) (ns : List Int), x = .ref a ∧ SqL K H a (ns.map V.int) ∧ ns.length ≤ 63 ∧ ∀ p H', Same H H' → H p = none → PenAt 0 H' p → Q (.ref p) H'
def spTake : Sp := Sp2 fun x y H Q E => ∃ (p : Addr) (n : Nat) (many : Int), x = .ref p ∧ y = .int many ∧ PenAt n H p ∧ n < 4000000000 ∧ 0 < many ∧ many < 1073741824 ∧
  ∀ r H', 0 ≤ r → r < many → SameP p H H' → PenAt (n + 1) H' p → Q (.int r) H'
def spPick (K : PySem.W.Frag) : Sp := Sp2 fun x y H Q E => ∃ (p : Addr) (n : Nat), x = .ref p ∧ PenAt n H p ∧ n < 4000000000 ∧ match y with
  | .str z => 0 < z.length ∧ z.length ≤ sizeLine ∧ ∀ c ∈ z.cps.toList, ∀ H', SameP p H H' → PenAt (n + 1) H' p → Q (.str ⟨#[c]⟩) H'
  | .ref a => ∃ xs, (SqL K H a xs ∨ SqT K H a xs) ∧ a ≠ p ∧ xs ≠ [] ∧ xs.length ≤ sizeLine ∧ ∀ v ∈ xs, ∀ H', SameP p H H' → PenAt (n + 1) H' p → Q v H'
  | _ => False
def primesI : List Int := [2147483629, 2147483587, 2147483579, 2147483563, 2147483549, 2147483543, 2147483497, 2147483489, 2147483477, 2147483423, 2147483399, 2147483353, 2147483323]
theorem primes_at (k : Int) (h0 : 0 ≤ k) (h1 : k < 13) : ∃ pr : Int, atI (primesI.map V.int) k = some (.int pr) ∧ 2147483323 ≤ pr ∧ pr ≤ 2147483629 := by
  have hk : k = 0 ∨ k = 1 ∨ k = 2 ∨ k = 3 ∨ k = 4 ∨ k = 5 ∨ k = 6 ∨ k = 7 ∨ k = 8 ∨ k = 9 ∨ k = 10 ∨ k = 11 ∨ k = 12 := by omega
  rcases hk with rfl | rfl | rfl | rfl | rfl | rfl | rfl | rfl | rfl | rfl | rfl | rfl | rfl <;> exact ⟨_, rfl, by decide, by decide⟩
theorem mul_lt {x y A B : Int} (h1 : 0 ≤ x) (h2 : x ≤ A) (h3 : 0 ≤ y) (h4 : y ≤ B) : 0 ≤ x * y ∧ x * y ≤ A * B :=
  ⟨Int.mul_nonneg h1 h3, Int.mul_le_mul h2 h4 h3 (Int.le_trans h1 h2)⟩
/-! ### words -/
def letC : List Nat := [65, 66, 67, 68, 97, 98, 99, 100]
def isW (z : Str) : Bool := z.cps.toList.all fun c => decide (c ∈ letC)
def NoStr (K : PySem.W.Frag) (H : Hp) (v : V) : Prop := ∃ t, TyX K H v (.type t) ∧ PySem.W.kitOne K (.type t) (.type "str") = some false
def spIsWord (K : PySem.W.Frag) : Sp := Sp1 fun x H Q E => (∃ z, x = .str z ∧ Q (.bl (isW z)) H) ∨ (NoStr K H x ∧ Q (.bl false) H)
def spCheckWord (K : PySem.W.Frag) (C : Addr) : Sp := Sp1 fun x H Q E => (∃ z, x = .str z ∧ z.length ≤ sizeLine ∧ (isW z = true → z.length ≤ 200 → Q .non H) ∧ (¬ (isW z = true ∧ z.length ≤ 200) → E (.ref C) none H)) ∨ (NoStr K H x ∧ E (.ref C) none H)
theorem letters_eq : (("ABCDabcd" : Str)).cps.toList = letC := by decide +kernel
def spTreadBad (K : PySem.W.Frag) (C : Addr) : Sp := Sp1 fun x H Q E => ((∃ z, x = .str z ∧ z.length ≤ sizeLine ∧ ¬ (isW z = true ∧ z.length ≤ 200)) ∨ NoStr K H x) ∧ E (.ref C) none H
/-- what isinstance says of the class at D, asked for each of the classes -/
def KitRow (K : PySem.W.Frag) (D : Addr) : List Addr → List Bool → Prop
  | [c], [b] => PySem.W.kitOne K (.ref D) (.ref c) = some b
  | c :: cs, b :: bs => PySem.W.kitOne K (.ref D) (.ref c) = some b ∧ KitRow K D cs bs
  | _, _ => False
def spKinds (K : PySem.W.Frag) (cs : List Addr) : Sp := Sp1 fun x H Q E => ∃ (a D : Addr) (bs : List Bool), x = .ref a ∧ ExAt H a D ∧ ExcC K D ∧ KitRow K D cs bs ∧
  ∀ p H', Same H H' → H p = none → H' p = some (.lst (bs.map V.bl)) → Q (.ref p) H'
def spLaw (K : PySem.W.Frag) : Sp := Sp1 fun x H Q E => ∃ (a : Addr) (ns : List Int), x = .ref a ∧ SqL K H a (ns.map V.int) ∧ ns.length ≤ 63 ∧ ∀ H', Q (.bl true) H'
theorem KitRow.len {K : PySem.W.Frag} {D : Addr} : ∀ {cs : List Addr} {bs : List Bool}, KitRow K D cs bs → bs.length = cs.length
  | [_], [_], _ => rfl
  | c :: c' :: cs, [b], h => by
    have z := h.2
    cases cs <;> exact z.elim
  | c :: c' :: cs, b :: b' :: bs, h => by
    have := KitRow.len (cs := c' :: cs) (bs := b' :: bs) h.2
    simp only [List.length_cons] at this ⊢
    omega
  | [_], _ :: _ :: _, h => by
    have z := h.2
    exact z.elim
theorem KitRow.mk {K : PySem.W.Frag} {D : Addr} : ∀ {cs : List Addr} {bs : List Bool}, cs ≠ [] → bs.length = cs.length → (∀ (j : Nat) c b, cs[j]? = some c → bs[j]? = some b → PySem.W.kitOne K (.ref D) (.ref c) = some b) → KitRow K D cs bs
  | [], _, h, _, _ => absurd rfl h
  | [c], [b], _, _, k => k 0 c b rfl rfl
  | [c], [], _, h, _ => by cases h
  | [c], _ :: _ :: _, _, h, _ => by simp at h
  | c :: c' :: cs, [], _, h, _ => by cases h
  | c :: c' :: cs, [b], _, h, _ => by simp at h
  | c :: c' :: cs, b :: b' :: bs, _, h, k => ⟨k 0 c b rfl rfl, KitRow.mk (by simp) (by simpa using h) fun j x y e1 e2 => k (j + 1) x y e1 e2⟩
theorem list13 : ∀ {bs : List Bool}, bs.length = 13 → ∃ b0 b1 b2 b3 b4 b5 b6 b7 b8 b9 b10 b11 b12, bs = [b0, b1, b2, b3, b4, b5, b6, b7, b8, b9, b10, b11, b12]
  | [b0, b1, b2, b3, b4, b5, b6, b7, b8, b9, b10, b11, b12], _ => ⟨b0, b1, b2, b3, b4, b5, b6, b7, b8, b9, b10, b11, b12, rfl⟩
theorem row_c {xs : List Addr} {ys : List Value} {x : List Unit} {j : Nat} {c : Addr} (h : xs[j]? = some c) : (xs.map Value.ref ++ ys)[j]? = some (.ref c) := by
  have hj := (List.getElem?_eq_some_iff.mp h).1
  rw [List.getElem?_append_left (by rw [List.length_map]; exact hj), List.getElem?_map, h]
  rfl
theorem row_b {xs ys : List Bool} {j : Nat} {b : Bool} (h : xs[j]? = some b) : (xs ++ ys)[j]? = some b := by
  have hj := (List.getElem?_eq_some_iff.mp h).1
  rw [List.getElem?_append_left hj, h]

section
variable {P : Program} {w : World} {K : PySem.W.Frag} {mg : Str → Option Value} {base : Heap} {C_TreadError C_NoWord C_NoPlace C_NoTread C_NoPower C_NoNumber C_NoMakers C_NoWalk C_NoAnswers C_NoWishes C_NoUndo C_NoThings C_NoMatch C_TooGreat : Addr}
theorem ok__law_spread {f : Addr} {fd : FuncData} (T : Txt K mg C_TreadError C_NoWord C_NoPlace C_NoTread C_NoPower C_NoNumber C_NoMakers C_NoWalk C_NoAnswers C_NoWishes C_NoUndo C_NoThings C_NoMatch C_TooGreat) (F : Fun K "_law_spread" "_law_spread" s__law_spread f fd) (hm : mg "_law_spread" = some (.ref f)) (hb : Binds K fd ["cell", "at"] []) : Dfn P w K mg base CX0 1 "_law_spread" ["cell", "at"] (spSpread) := by
  refine Dfn.mk0 F hm hb sc__law_spread (fun vs H Q E h => Sp2.len h) (fun cdv A outer s H vs Q E hr hsp => ?_)
  obtain ⟨a0, a1, rfl, h⟩ := Sp2.of hsp
  clear hsp
  have hu := hr.units
  obtain ⟨c, a, rfl, rfl, h0, h1, q⟩ := h
  refine ⟨_, (pss_cons (ps_if (tCm oGe (pV 0) (pe_op oPow pe_int pe_int) (nomark _)) (pss_one (ps_ret (pV 0))) pss_nil)
      (pss_cons (ps_set (i := 2) sc__law_spread.nd rfl (by first | exact .inl rfl | exact .inr rfl) (pe_lst (pa_cons pe_int (pa_cons pe_int (pa_cons pe_int (pa_cons pe_int (pa_cons pe_int (pa_cons pe_int (pa_cons pe_int (pa_cons pe_int pa_nil))))))))))
      (pss_cons (ps_set (i := 2) sc__law_spread.nd rfl (by first | exact .inl rfl | exact .inr rfl) (pe_op oAdd (pV 2) (pe_lst (pa_cons pe_int (pa_cons pe_int (pa_cons pe_int (pa_cons pe_int (pa_cons pe_int pa_nil))))))))
      (pss_cons (ps_set (i := 3) sc__law_spread.nd rfl (by first | exact .inl rfl | exact .inr rfl) (pe_op oMul (pe_op oMod (pe_callTy cInt (by rfl) T.b_int (by decide +kernel) (pa_cons (pV 0) pa_nil)) pe_int) (pe_op oAdd (pe_op oMul pe_int (pV 1)) pe_int)))
      (pss_cons (ps_set (i := 3) sc__law_spread.nd rfl (by first | exact .inl rfl | exact .inr rfl) (pe_op oMod (pe_callTy cInt (by rfl) T.b_int (by decide +kernel) (pa_cons (pe_op oPow (pe_op oAdd (pe_op oAdd (pV 3) (pe_op oMul (pV 1) pe_int)) pe_int) pe_int) pa_nil)) (pe_ix (xIx (K := K)) (pV 2) (pe_op oMod (pe_callTy cInt (by rfl) T.b_int (by decide +kernel) (pa_cons (pV 1) pa_nil)) pe_int) (fun _ _ => rfl))))
      (pss_cons (ps_set (i := 4) sc__law_spread.nd rfl (by first | exact .inl rfl | exact .inr rfl) (pe_op oMod (pe_callTy cInt (by rfl) T.b_int (by decide +kernel) (pa_cons (pe_op oPow (pe_op oAdd (pe_op oAdd (pe_op oMul (pV 3) (pe_op oAdd (pV 1) pe_int)) (pe_op oMod (pe_callTy cInt (by rfl) T.b_int (by decide +kernel) (pa_cons (pV 0) pa_nil)) pe_int)) pe_int) pe_int) pa_nil)) (pe_ix (xIx (K := K)) (pV 2) (pe_op oMod (pe_callTy cInt (by rfl) T.b_int (by decide +kernel) (pa_cons (pe_op oAdd (pV 1) pe_int) pa_nil)) pe_int) (fun _ _ => rfl))))
      (pss_cons (ps_set (i := 5) sc__law_spread.nd rfl (by first | exact .inl rfl | exact .inr rfl) (pe_op oMod (pe_callTy cInt (by rfl) T.b_int (by decide +kernel) (pa_cons (pe_op oPow (pe_op oAdd (pe_op oAdd (pV 4) (pe_op oMod (pe_callTy cInt (by rfl) T.b_int (by decide +kernel) (pa_cons (pV 3) pa_nil)) pe_int)) (pV 1)) pe_int) pa_nil)) (pe_ix (xIx (K := K)) (pV 2) (pe_op oMod (pe_callTy cInt (by rfl) T.b_int (by decide +kernel) (pa_cons (pe_op oAdd (pV 1) pe_int) pa_nil)) pe_int) (fun _ _ => rfl))))
      (pss_one (ps_ret (pe_op oAdd (pe_op oMul (pe_op oAdd (pe_op oMul (pV 3) pe_int) (pV 4)) pe_int) (pV 5))))))))))), ?_⟩
  refine ⟨⟨by decide, by decide, by decide⟩, ?_⟩
  refine ite2 (fun e => q c H ?_ (Same.refl H)) (fun _ => ?_)
  · have e1 : (10 : Int) ^ (18 : Int).toNat ≤ c := of_decide_eq_true e
    have e2 : (0 : Int) ≤ 10 ^ (18 : Int).toNat := by decide
    omega
  refine ⟨(by show 8 ≤ sizeLine; decide), fun p1 n1 => ?_⟩
  refine ⟨(by show 5 ≤ sizeLine; decide), fun p2 n2 => ?_⟩
  have ne12 : p1 ≠ p2 := fun e => by rw [e, upd_same] at n2; cases n2
  refine ⟨_, _, (upd_ne ne12).trans upd_same, upd_same, (by show 13 ≤ sizeLine; decide), fun p3 n3 => ?_⟩
  generalize hH : upd (upd (upd H p1 _) p2 _) p3 _ = H3
  have sm : Same H H3 := by rw [← hH]; exact ((same_upd n1).trans (same_upd n2)).trans (same_upd n3)
  have hL : SqL K H3 p3 (primesI.map V.int) := by rw [← hH]; exact .inl (.inl upd_same)
  -- one
  refine ⟨by decide, .inl ⟨by decide, by decide⟩, ⟨.inl ⟨by omega, by omega⟩, ?_⟩⟩
  have hc1 := Int.emod_nonneg c (b := 1000000007) (by decide)
  have hc2 := Int.emod_lt_of_pos c (b := 1000000007) (by decide)
  have m1 := mul_lt hc1 (A := 1000000007) (by omega) (y := 2 * a + 69069) (B := 8000069069) (by omega) (by omega)
  generalize c % 1000000007 * (2 * a + 69069) = u1 at m1 ⊢
  refine ⟨.inl ⟨by omega, by omega⟩, ⟨by decide, by decide, by omega⟩, by decide, ?_⟩
  obtain ⟨pr1, g1, b1, b2⟩ := primes_at (a % 13) (Int.emod_nonneg a (by decide)) (Int.emod_lt_of_pos a (by decide))
  refine ⟨_, _, .inl hL, g1, by omega, ?_⟩
  generalize (u1 + a * 40503 + 977) ^ (3 : Int).toNat = w1
  have d1 := Int.emod_nonneg w1 (b := pr1) (by omega)
  have d2 := Int.emod_lt_of_pos w1 (b := pr1) (by omega)
  generalize w1 % pr1 = one at d1 d2 ⊢
  -- two
  have m2 := mul_lt d1 (A := 2147483629) (by omega) (y := a + 3) (B := 4000000003) (by omega) (by omega)
  refine ⟨.inl ⟨by omega, by omega⟩, by decide, ⟨by decide, by decide, ?_⟩, by decide, ?_⟩
  · have hc3 := Int.emod_nonneg c (b := 65537) (by decide)
    have hc4 := Int.emod_lt_of_pos c (b := 65537) (by decide)
    generalize one * (a + 3) = u2 at m2 ⊢
    omega
  obtain ⟨pr2, g2, b3, b4⟩ := primes_at ((a + 5) % 13) (Int.emod_nonneg _ (by decide)) (Int.emod_lt_of_pos _ (by decide))
  refine ⟨_, _, .inl hL, g2, by omega, ?_⟩
  generalize (one * (a + 3) + c % 65537 + 5) ^ (5 : Int).toNat = w2
  have d3 := Int.emod_nonneg w2 (b := pr2) (by omega)
  have d4 := Int.emod_lt_of_pos w2 (b := pr2) (by omega)
  generalize w2 % pr2 = two at d3 d4 ⊢
  -- three
  have hc5 := Int.emod_nonneg one (b := 1009) (by decide)
  have hc6 := Int.emod_lt_of_pos one (b := 1009) (by decide)
  refine ⟨by decide, ⟨by decide, by decide, by omega⟩, by decide, ?_⟩
  obtain ⟨pr3, g3, b5, b6⟩ := primes_at ((a + 7) % 13) (Int.emod_nonneg _ (by decide)) (Int.emod_lt_of_pos _ (by decide))
  refine ⟨_, _, .inl hL, g3, by omega, ?_⟩
  generalize (two + one % 1009 + a) ^ (3 : Int).toNat = w3
  have d5 := Int.emod_nonneg w3 (b := pr3) (by omega)
  have d6 := Int.emod_lt_of_pos w3 (b := pr3) (by omega)
  generalize w3 % pr3 = three at d5 d6 ⊢
  refine ⟨.inl ⟨by omega, by omega⟩, .inr ⟨by decide, by decide⟩, ?_⟩
  refine q _ H3 ?_ sm
  omega

theorem ok__law_open {f : Addr} {fd : FuncData} (T : Txt K mg C_TreadError C_NoWord C_NoPlace C_NoTread C_NoPower C_NoNumber C_NoMakers C_NoWalk C_NoAnswers C_NoWishes C_NoUndo C_NoThings C_NoMatch C_TooGreat) (F : Fun K "_law_open" "_law_open" s__law_open f fd) (hm : mg "_law_open" = some (.ref f)) (hb : Binds K fd ["script"] []) : Dfn P w K mg base CX0 1 "_law_open" ["script"] (spOpen K) := by
  refine Dfn.mk0 F hm hb sc__law_open (fun vs H Q E h => Sp1.len h) (fun cdv A outer s H vs Q E hr hsp => ?_)
  obtain ⟨a0, rfl, h⟩ := Sp1.of hsp
  clear hsp
  have hu := hr.units
  obtain ⟨a, ns, rfl, hS, hlen, q⟩ := h
  refine ⟨_, (pss_cons (ps_set (i := 1) sc__law_open.nd rfl (by first | exact .inl rfl | exact .inr rfl) (pe_callTy (cListOf (K := K)) (by rfl) T.b_list (by decide +kernel) (pa_cons (pe_slice (sSl (K := K)) (pV 0) po_none (oPart pe_int)) pa_nil)))
      (pss_cons (ps_for PassesOwn.never rfl (pi_enum (by rfl) T.b_enumerate (pa_cons (pe_slice (sSl (K := K)) (pV 0) (oPart pe_int) (oPart pe_int)) pa_nil)) (pg_tup rfl (pgs_cons (pg_name (i := 2) sc__law_open.nd rfl (by first | exact .inl rfl | exact .inr rfl)) (pgs_cons (pg_name (i := 3) sc__law_open.nd rfl (by first | exact .inl rfl | exact .inr rfl)) pgs_nil))) (pss_one (ps_asg (pe_op oAdd (pe_ix (xIx (K := K)) (pV 1) (pe_op oMod (pe_callTy cInt (by rfl) T.b_int (by decide +kernel) (pa_cons (pV 2) pa_nil)) pe_int) (fun _ _ => rfl)) (pV 3)) (pg_sub (pV 1) (pe_op oMod (pe_callTy cInt (by rfl) T.b_int (by decide +kernel) (pa_cons (pV 2) pa_nil)) pe_int) set_list))))
      (pss_one (ps_ret (pe_lst (pa_cons (pV 1) (pa_cons pe_int (pa_cons pe_int pa_nil)))))))), ?_⟩
  -- cells = list(script[:12])
  refine ⟨ns.map V.int, hS, fun p1 n1 => ?_⟩
  refine ⟨_, .inl (.inl (.inl upd_same)), fun l n2 => ?_⟩
  generalize hH : upd (upd H p1 _) l _ = H2
  have sm2 : Same H H2 := by rw [← hH]; exact (same_upd n1).trans (same_upd n2)
  have hl0 : H2 l = some (.lst ((ns.take 12).map V.int)) := by
    rw [← hH, upd_same]
    have e : cutV (ns.map V.int) none (some 12) = (ns.take 12).map V.int := by
      unfold cutV
      rw [HT.sIx_none, show HT.sIx (ns.map V.int).length (ns.map V.int).length (some 12) = min 12 (ns.map V.int).length from HT.sIx_nat _ _ 12, List.drop_zero, Nat.sub_zero, ← List.map_take]
      rw [List.length_map]
      congr 1
      by_cases c : 12 ≤ ns.length
      · rw [Nat.min_eq_left c]
      · rw [Nat.min_eq_right (by omega), List.take_length, List.take_of_length_le (by omega)]
    rw [e]
  have nl : H l = none := by
    cases e : H l with
    | none => rfl
    | some o => rw [same_upd n1 l o e] at n2; cases n2
  -- the slice
  refine ⟨ns.map V.int, sm2.seq hS, fun e n3 => ?_⟩
  have hes : cutV (ns.map V.int) (some 12) (some 63) = ((ns.drop 12).take 51).map V.int := by
    unfold cutV
    rw [show HT.sIx (ns.map V.int).length 0 (some 12) = min 12 (ns.map V.int).length from HT.sIx_nat _ _ 12, show HT.sIx (ns.map V.int).length (ns.map V.int).length (some 63) = min 63 (ns.map V.int).length from HT.sIx_nat _ _ 63, List.length_map]
    rw [← List.map_drop, ← List.map_take, Nat.min_eq_right (by omega : ns.length ≤ 63)]
    congr 1
    by_cases c : 12 ≤ ns.length
    · rw [Nat.min_eq_left c, List.take_of_length_le (by rw [List.length_drop]; omega), List.take_of_length_le (by rw [List.length_drop]; omega)]
    · rw [Nat.min_eq_right (by omega), List.drop_length, List.drop_of_length_le (by omega), List.take_nil, List.take_nil]
  have nle : l ≠ e := ne_of_none hl0 n3
  refine ⟨e, _, rfl, .inl (.inl upd_same), for_it walk_enum (fun i σ H' => ∃ y2 y3, σ = [some (.ref a), some (.ref l), y2, y3] ∧ Same H H' ∧ (∃ cs : List Int, H' l = some (.lst (cs.map V.int)) ∧ cs.length = min 12 ns.length) ∧ SqL K H' e (cutV (ns.map V.int) (some 12) (some 63))) ⟨none, none, rfl, sm2.trans (same_upd n3), ⟨_, (upd_ne nle).trans hl0, by rw [List.length_take]⟩, .inl (.inl upd_same)⟩ (fun i σ H' _ ⟨_, _, _, _, _, x⟩ => x) ?_ ?_⟩
  · rintro i v σ H4 H5 hi ⟨y2, y3, rfl, s4, ⟨cs, hl, hcl⟩, hE⟩ ⟨T, x, y, rfl, nT, rfl, hx, hy⟩
    cases hx
    rw [hes, List.length_map, List.length_take, List.length_drop] at hi
    rw [hes] at hy
    dsimp only at hy
    obtain ⟨z, rfl⟩ : ∃ z, y = V.int z := by
      rw [List.getElem?_map] at hy
      cases e : ((ns.drop 12).take 51)[i]? with
      | none => rw [e] at hy; cases hy
      | some z => rw [e] at hy; exact ⟨z, (Option.some.inj hy).symm⟩
    have nlT : l ≠ T := ne_of_none hl nT
    refine ⟨T, _, rfl, .inl (.inl upd_same), rfl, _, _, rfl, _, _, rfl, rfl, ?_⟩
    have hk0 : (0 : Int) ≤ (i : Int) % 12 := Int.emod_nonneg _ (by decide)
    have hk1 : (i : Int) % 12 < 12 := Int.emod_lt_of_pos _ (by decide)
    obtain ⟨j, hj⟩ : ∃ j : Nat, (i : Int) % 12 = (j : Int) := ⟨((i : Int) % 12).toNat, by omega⟩
    have hjl : j < cs.length := by omega
    have hg : (cs.map V.int)[j]? = some (.int cs[j]) := by rw [List.getElem?_map, List.getElem?_eq_getElem hjl]; rfl
    have hlT : (upd H4 T (.tup [.int (i : Nat), .int z])) l = some (.lst (cs.map V.int)) := (upd_ne nlT).trans hl
    refine ⟨by decide, _, _, .inl (.inl (.inl hlT)), at_of hj hg, by decide, l, _, _, j, rfl, rfl, hlT, ?_, ?_⟩
    · rw [hj, List.length_map]
      exact ixN_n hjl
    · have nlb : ∀ b o, H b = some o → b ≠ l := fun b o x => ne_of_none x nl
      refine ⟨_, _, rfl, (s4.trans (same_upd nT)).upd_new nl, ⟨cs.set j (cs[j] + z), ?_, ?_⟩, ?_⟩
      · rw [upd_same, List.map_set]
      · rw [List.length_set, hcl]
      · have sp : SameP l H4 (upd (upd H4 T (.tup [.int (i : Nat), .int z])) l (.lst ((cs.map V.int).set j (.int (cs[j] + z))))) := (SameP.of (same_upd nT)).trans sameP_upd
        exact sp.seq (Ne.symm nle) hE
  · rintro σ H4 ⟨y2, y3, rfl, s4, ⟨cs, hl, hcl⟩, hE⟩
    refine ⟨(by show 3 ≤ sizeLine; decide), fun p np => q p _ (s4.trans (same_upd np)) (s4.free np) ⟨l, cs, 0, 0, upd_same, ?_, ne_of_none hl np, by omega, by omega, by omega⟩⟩
    rw [upd_ne (ne_of_none hl np)]
    exact hl

theorem ok__law_take {f : Addr} {fd : FuncData} (T : Txt K mg C_TreadError C_NoWord C_NoPlace C_NoTread C_NoPower C_NoNumber C_NoMakers C_NoWalk C_NoAnswers C_NoWishes C_NoUndo C_NoThings C_NoMatch C_TooGreat) (D__law_spread : Dfn P w K mg base CX0 1 "_law_spread" ["cell", "at"] (spSpread)) (F : Fun K "_law_take" "_law_take" s__law_take f fd) (hm : mg "_law_take" = some (.ref f)) (hb : Binds K fd ["pen", "many"] []) : Dfn P w K mg base CX0 2 "_law_take" ["pen", "many"] (spTake) := by
  refine Dfn.mk0 F hm hb sc__law_take (fun vs H Q E h => Sp2.len h) (fun cdv A outer s H vs Q E hr hsp => ?_)
  obtain ⟨a0, a1, rfl, h⟩ := Sp2.of hsp
  clear hsp
  have hu := hr.units
  obtain ⟨p, n, many, rfl, rfl, hp, hn, h1, h2, q⟩ := h
  obtain ⟨c, cells, at_, rest, hP, hC, ncp, ha, han, hr0⟩ := hp.ex
  refine ⟨_, (C8.pss_cut (ps_if (tCm oLt (pe_ix (xIx (K := K)) (pV 0) pe_int (fun _ _ => rfl)) (pV 1) (nomark _)) (pss_cons (ps_set (i := 2) sc__law_take.nd rfl (by first | exact .inl rfl | exact .inr rfl) (pe_ix (xIx (K := K)) (pV 0) pe_int (fun _ _ => rfl)))
      (pss_cons (ps_set (i := 3) sc__law_take.nd rfl (by first | exact .inl rfl | exact .inr rfl) pe_int)
      (C8.pss_cut (ps_if (tCm oLt (pV 2) (pe_callB (cLen (K := K)) (by rfl) T.b_len PySem.boot_len (pa_cons (pe_ix (xIx (K := K)) (pV 0) pe_int (fun _ _ => rfl)) pa_nil)) (nomark _)) (pss_one (ps_set (i := 3) sc__law_take.nd rfl (by first | exact .inl rfl | exact .inr rfl) (pe_ix (xIx (K := K)) (pe_ix (xIx (K := K)) (pV 0) pe_int (fun _ _ => rfl)) (pV 2) (fun _ _ => rfl)))) (pss_one (ps_if (tCm oGt (pe_callB (cLen (K := K)) (by rfl) T.b_len PySem.boot_len (pa_cons (pe_ix (xIx (K := K)) (pV 0) pe_int (fun _ _ => rfl)) pa_nil)) pe_int (nomark _)) (pss_one (ps_set (i := 3) sc__law_take.nd rfl (by first | exact .inl rfl | exact .inr rfl) (pe_op oMod (pe_callTy cInt (by rfl) T.b_int (by decide +kernel) (pa_cons (pe_ix (xIx (K := K)) (pe_ix (xIx (K := K)) (pV 0) pe_int (fun _ _ => rfl)) (pe_op oMod (pe_callTy cInt (by rfl) T.b_int (by decide +kernel) (pa_cons (pe_op oAdd (pe_op oMul (pV 2) pe_int) pe_int) pa_nil)) (pe_callB (cLen (K := K)) (by rfl) T.b_len PySem.boot_len (pa_cons (pe_ix (xIx (K := K)) (pV 0) pe_int (fun _ _ => rfl)) pa_nil))) (fun _ _ => rfl)) pa_nil)) (pe_op oAdd (pe_op oPow pe_int pe_int) (pV 2))))) pss_nil)))
      (pss_cons (ps_asg (pe_op oAdd (pV 2) pe_int) (pg_sub (pV 0) pe_int set_list))
      (pss_one (ps_asg (pC D__law_spread (hr.mono (by decide)) pass0 (pa_cons (pV 3) (pa_cons (pV 2) pa_nil))) (pg_sub (pV 0) pe_int set_list))))))) pss_nil)
      (pss_cons (ps_set (i := 4) sc__law_take.nd rfl (by first | exact .inl rfl | exact .inr rfl) (pe_op oMod (pe_callTy cInt (by rfl) T.b_int (by decide +kernel) (pa_cons (pe_ix (xIx (K := K)) (pV 0) pe_int (fun _ _ => rfl)) pa_nil)) (pV 1)))
      (pss_cons (ps_asg (pe_op oFdiv (pe_ix (xIx (K := K)) (pV 0) pe_int (fun _ _ => rfl)) (pV 1)) (pg_sub (pV 0) pe_int set_list))
      (pss_one (ps_ret (pV 4)))))), ?_⟩
  refine ⟨fun σ' H' => ∃ x2 x3, ∃ at2 rest2 : Int, σ' = [some (.ref p), some (.int many), x2, x3, none] ∧ H' p = some (.lst [.ref c, .int at2, .int rest2]) ∧ H' c = some (.lst (cells.map V.int)) ∧ SameP p H H' ∧ 0 ≤ at2 ∧ at2 ≤ n + 1 ∧ 0 ≤ rest2, ?_, ?_⟩
  · refine ⟨_, _, .inl (.inl (.inl hP)), rfl, ?_⟩
    refine ite2 (fun _ => ?_) (fun _ => ⟨_, _, _, _, rfl, hP, hC, SameP.refl p H, ha, by omega, hr0⟩)
    refine ⟨_, _, .inl (.inl (.inl hP)), rfl, ?_⟩
    refine ⟨fun σ' H' => ∃ v : Int, σ' = [some (.ref p), some (.int many), some (.int at_), some (.int v), none] ∧ H' = H, ?_, ?_⟩
    · refine ⟨_, _, .inl (.inl (.inl hP)), rfl, _, .inl (.inl (.inl hC)), ?_⟩
      refine ite2 (fun e => ?_) (fun _ => ?_)
      · have e1 : at_ < ((cells.map V.int).length : Int) := of_decide_eq_true e
        rw [List.length_map] at e1
        obtain ⟨j, rfl⟩ : ∃ j : Nat, at_ = j := ⟨at_.toNat, by omega⟩
        have hg : (cells.map V.int)[j]? = some (.int (cells[j]'(by omega))) := by rw [List.getElem?_map, List.getElem?_eq_getElem (by omega)]; rfl
        exact ⟨_, _, .inl (.inl (.inl hP)), rfl, _, _, .inl (.inl (.inl hC)), atI_nat hg, _, rfl, rfl⟩
      refine ⟨_, _, .inl (.inl (.inl hP)), rfl, _, .inl (.inl (.inl hC)), ?_⟩
      refine ite2 (fun e => ?_) (fun _ => ⟨_, rfl, rfl⟩)
      have e1 : (0 : Int) < ((cells.map V.int).length : Int) := of_decide_eq_true e
      refine ⟨_, _, .inl (.inl (.inl hP)), rfl, .inl ⟨by omega, by omega⟩, _, _, .inl (.inl (.inl hP)), rfl, _, .inl (.inl (.inl hC)), e1, ?_⟩
      have k0 := Int.emod_nonneg (at_ * 5 + 3) (b := ((cells.map V.int).length : Int)) (by omega)
      have k1 := Int.emod_lt_of_pos (at_ * 5 + 3) (b := ((cells.map V.int).length : Int)) e1
      obtain ⟨j, hj⟩ : ∃ j : Nat, (at_ * 5 + 3) % ((cells.map V.int).length : Int) = j := ⟨((at_ * 5 + 3) % ((cells.map V.int).length : Int)).toNat, by omega⟩
      have hjl : j < cells.length := by rw [hj, List.length_map] at k1; omega
      have hg : (cells.map V.int)[j]? = some (.int cells[j]) := by rw [List.getElem?_map, List.getElem?_eq_getElem hjl]; rfl
      refine ⟨_, _, .inl (.inl (.inl hC)), at_of hj hg, ⟨by decide, by decide, by decide⟩, ?_, ⟨_, rfl, rfl⟩⟩
      have e2 : (0 : Int) ≤ 10 ^ (17 : Int).toNat := by decide
      have e3 : (0 : Int) < 10 ^ (17 : Int).toNat := by decide
      omega
    · rintro σ' H' ⟨v, rfl, rfl⟩
      refine ⟨p, _, _, 1, rfl, rfl, hP, rfl, ?_⟩
      refine ⟨v, at_, rfl, rfl, ha, by omega, fun r H2 hr s2 => ?_⟩
      have hP2 := s2 _ _ (upd_same (H := H') (a := p))
      refine ⟨p, _, _, 2, rfl, rfl, hP2, rfl, ?_⟩
      refine ⟨_, _, _, _, rfl, upd_same, ?_, ?_, by omega, by omega, hr⟩
      · rw [upd_ne ncp]
        exact s2 _ _ ((upd_ne ncp).trans hC)
      · exact (sameP_upd.trans (SameP.of s2)).trans sameP_upd
  · rintro σ' H' ⟨x2, x3, at2, rest2, rfl, hP2, hC2, s2, b0, b1, b2⟩
    refine ⟨_, _, .inl (.inl (.inl hP2)), rfl, h1, _, _, .inl (.inl (.inl hP2)), rfl, ⟨h1, h2⟩, p, _, _, 2, rfl, rfl, hP2, rfl, ?_⟩
    refine q _ _ (Int.emod_nonneg _ (by omega)) (Int.emod_lt_of_pos _ h1) (s2.trans sameP_upd) ⟨c, cells, at2, rest2 / many, upd_same, (upd_ne ncp).trans hC2, ncp, b0, by omega, Int.ediv_nonneg b2 (by omega)⟩

theorem ok__law_z_pick {f : Addr} {fd : FuncData} (T : Txt K mg C_TreadError C_NoWord C_NoPlace C_NoTread C_NoPower C_NoNumber C_NoMakers C_NoWalk C_NoAnswers C_NoWishes C_NoUndo C_NoThings C_NoMatch C_TooGreat) (D__law_take : Dfn P w K mg base CX0 2 "_law_take" ["pen", "many"] (spTake)) (F : Fun K "_law_z_pick" "_law_z_pick" s__law_z_pick f fd) (hm : mg "_law_z_pick" = some (.ref f)) (hb : Binds K fd ["pen", "some"] []) : Dfn P w K mg base CX0 3 "_law_z_pick" ["pen", "some"] (spPick K) := by
  refine Dfn.mk0 F hm hb sc__law_z_pick (fun vs H Q E h => Sp2.len h) (fun cdv A outer s H vs Q E hr hsp => ?_)
  obtain ⟨a0, a1, rfl, h⟩ := Sp2.of hsp
  clear hsp
  have hu := hr.units
  obtain ⟨p, n, rfl, hp, hn, h⟩ := h
  have hz := sizeLine_eq
  refine ⟨_, (pss_one (ps_ret (pe_ix (xIx (K := K)) (pV 1) (pC D__law_take (hr.mono (by decide)) pass0 (pa_cons (pV 0) (pa_cons (pe_callB (cLen (K := K)) (by rfl) T.b_len PySem.boot_len (pa_cons (pV 1) pa_nil)) pa_nil))) (fun _ _ => rfl)))), ?_⟩
  cases a1 with
  | str z =>
    obtain ⟨h1, h2, q⟩ := h
    refine ⟨h2, p, n, _, rfl, rfl, hp, hn, by omega, by omega, fun r H' r0 r1 s2 hp2 => ?_⟩
    obtain ⟨c, hc, e⟩ := at_int (xs := z.cps.toList) r0 (by rw [str_len]; exact r1)
    exact ⟨h2, c, e, q c hc H' s2 hp2⟩
  | ref a =>
    obtain ⟨xs, hx, na, h1, h2, q⟩ := h
    have h3 : 0 < xs.length := List.length_pos_iff.mpr h1
    refine ⟨xs, hx, p, n, _, rfl, rfl, hp, hn, by omega, by omega, fun r H' r0 r1 s2 hp2 => ?_⟩
    obtain ⟨v, hv, e⟩ := at_int (xs := xs) r0 r1
    exact ⟨xs, v, hx.imp (fun x => s2.seq na x) (fun x => s2.tup na x), e, q v hv H' s2 hp2⟩
  | _ => exact h.elim

theorem ok_is_word {f : Addr} {fd : FuncData} (T : Txt K mg C_TreadError C_NoWord C_NoPlace C_NoTread C_NoPower C_NoNumber C_NoMakers C_NoWalk C_NoAnswers C_NoWishes C_NoUndo C_NoThings C_NoMatch C_TooGreat) (F : Fun K "is_word" "is_word" s_is_word f fd) (hm : mg "is_word" = some (.ref f)) (hb : Binds K fd ["thing"] []) : Dfn P w K mg base CX0 1 "is_word" ["thing"] (spIsWord K) := by
  refine Dfn.mk0 F hm hb sc_is_word (fun vs H Q E h => Sp1.len h) (fun cdv A outer s H vs Q E hr hsp => ?_)
  obtain ⟨a0, rfl, h⟩ := Sp1.of hsp
  clear hsp
  have hu := hr.units
  have b1 : PySem.W.kitOne K (.type "str") (.type "str") = some true := kit_ty (by decide +kernel)
  refine ⟨_, (pss_cons (ps_if (pt_not (tVal (pe_callB (cIs (K := K)) (by rfl) T.b_isinstance (by decide +kernel) (pa_cons (pV 0) (pa_cons (pe_bltn (v := .ty "str") rfl T.b_str (by decide +kernel) rfl) pa_nil))))) (pss_one (ps_ret pe_bl)) pss_nil)
      (pss_cons (ps_for PassesOwn.never rfl (pI (K := K) (pV 0)) (pg_name (i := 1) sc_is_word.nd rfl (by first | exact .inl rfl | exact .inr rfl)) (pss_one (ps_if (tCm oNotInS (pV 1) (pK T.k_LETTERS) (by with_unfolding_all rfl)) (pss_one (ps_ret pe_bl)) pss_nil)))
      (pss_one (ps_ret pe_bl)))), ?_⟩
  rcases h with ⟨z, rfl, q⟩ | ⟨⟨t, ht, hk⟩, q⟩
  · refine .inl ⟨_, _, _, _, _, rfl, .ty _, .base (.str z), b1, iteF ?_⟩
    refine for_it walk_str (fun i σ' H' => ∃ y, σ' = [some (.str z), y] ∧ H' = H ∧ ∀ (j : Nat) (c : Nat), j < i → z.cps[j]? = some c → c ∈ letC) ⟨none, rfl, rfl, fun j c h => absurd h (Nat.not_lt_zero j)⟩ (fun _ _ _ _ _ => trivial) ?_ ?_
    · rintro i v σ' H1 H2 hi ⟨y, rfl, rfl, hall⟩ ⟨rfl, c, hc, rfl⟩
      refine ⟨rfl, ite2 (fun e => ?_) (fun e => ⟨_, rfl, rfl, fun j d hj hd => ?_⟩)⟩
      · have hn : ¬ c ∈ letC := by
          rw [letters_eq] at e
          intro m
          have e' : (true != decide (c ∈ letC)) = true := e
          rw [decide_eq_true m] at e'
          cases e'
        have hw : isW z = false := by
          refine Bool.eq_false_iff.mpr fun w => hn ?_
          have w1 := List.all_eq_true.mp w c (Array.mem_toList_iff.mpr (Array.mem_of_getElem? hc))
          exact of_decide_eq_true w1
        rw [hw] at q
        exact q
      · rcases Nat.lt_succ_iff_lt_or_eq.mp hj with hj | rfl
        · exact hall j d hj hd
        · rw [hc] at hd
          cases hd
          rw [letters_eq] at e
          have e' : ¬ (true != decide (c ∈ letC)) = true := e
          by_cases m : c ∈ letC
          · exact m
          · rw [decide_eq_false m] at e'
            exact absurd rfl e'
    · rintro σ' H1 ⟨y, rfl, rfl, hall⟩
      have hw : isW z = true := by
        refine List.all_eq_true.mpr fun c hc => ?_
        obtain ⟨j, hj, e⟩ := List.getElem_of_mem hc
        have hj' : j < z.cps.size := by simpa using hj
        exact decide_eq_true (hall j c hj' (by rw [Array.getElem?_eq_getElem hj', ← e, Array.getElem_toList]))
      rw [hw] at q
      exact q
  · exact .inl ⟨_, _, _, _, _, rfl, .ty _, ht, hk, iteT q⟩

theorem ok_check_word {f : Addr} {fd : FuncData} (T : Txt K mg C_TreadError C_NoWord C_NoPlace C_NoTread C_NoPower C_NoNumber C_NoMakers C_NoWalk C_NoAnswers C_NoWishes C_NoUndo C_NoThings C_NoMatch C_TooGreat) (D_is_word : Dfn P w K mg base CX0 1 "is_word" ["thing"] (spIsWord K)) (F : Fun K "check_word" "check_word" s_check_word f fd) (hm : mg "check_word" = some (.ref f)) (hb : Binds K fd ["word"] []) : Dfn P w K mg base (L2.CX P w) 2 "check_word" ["word"] (spCheckWord K C_NoWord) := by
  refine Dfn.mkX F hm hb sc_check_word (fun vs H Q E h => Sp1.len h) (fun cdv A outer s H vs Q E hr hsp => ?_)
  obtain ⟨a0, rfl, h⟩ := Sp1.of hsp
  clear hsp
  have hu := hr.units
  refine ⟨_, (pss_one (ps_if (PW.pt (pw_or (pt_not (tVal (pC D_is_word (hr.mono (by decide)) pass0 (pa_cons (pV 0) pa_nil)))) (pw_or1 (tCm oGt (pe_callB (cLen (K := K)) (by rfl) T.b_len PySem.boot_len (pa_cons (pV 0) pa_nil)) (pK T.k_MOST_LETTERS) (nomark _))))) (pss_one (ps_raise rfl (takes_of rfl rfl rfl rfl) (pmk_own PySem.F.excBase_ValueError T.x_NoWord.ex T.x_NoWord.gC T.x_NoWord.kp T.x_NoWord.rs rfl))) pss_nil)), ?_⟩
  rcases h with ⟨z, rfl, hz, q1, q2⟩ | ⟨hn, q⟩
  · refine .inl ⟨z, rfl, ?_⟩
    cases hw : isW z with
    | false =>
      refine iteT (iteT ?_)
      exact q2 fun x => by rw [hw] at x; cases x.1
    | true =>
      refine iteF ⟨hz, ite2 (fun e => ?_) (fun e => ?_)⟩
      · have e' : (200 : Int) < z.length := of_decide_eq_true e
        exact q2 fun x => by omega
      · have e' : ¬ (200 : Int) < z.length := fun m => e (decide_eq_true m)
        exact q1 hw (by omega)
  · refine .inr ⟨hn, iteT (iteT ?_)⟩
    exact q

theorem ok_tread_of {f : Addr} {fd : FuncData} (T : Txt K mg C_TreadError C_NoWord C_NoPlace C_NoTread C_NoPower C_NoNumber C_NoMakers C_NoWalk C_NoAnswers C_NoWishes C_NoUndo C_NoThings C_NoMatch C_TooGreat) (D_check_word : Dfn P w K mg base (L2.CX P w) 2 "check_word" ["word"] (spCheckWord K C_NoWord)) (F : Fun K "tread_of" "tread_of" s_tread_of f fd) (hm : mg "tread_of" = some (.ref f)) (hb : Binds K fd ["word"] []) : Dfn P w K mg base (L2.CX P w) 3 "tread_of" ["word"] (spTreadBad K C_NoWord) := by
  refine Dfn.mkX F hm hb sc_tread_of (fun vs H Q E h => Sp1.len h) (fun cdv A outer s H vs Q E hr hsp => ?_)
  obtain ⟨a0, rfl, h⟩ := Sp1.of hsp
  clear hsp
  have hu := hr.units
  refine ⟨_, (pss_cons (ps_expr (pC D_check_word (hr.mono (by decide)) (passes_call (takes_of rfl rfl rfl rfl) (fun _ _ _ _ z => z)) (pa_cons (pV 0) pa_nil)))
      (pss_one ps_never)), ?_⟩
  obtain ⟨⟨z, rfl, hz, hb⟩ | hn, q⟩ := h
  · exact .inl ⟨z, rfl, hz, fun a b => hb ⟨a, b⟩, fun _ => q⟩
  · exact .inr ⟨hn, q⟩

theorem ok__law_z_kinds {f : Addr} {fd : FuncData} (T : Txt K mg C_TreadError C_NoWord C_NoPlace C_NoTread C_NoPower C_NoNumber C_NoMakers C_NoWalk C_NoAnswers C_NoWishes C_NoUndo C_NoThings C_NoMatch C_TooGreat) (F : Fun K "_law_z_kinds" "_law_z_kinds" s__law_z_kinds f fd) (hm : mg "_law_z_kinds" = some (.ref f)) (hb : Binds K fd ["one"] []) : Dfn P w K mg base CX0 1 "_law_z_kinds" ["one"] (spKinds K [C_NoWord, C_NoPlace, C_NoTread, C_NoPower, C_NoNumber, C_NoMakers, C_NoWalk, C_NoAnswers, C_NoWishes, C_NoUndo, C_NoThings, C_NoMatch, C_TooGreat]) := by
  refine Dfn.mk0 F hm hb sc__law_z_kinds (fun vs H Q E h => Sp1.len h) (fun cdv A outer s H vs Q E hr hsp => ?_)
  obtain ⟨a0, rfl, h⟩ := Sp1.of hsp
  clear hsp
  have hu := hr.units
  obtain ⟨a, D, bs, rfl, hx, hC, hk, q⟩ := h
  obtain ⟨b0, b1, b2, b3, b4, b5, b6, b7, b8, b9, b10, b11, b12, rfl⟩ := list13 hk.len
  obtain ⟨k0, k1, k2, k3, k4, k5, k6, k7, k8, k9, k10, k11, k12⟩ := hk
  refine ⟨_, (pss_cons (ps_set (i := 1) sc__law_z_kinds.nd rfl (by first | exact .inl rfl | exact .inr rfl) (pe_lst (pa_cons (pe_callB (cIs (K := K)) (by rfl) T.b_isinstance (by decide +kernel) (pa_cons (pV 0) (pa_cons (pe_glob (v := .ref _) rfl T.x_NoWord.gC rfl) pa_nil))) (pa_cons (pe_callB (cIs (K := K)) (by rfl) T.b_isinstance (by decide +kernel) (pa_cons (pV 0) (pa_cons (pe_glob (v := .ref _) rfl T.x_NoPlace.gC rfl) pa_nil))) (pa_cons (pe_callB (cIs (K := K)) (by rfl) T.b_isinstance (by decide +kernel) (pa_cons (pV 0) (pa_cons (pe_glob (v := .ref _) rfl T.x_NoTread.gC rfl) pa_nil))) (pa_cons (pe_callB (cIs (K := K)) (by rfl) T.b_isinstance (by decide +kernel) (pa_cons (pV 0) (pa_cons (pe_glob (v := .ref _) rfl T.x_NoPower.gC rfl) pa_nil))) pa_nil))))))
      (pss_cons (ps_set (i := 1) sc__law_z_kinds.nd rfl (by first | exact .inl rfl | exact .inr rfl) (pe_op oAdd (pV 1) (pe_lst (pa_cons (pe_callB (cIs (K := K)) (by rfl) T.b_isinstance (by decide +kernel) (pa_cons (pV 0) (pa_cons (pe_glob (v := .ref _) rfl T.x_NoNumber.gC rfl) pa_nil))) (pa_cons (pe_callB (cIs (K := K)) (by rfl) T.b_isinstance (by decide +kernel) (pa_cons (pV 0) (pa_cons (pe_glob (v := .ref _) rfl T.x_NoMakers.gC rfl) pa_nil))) (pa_cons (pe_callB (cIs (K := K)) (by rfl) T.b_isinstance (by decide +kernel) (pa_cons (pV 0) (pa_cons (pe_glob (v := .ref _) rfl T.x_NoWalk.gC rfl) pa_nil))) pa_nil))))))
      (pss_cons (ps_set (i := 1) sc__law_z_kinds.nd rfl (by first | exact .inl rfl | exact .inr rfl) (pe_op oAdd (pV 1) (pe_lst (pa_cons (pe_callB (cIs (K := K)) (by rfl) T.b_isinstance (by decide +kernel) (pa_cons (pV 0) (pa_cons (pe_glob (v := .ref _) rfl T.x_NoAnswers.gC rfl) pa_nil))) (pa_cons (pe_callB (cIs (K := K)) (by rfl) T.b_isinstance (by decide +kernel) (pa_cons (pV 0) (pa_cons (pe_glob (v := .ref _) rfl T.x_NoWishes.gC rfl) pa_nil))) (pa_cons (pe_callB (cIs (K := K)) (by rfl) T.b_isinstance (by decide +kernel) (pa_cons (pV 0) (pa_cons (pe_glob (v := .ref _) rfl T.x_NoUndo.gC rfl) pa_nil))) pa_nil))))))
      (pss_one (ps_ret (pe_op oAdd (pV 1) (pe_lst (pa_cons (pe_callB (cIs (K := K)) (by rfl) T.b_isinstance (by decide +kernel) (pa_cons (pV 0) (pa_cons (pe_glob (v := .ref _) rfl T.x_NoThings.gC rfl) pa_nil))) (pa_cons (pe_callB (cIs (K := K)) (by rfl) T.b_isinstance (by decide +kernel) (pa_cons (pV 0) (pa_cons (pe_glob (v := .ref _) rfl T.x_NoMatch.gC rfl) pa_nil))) (pa_cons (pe_callB (cIs (K := K)) (by rfl) T.b_isinstance (by decide +kernel) (pa_cons (pV 0) (pa_cons (pe_glob (v := .ref _) rfl T.x_TooGreat.gC rfl) pa_nil))) pa_nil)))))))))), ?_⟩
  refine .inr ⟨a, D, _, _, _, rfl, .own _, hx, hC, k0, .inr ⟨a, D, _, _, _, rfl, .own _, hx, hC, k1, .inr ⟨a, D, _, _, _, rfl, .own _, hx, hC, k2, .inr ⟨a, D, _, _, _, rfl, .own _, hx, hC, k3, (by show 4 ≤ sizeLine; decide), fun p1 n1 => ?_⟩⟩⟩⟩
  have s1 : Same H (upd H p1 (.lst [.bl b0, .bl b1, .bl b2, .bl b3])) := same_upd n1
  generalize hH1 : upd H p1 (.lst [.bl b0, .bl b1, .bl b2, .bl b3]) = H1 at s1
  have g1 : H1 p1 = some (.lst [.bl b0, .bl b1, .bl b2, .bl b3]) := by rw [← hH1]; exact upd_same
  have x1 := hx.same s1
  refine .inr ⟨a, D, _, _, _, rfl, .own _, x1, hC, k4, .inr ⟨a, D, _, _, _, rfl, .own _, x1, hC, k5, .inr ⟨a, D, _, _, _, rfl, .own _, x1, hC, k6, (by show 3 ≤ sizeLine; decide), fun p2 n2 => ?_⟩⟩⟩
  refine ⟨_, _, same_upd n2 _ _ g1, upd_same, (by show 7 ≤ sizeLine; decide), fun p3 n3 => ?_⟩
  generalize hH3 : upd (upd H1 p2 _) p3 _ = H3
  have s3 : Same H H3 := by rw [← hH3]; exact (s1.trans (same_upd n2)).trans (same_upd n3)
  have g3 : H3 p3 = some (.lst [.bl b0, .bl b1, .bl b2, .bl b3, .bl b4, .bl b5, .bl b6]) := by rw [← hH3]; exact upd_same
  have x3 := hx.same s3
  refine .inr ⟨a, D, _, _, _, rfl, .own _, x3, hC, k7, .inr ⟨a, D, _, _, _, rfl, .own _, x3, hC, k8, .inr ⟨a, D, _, _, _, rfl, .own _, x3, hC, k9, (by show 3 ≤ sizeLine; decide), fun p4 n4 => ?_⟩⟩⟩
  refine ⟨_, _, same_upd n4 _ _ g3, upd_same, (by show 10 ≤ sizeLine; decide), fun p5 n5 => ?_⟩
  generalize hH5 : upd (upd H3 p4 _) p5 _ = H5
  have s5 : Same H H5 := by rw [← hH5]; exact (s3.trans (same_upd n4)).trans (same_upd n5)
  have g5 : H5 p5 = some (.lst [.bl b0, .bl b1, .bl b2, .bl b3, .bl b4, .bl b5, .bl b6, .bl b7, .bl b8, .bl b9]) := by rw [← hH5]; exact upd_same
  have x5 := hx.same s5
  refine .inr ⟨a, D, _, _, _, rfl, .own _, x5, hC, k10, .inr ⟨a, D, _, _, _, rfl, .own _, x5, hC, k11, .inr ⟨a, D, _, _, _, rfl, .own _, x5, hC, k12, (by show 3 ≤ sizeLine; decide), fun p6 n6 => ?_⟩⟩⟩
  refine ⟨_, _, same_upd n6 _ _ g5, upd_same, (by show 13 ≤ sizeLine; decide), fun p7 n7 => ?_⟩
  have s7 := s5.trans (same_upd n6 (o := .lst [.bl b10, .bl b11, .bl b12]))
  exact q _ _ (s7.trans (same_upd n7)) (s7.free n7) upd_same

theorem ok_law {f : Addr} {fd : FuncData} (T : Txt K mg C_TreadError C_NoWord C_NoPlace C_NoTread C_NoPower C_NoNumber C_NoMakers C_NoWalk C_NoAnswers C_NoWishes C_NoUndo C_NoThings C_NoMatch C_TooGreat) (D__law_z_kinds : Dfn P w K mg base CX0 1 "_law_z_kinds" ["one"] (spKinds K [C_NoWord, C_NoPlace, C_NoTread, C_NoPower, C_NoNumber, C_NoMakers, C_NoWalk, C_NoAnswers, C_NoWishes, C_NoUndo, C_NoThings, C_NoMatch, C_TooGreat])) (D_tread_of : Dfn P w K mg base (L2.CX P w) 3 "tread_of" ["word"] (spTreadBad K C_NoWord)) (D__law_z_pick : Dfn P w K mg base CX0 3 "_law_z_pick" ["pen", "some"] (spPick K)) (D__law_take : Dfn P w K mg base CX0 2 "_law_take" ["pen", "many"] (spTake)) (D__law_open : Dfn P w K mg base CX0 1 "_law_open" ["script"] (spOpen K)) (F : Fun K "law" "law" s_law f fd) (hm : mg "law" = some (.ref f)) (hb : Binds K fd ["script"] []) (hkit : kitTab K [.ref C_NoWord, .ref C_NoPlace, .ref C_NoTread, .ref C_NoPower, .ref C_NoNumber, .ref C_NoMakers, .ref C_NoWalk, .ref C_NoAnswers, .ref C_NoWishes, .ref C_NoUndo, .ref C_NoThings, .ref C_NoMatch, .ref C_TooGreat, .ref C_TreadError] [.ref C_NoWord, .ref C_NoPlace, .ref C_NoTread, .ref C_NoPower, .ref C_NoNumber, .ref C_NoMakers, .ref C_NoWalk, .ref C_NoAnswers, .ref C_NoWishes, .ref C_NoUndo, .ref C_NoThings, .ref C_NoMatch, .ref C_TooGreat, .ref C_TreadError, .type "ValueError", .type "LookupError", .type "ArithmeticError", .type "TypeError"] [[true, false, false, false, false, false, false, false, false, false, false, false, false, true, true, false, false, false], [false, true, false, false, false, false, false, false, false, false, false, false, false, true, true, false, false, false], [false, false, true, false, false, false, false, false, false, false, false, false, false, true, true, false, false, false], [false, false, false, true, false, false, false, false, false, false, false, false, false, true, true, false, false, false], [false, false, false, false, true, false, false, false, false, false, false, false, false, true, true, false, false, false], [false, false, false, false, false, true, false, false, false, false, false, false, false, true, true, false, false, false], [false, false, false, false, false, false, true, false, false, false, false, false, false, true, true, false, false, false], [false, false, false, false, false, false, false, true, false, false, false, false, false, true, true, false, false, false], [false, false, false, false, false, false, false, false, true, false, false, false, false, true, true, false, false, false], [false, false, false, false, false, false, false, false, false, true, false, false, false, true, true, false, false, false], [false, false, false, false, false, false, false, false, false, false, true, false, false, true, true, false, false, false], [false, false, false, false, false, false, false, false, false, false, false, true, false, true, true, false, false, false], [false, false, false, false, false, false, false, false, false, false, false, false, true, true, true, false, false, false], [false, false, false, false, false, false, false, false, false, false, false, false, false, true, true, false, false, false]] = true) (hsub : PySem.W.subIn K (.ref C_NoWord) (.ref C_TreadError) = some true) : FnOk P w K mg base CX0 5 f fd ["script"] (spLaw K) := by
  refine F.ok sc_law (fun vs H Q E h => Sp1.len h) (fun cdv A outer s H vs Q E hr hsp => ?_)
  obtain ⟨a0, rfl, h⟩ := Sp1.of hsp
  clear hsp
  have hu := hr.units
  obtain ⟨a, ns, rfl, hS, hlen, q⟩ := h
  have hz := sizeLine_eq
  refine ⟨_, (pss_cons (ps_set (i := 1) sc_law.nd rfl (by first | exact .inl rfl | exact .inr rfl) (pC D__law_open (hr.mono (by decide)) pass0 (pa_cons (pV 0) pa_nil)))
      (pss_cons (ps_for PassesOwn.never rfl (pi_range1 (by rfl) T.b_range (pa_cons pe_int pa_nil)) (pg_name (i := 2) sc_law.nd rfl (by first | exact .inl rfl | exact .inr rfl)) (pss_cons (ps_set (i := 3) sc_law.nd rfl (by first | exact .inl rfl | exact .inr rfl) (pC D__law_z_pick (hr.mono (by decide)) pass0 (pa_cons (pV 1) (pa_cons (pe_lst (pa_cons pe_str (pa_cons pe_str (pa_cons pe_str (pa_cons (pe_op oMul pe_str (pC D__law_take (hr.mono (by decide)) pass0 (pa_cons (pV 1) (pa_cons pe_int pa_nil)))) pa_nil))))) pa_nil))))
      (pss_cons (ps_set (i := 4) sc_law.nd rfl (by first | exact .inl rfl | exact .inr rfl) (pe_lst (pa_cons (pe_exc1 PySem.F.excBase_ValueError T.x_NoWord.ex T.x_NoWord.gC T.x_NoWord.kp rfl (pV 3)) (pa_cons (pe_exc1 PySem.F.excBase_ValueError T.x_NoPlace.ex T.x_NoPlace.gC T.x_NoPlace.kp rfl (pV 3)) (pa_cons (pe_exc1 PySem.F.excBase_ValueError T.x_NoTread.ex T.x_NoTread.gC T.x_NoTread.kp rfl (pV 3)) (pa_cons (pe_exc1 PySem.F.excBase_ValueError T.x_NoPower.ex T.x_NoPower.gC T.x_NoPower.kp rfl (pV 3)) (pa_cons (pe_exc1 PySem.F.excBase_ValueError T.x_NoNumber.ex T.x_NoNumber.gC T.x_NoNumber.kp rfl (pV 3)) (pa_cons (pe_exc1 PySem.F.excBase_ValueError T.x_NoMakers.ex T.x_NoMakers.gC T.x_NoMakers.kp rfl (pV 3)) pa_nil))))))))
      (pss_cons (ps_set (i := 4) sc_law.nd rfl (by first | exact .inl rfl | exact .inr rfl) (pe_op oAdd (pV 4) (pe_lst (pa_cons (pe_exc1 PySem.F.excBase_ValueError T.x_NoWalk.ex T.x_NoWalk.gC T.x_NoWalk.kp rfl (pV 3)) (pa_cons (pe_exc1 PySem.F.excBase_ValueError T.x_NoAnswers.ex T.x_NoAnswers.gC T.x_NoAnswers.kp rfl (pV 3)) (pa_cons (pe_exc1 PySem.F.excBase_ValueError T.x_NoWishes.ex T.x_NoWishes.gC T.x_NoWishes.kp rfl (pV 3)) (pa_cons (pe_exc1 PySem.F.excBase_ValueError T.x_NoUndo.ex T.x_NoUndo.gC T.x_NoUndo.kp rfl (pV 3)) (pa_cons (pe_exc1 PySem.F.excBase_ValueError T.x_NoThings.ex T.x_NoThings.gC T.x_NoThings.kp rfl (pV 3)) pa_nil))))))))
      (pss_cons (ps_set (i := 4) sc_law.nd rfl (by first | exact .inl rfl | exact .inr rfl) (pe_op oAdd (pV 4) (pe_lst (pa_cons (pe_exc1 PySem.F.excBase_ValueError T.x_NoMatch.ex T.x_NoMatch.gC T.x_NoMatch.kp rfl (pV 3)) (pa_cons (pe_exc1 PySem.F.excBase_ValueError T.x_TooGreat.ex T.x_TooGreat.gC T.x_TooGreat.kp rfl (pV 3)) pa_nil)))))
      (pss_cons (ps_set (i := 5) sc_law.nd rfl (by first | exact .inl rfl | exact .inr rfl) pe_non)
      (pss_cons (sCatch (i := 6) (Wout := fun _ _ _ _ => False) rfl rfl rfl sc_law.nd rfl rfl T.x_TreadError.names takes0 (fun W pn xe tk _ => (pss_one (ps_expr (pCS D_tread_of (hr.mono (by decide)) (fun σ => passAt tk σ) (pa_cons (pC D__law_z_pick (hr.mono (by decide)) pass0 (pa_cons (pV 1) (pa_cons (pe_lst (pa_cons pe_str (pa_cons pe_non (pa_cons (pe_op oMul pe_str pe_int) (pa_cons pe_str (pa_cons pe_int pa_nil)))))) pa_nil))) pa_nil))))) (fun _ _ => (pss_one (ps_set (i := 5) sc_law.nd rfl (by first | exact .inl rfl | exact .inr rfl) (pV 6)))))
      (pss_cons (ps_if (PW.pt (pw_or (tCm oIs (pV 5) pe_non (nomark _)) (pw_or1 (tCm (oNe (K := K) hu) (pC D__law_z_kinds (hr.mono (by decide)) pass0 (pa_cons (pV 5) pa_nil)) (pe_lc (own := [("j", 7)]) (by rfl) sc_law.nd (pi_range1 (by rfl) T.b_range (pa_cons pe_int pa_nil)) (blkOk_by (N := N_law) (sc := defScope s_law) (by decide +kernel)) (fun _ _ _ _ _ => pg_name (i := 7) sc_law.nd rfl (Or.inl rfl)) (fun _ _ _ _ _ => pts_nil) (fun _ _ _ _ _ => (pe_cmpR (oEq (K := K) hu) (pV 7) pe_int (nomark _)))) (nomark _))))) (pss_one (ps_ret pe_bl)) pss_nil)
      (pss_cons (ps_set (i := 8) sc_law.nd rfl (by first | exact .inl rfl | exact .inr rfl) (pe_exc1 PySem.F.excBase_ValueError T.x_TreadError.ex T.x_TreadError.gC T.x_TreadError.kp rfl (pV 3)))
      (pss_cons (ps_if (PW.pt (pw_or (tCm (oNe (K := K) hu) (pC D__law_z_kinds (hr.mono (by decide)) pass0 (pa_cons (pV 8) pa_nil)) (pe_op oMul (pe_lst (pa_cons pe_bl pa_nil)) pe_int) (nomark _)) (pw_or1 (pt_not (tVal (pe_callB (cIs (K := K)) (by rfl) T.b_isinstance (by decide +kernel) (pa_cons (pV 8) (pa_cons (pe_bltn (v := .ty "ValueError") rfl T.b_ValueError (by decide +kernel) rfl) pa_nil)))))))) (pss_one (ps_ret pe_bl)) pss_nil)
      (pss_one (ps_for PassesOwn.never rfl (pi_enum (by rfl) T.b_enumerate (pa_cons (pV 4) pa_nil)) (pg_tup rfl (pgs_cons (pg_name (i := 9) sc_law.nd rfl (by first | exact .inl rfl | exact .inr rfl)) (pgs_cons (pg_name (i := 10) sc_law.nd rfl (by first | exact .inl rfl | exact .inr rfl)) pgs_nil))) (pss_cons (ps_if (tCm (oNe (K := K) hu) (pC D__law_z_kinds (hr.mono (by decide)) pass0 (pa_cons (pV 10) pa_nil)) (pe_lc (own := [("j", 7)]) (by rfl) sc_law.nd (pi_range1 (by rfl) T.b_range (pa_cons pe_int pa_nil)) (blkOk_by (N := N_law) (sc := defScope s_law) (by decide +kernel)) (fun _ _ _ _ _ => pg_name (i := 7) sc_law.nd rfl (Or.inl rfl)) (fun _ _ _ _ _ => pts_nil) (fun _ _ _ _ _ => (pe_cmpR (oEq (K := K) hu) (pV 7) (pV 9) (nomark _)))) (nomark _)) (pss_one (ps_ret pe_bl)) pss_nil)
      (pss_cons (ps_if (PW.pt (pw_or (pt_not (tVal (pe_callB (cIs (K := K)) (by rfl) T.b_isinstance (by decide +kernel) (pa_cons (pV 10) (pa_cons (pe_glob (v := .ref _) rfl T.x_TreadError.gC rfl) pa_nil))))) (pw_or1 (pt_not (tVal (pe_callB (cIs (K := K)) (by rfl) T.b_isinstance (by decide +kernel) (pa_cons (pV 10) (pa_cons (pe_bltn (v := .ty "ValueError") rfl T.b_ValueError (by decide +kernel) rfl) pa_nil)))))))) (pss_one (ps_ret pe_bl)) pss_nil)
      (pss_one (ps_if (PW.pt (pw_or (tVal (pe_callB (cIs (K := K)) (by rfl) T.b_isinstance (by decide +kernel) (pa_cons (pV 10) (pa_cons (pe_bltn (v := .ty "LookupError") rfl T.b_LookupError (by decide +kernel) rfl) pa_nil)))) (pw_or (tVal (pe_callB (cIs (K := K)) (by rfl) T.b_isinstance (by decide +kernel) (pa_cons (pV 10) (pa_cons (pe_bltn (v := .ty "ArithmeticError") rfl T.b_ArithmeticError (by decide +kernel) rfl) pa_nil)))) (pw_or1 (tVal (pe_callB (cIs (K := K)) (by rfl) T.b_isinstance (by decide +kernel) (pa_cons (pV 10) (pa_cons (pe_bltn (v := .ty "TypeError") rfl T.b_TypeError (by decide +kernel) rfl) pa_nil)))))))) (pss_one (ps_ret pe_bl)) pss_nil))))))))))))))))
      (pss_one (ps_ret pe_bl)))), ?_⟩
  refine ⟨a, ns, rfl, hS, hlen, fun p H1 s1 np hp1 => ?_⟩
  refine ⟨2, rfl, by decide, by decide, for_range (lo := 0) (n := 2) (fun i σ' H2 => ∃ x2 x3 x4 x5 x6 x7 x8 x9 x10, σ' = [some (.ref a), some (.ref p), x2, x3, x4, x5, x6, x7, x8, x9, x10] ∧ PenAt (3 * i) H2 p) ⟨_, _, _, _, _, _, _, _, _, rfl, hp1⟩ ?_ ?_⟩
  · rintro i σ' H2 hi ⟨x2, x3, x4, x5, x6, x7, x8, x9, x10, rfl, hp2⟩
    -- text
    refine ⟨p, 3 * i, 99, rfl, rfl, hp2, by omega, by decide, by decide, fun r H3 r0 r1 s3 hp3 => ?_⟩
    refine ⟨mulOk r0 (by omega) ?_ (by decide), (by show 4 ≤ sizeLine; decide), fun l1 nl1 => ?_⟩
    · have e : (("x" : Str)).length = 1 := rfl
      rw [e]
      omega
    have nlp : l1 ≠ p := by
      obtain ⟨c, cells, at_, rest, hP, _⟩ := hp3.ex
      exact fun z => ne_of_none hP nl1 z.symm
    refine ⟨p, 3 * i + 1, rfl, (same_upd nl1).pen hp3, by omega, _, .inl (.inl (.inl upd_same)), nlp, (by intro z; cases z), (by show 4 ≤ sizeLine; decide), fun text _ H4 s4 hp4 => ?_⟩
    -- the errors
    intro ea0 na0
    generalize hg : upd H4 ea0 (ExO (.ref C_NoWord) ea0) = Xa0
    have sa0 : Same H4 Xa0 := by rw [← hg]; exact same_upd na0
    have xa0 : ExAt Xa0 ea0 C_NoWord := by rw [← hg]; exact .inl upd_same
    clear hg
    intro ea1 na1
    generalize hg : upd Xa0 ea1 (ExO (.ref C_NoPlace) ea1) = Xa1
    have sa1 : Same Xa0 Xa1 := by rw [← hg]; exact same_upd na1
    have xa1 : ExAt Xa1 ea1 C_NoPlace := by rw [← hg]; exact .inl upd_same
    clear hg
    intro ea2 na2
    generalize hg : upd Xa1 ea2 (ExO (.ref C_NoTread) ea2) = Xa2
    have sa2 : Same Xa1 Xa2 := by rw [← hg]; exact same_upd na2
    have xa2 : ExAt Xa2 ea2 C_NoTread := by rw [← hg]; exact .inl upd_same
    clear hg
    intro ea3 na3
    generalize hg : upd Xa2 ea3 (ExO (.ref C_NoPower) ea3) = Xa3
    have sa3 : Same Xa2 Xa3 := by rw [← hg]; exact same_upd na3
    have xa3 : ExAt Xa3 ea3 C_NoPower := by rw [← hg]; exact .inl upd_same
    clear hg
    intro ea4 na4
    generalize hg : upd Xa3 ea4 (ExO (.ref C_NoNumber) ea4) = Xa4
    have sa4 : Same Xa3 Xa4 := by rw [← hg]; exact same_upd na4
    have xa4 : ExAt Xa4 ea4 C_NoNumber := by rw [← hg]; exact .inl upd_same
    clear hg
    intro ea5 na5
    generalize hg : upd Xa4 ea5 (ExO (.ref C_NoMakers) ea5) = Xa5
    have sa5 : Same Xa4 Xa5 := by rw [← hg]; exact same_upd na5
    have xa5 : ExAt Xa5 ea5 C_NoMakers := by rw [← hg]; exact .inl upd_same
    clear hg
    refine ⟨(by show 6 ≤ sizeLine; decide), ?_⟩
    intro l2 nl2
    generalize hg : upd Xa5 l2 _ = L1
    have t1 : Same Xa5 L1 := by rw [← hg]; exact same_upd nl2
    have g1 : L1 l2 = some (.lst [.ref ea0, .ref ea1, .ref ea2, .ref ea3, .ref ea4, .ref ea5]) := by rw [← hg]; exact upd_same
    clear hg
    intro eb0 nb0
    generalize hg : upd L1 eb0 (ExO (.ref C_NoWalk) eb0) = Xb0
    have sb0 : Same L1 Xb0 := by rw [← hg]; exact same_upd nb0
    have xb0 : ExAt Xb0 eb0 C_NoWalk := by rw [← hg]; exact .inl upd_same
    clear hg
    intro eb1 nb1
    generalize hg : upd Xb0 eb1 (ExO (.ref C_NoAnswers) eb1) = Xb1
    have sb1 : Same Xb0 Xb1 := by rw [← hg]; exact same_upd nb1
    have xb1 : ExAt Xb1 eb1 C_NoAnswers := by rw [← hg]; exact .inl upd_same
    clear hg
    intro eb2 nb2
    generalize hg : upd Xb1 eb2 (ExO (.ref C_NoWishes) eb2) = Xb2
    have sb2 : Same Xb1 Xb2 := by rw [← hg]; exact same_upd nb2
    have xb2 : ExAt Xb2 eb2 C_NoWishes := by rw [← hg]; exact .inl upd_same
    clear hg
    intro eb3 nb3
    generalize hg : upd Xb2 eb3 (ExO (.ref C_NoUndo) eb3) = Xb3
    have sb3 : Same Xb2 Xb3 := by rw [← hg]; exact same_upd nb3
    have xb3 : ExAt Xb3 eb3 C_NoUndo := by rw [← hg]; exact .inl upd_same
    clear hg
    intro eb4 nb4
    generalize hg : upd Xb3 eb4 (ExO (.ref C_NoThings) eb4) = Xb4
    have sb4 : Same Xb3 Xb4 := by rw [← hg]; exact same_upd nb4
    have xb4 : ExAt Xb4 eb4 C_NoThings := by rw [← hg]; exact .inl upd_same
    clear hg
    refine ⟨(by show 5 ≤ sizeLine; decide), ?_⟩
    intro l3 nl3
    refine ⟨_, _, (same_upd nl3) _ _ ((((((sb0).trans sb1).trans sb2).trans sb3).trans sb4) _ _ g1), upd_same, (by show 11 ≤ sizeLine; decide), ?_⟩
    intro l4 nl4
    generalize hg : upd (upd Xb4 l3 _) l4 _ = L3
    have t3 : Same Xb4 L3 := by rw [← hg]; exact (same_upd nl3).trans (same_upd nl4)
    have g3 : L3 l4 = some (.lst [.ref ea0, .ref ea1, .ref ea2, .ref ea3, .ref ea4, .ref ea5, .ref eb0, .ref eb1, .ref eb2, .ref eb3, .ref eb4]) := by rw [← hg]; exact upd_same
    clear hg
    intro ec0 nc0
    generalize hg : upd L3 ec0 (ExO (.ref C_NoMatch) ec0) = Xc0
    have sc0 : Same L3 Xc0 := by rw [← hg]; exact same_upd nc0
    have xc0 : ExAt Xc0 ec0 C_NoMatch := by rw [← hg]; exact .inl upd_same
    clear hg
    intro ec1 nc1
    generalize hg : upd Xc0 ec1 (ExO (.ref C_TooGreat) ec1) = Xc1
    have sc1 : Same Xc0 Xc1 := by rw [← hg]; exact same_upd nc1
    have xc1 : ExAt Xc1 ec1 C_TooGreat := by rw [← hg]; exact .inl upd_same
    clear hg
    refine ⟨(by show 2 ≤ sizeLine; decide), ?_⟩
    intro l5 nl5
    refine ⟨_, _, (same_upd nl5) _ _ ((sc0.trans sc1) _ _ g3), upd_same, (by show 13 ≤ sizeLine; decide), ?_⟩
    intro l6 nl6
    generalize hg : upd (upd Xc1 l5 _) l6 _ = H5
    have t5 : Same Xc1 H5 := by rw [← hg]; exact (same_upd nl5).trans (same_upd nl6)
    have g5 : H5 l6 = some (.lst (([ea0, ea1, ea2, ea3, ea4, ea5, eb0, eb1, eb2, eb3, eb4, ec0, ec1] : List Addr).map V.ref)) := by rw [← hg]; exact upd_same
    clear hg
    have n6p : l6 ≠ p := fun z => by
      obtain ⟨c, cells, at_, rest, hP, _⟩ := hp4.ex
      have := (none_of_upd nl6).1
      rw [z] at this
      have q2 := (((((((sa0.trans sa1).trans sa2).trans sa3).trans sa4).trans sa5).trans t1).trans ((((((sb0.trans sb1).trans sb2).trans sb3).trans sb4).trans t3).trans (sc0.trans sc1))) _ _ hP
      rw [this] at q2; cases q2
    have sA5 : Same L3 H5 := (sc0.trans sc1).trans t5
    have sB5 : Same L1 H5 := ((((((sb0).trans sb1).trans sb2).trans sb3).trans sb4).trans t3).trans sA5
    have sC5 : Same H4 H5 := (((((((sa0).trans sa1).trans sa2).trans sa3).trans sa4).trans sa5).trans t1).trans sB5
    have hp5 : PenAt (3 * i + 2) H5 p := sC5.pen hp4
    have fc1 : Same Xc1 H5 := t5
    have fc0 : Same Xc0 H5 := sc1.trans fc1
    have fb4 : Same Xb4 H5 := t3.trans sA5
    have fb3 : Same Xb3 H5 := sb4.trans fb4
    have fb2 : Same Xb2 H5 := sb3.trans fb3
    have fb1 : Same Xb1 H5 := sb2.trans fb2
    have fb0 : Same Xb0 H5 := sb1.trans fb1
    have fa5 : Same Xa5 H5 := t1.trans sB5
    have fa4 : Same Xa4 H5 := sa5.trans fa5
    have fa3 : Same Xa3 H5 := sa4.trans fa4
    have fa2 : Same Xa2 H5 := sa3.trans fa3
    have fa1 : Same Xa1 H5 := sa2.trans fa2
    have fa0 : Same Xa0 H5 := sa1.trans fa1
    have hE5 : ∀ (j : Nat) (e D : Addr), ([ea0, ea1, ea2, ea3, ea4, ea5, eb0, eb1, eb2, eb3, eb4, ec0, ec1] : List Addr)[j]? = some e → ([C_NoWord, C_NoPlace, C_NoTread, C_NoPower, C_NoNumber, C_NoMakers, C_NoWalk, C_NoAnswers, C_NoWishes, C_NoUndo, C_NoThings, C_NoMatch, C_TooGreat] : List Addr)[j]? = some D → ExAt H5 e D := by
      intro j e D h1 h2
      match j, h1, h2 with
      | 0, h1, h2 => cases h1; cases h2; exact xa0.same fa0
      | 1, h1, h2 => cases h1; cases h2; exact xa1.same fa1
      | 2, h1, h2 => cases h1; cases h2; exact xa2.same fa2
      | 3, h1, h2 => cases h1; cases h2; exact xa3.same fa3
      | 4, h1, h2 => cases h1; cases h2; exact xa4.same fa4
      | 5, h1, h2 => cases h1; cases h2; exact xa5.same fa5
      | 6, h1, h2 => cases h1; cases h2; exact xb0.same fb0
      | 7, h1, h2 => cases h1; cases h2; exact xb1.same fb1
      | 8, h1, h2 => cases h1; cases h2; exact xb2.same fb2
      | 9, h1, h2 => cases h1; cases h2; exact xb3.same fb3
      | 10, h1, h2 => cases h1; cases h2; exact xb4.same fb4
      | 11, h1, h2 => cases h1; cases h2; exact xc0.same fc0
      | 12, h1, h2 => cases h1; cases h2; exact xc1.same fc1
      | _ + 13, h1, _ => cases h1
    -- caught
    refine ⟨mulOk (by decide) (by decide) (by decide) (by decide), (by show 5 ≤ sizeLine; decide), fun l7 nl7 => ?_⟩
    have n7p : l7 ≠ p := by
      obtain ⟨c, cells, at_, rest, hP, _⟩ := hp5.ex
      exact fun z => ne_of_none hP nl7 z.symm
    refine ⟨p, 3 * i + 2, rfl, (same_upd nl7).pen hp5, by omega, _, .inl (.inl (.inl upd_same)), n7p, (by intro z; cases z), (by show 5 ≤ sizeLine; decide), fun v hv H6 s6 hp6 => ?_⟩
    refine ⟨?_, true, PySem.W.exm_ref T.x_TreadError.sub T.x_TreadError.cls.hd T.x_TreadError.ty hsub, fun _ => ⟨C_NoWord, rfl, rfl, fun e6 n6 => ?_⟩, fun z => by cases z⟩
    · simp only [List.mem_cons, List.not_mem_nil, or_false] at hv
      rcases hv with rfl | rfl | rfl | rfl | rfl
      · exact .inl ⟨_, rfl, by decide, by decide +kernel⟩
      · exact .inr ⟨_, .base .non, kit_ty (by decide +kernel)⟩
      · exact .inl ⟨_, rfl, by decide +kernel, by decide +kernel⟩
      · exact .inl ⟨_, rfl, by decide, by decide +kernel⟩
      · exact .inr ⟨_, .base (.int 0), kit_ty (by decide +kernel)⟩
    generalize hg : upd H6 e6 (ExK C_NoWord e6) = H7
    have s7 : Same H6 H7 := by rw [← hg]; exact same_upd n6
    have x7 : ExAt H7 e6 C_NoWord := by rw [← hg]; exact .inr upd_same
    clear hg
    have hp7 : PenAt (3 * i + 3) H7 p := s7.pen hp6
    have sp7 : SameP p H5 H7 := ((SameP.of (same_upd nl7)).trans s6).trans (SameP.of s7)
    refine ⟨e6, C_NoWord, [true, false, false, false, false, false, false, false, false, false, false, false, false], rfl, x7, T.x_NoWord.cls, ?_, fun p8 H8 s8 n8 g8 => ?_⟩
    · exact KitRow.mk (by intro z; cases z) rfl fun j c b h1 h2 => kitTab_at hkit (i := 0) (j := j) rfl rfl (row_c (x := []) h1) (row_b h2)
    refine ⟨13, rfl, by decide, by decide, fun D nD => lc_it walk_range (fun j H' => H' = upd H8 D (.lst (((List.range j).map fun t => decide ((0 : Int) + (t : Nat) = 0)).map V.bl))) rfl (fun _ _ _ _ => trivial) ?_ ?_⟩
    · rintro j x H' H'' hj rfl ⟨rfl, rfl⟩
      refine ⟨rfl, ?_⟩
      refine ⟨_, upd_same, ?_, ?_⟩
      · rw [List.length_map, List.length_map, List.length_range]
        have : j < 13 := hj
        omega
      · show upd (upd H8 D _) D _ = upd H8 D _
        rw [upd_upd, List.range_succ, List.map_append, List.map_append]
        rfl
    intro H9 hH9
    have s9 : Same H8 H9 := by rw [hH9]; exact same_upd nD
    have g9 : H9 D = some (.lst (((List.range 13).map fun t => decide ((0 : Int) + (t : Nat) = 0)).map V.bl)) := by rw [hH9]; exact upd_same
    refine ⟨true, eqb_bls (.inl (.inl (s9 _ _ g8))) (.inl (.inl g9)) (by decide), ?_⟩
    clear hH9
    refine ite2 (fun e => by cases e) (fun _ => ?_)
    -- base
    intro b8 nb8
    generalize hg : upd H9 b8 (ExO (.ref C_TreadError) b8) = H10
    have s10 : Same H9 H10 := by rw [← hg]; exact same_upd nb8
    have x10' : ExAt H10 b8 C_TreadError := by rw [← hg]; exact .inl upd_same
    clear hg
    refine ⟨b8, C_TreadError, [false, false, false, false, false, false, false, false, false, false, false, false, false], rfl, x10', T.x_TreadError.cls, ?_, fun p11 H11 s11 n11 g11 => ?_⟩
    · exact KitRow.mk (by intro z; cases z) rfl fun j c b h1 h2 => kitTab_at hkit (i := 13) (j := j) rfl rfl (row_c (x := []) h1) (row_b h2)
    refine ⟨(by show 1 ≤ sizeLine; decide), fun l12 n12 => ?_⟩
    refine ⟨_, upd_same, by decide, by decide, (by show 1 * 13 ≤ sizeLine; decide), fun l13 n13 => ?_⟩
    generalize hg : upd (upd H11 l12 _) l13 _ = H12
    have s12 : Same H11 H12 := by rw [← hg]; exact (same_upd n12).trans (same_upd n13)
    have g12 : H12 l13 = some (.lst (([false, false, false, false, false, false, false, false, false, false, false, false, false] : List Bool).map V.bl)) := by rw [← hg]; exact upd_same
    clear hg
    refine ⟨true, eqb_bls (.inl (.inl (s12 _ _ g11))) (.inl (.inl g12)) rfl, ?_⟩
    refine ite2 (fun e => by cases e) (fun _ => ?_)
    refine .inr ⟨b8, C_TreadError, _, _, true, rfl, .ty _, x10'.same (s11.trans s12), T.x_TreadError.cls, kitTab_at hkit (i := 13) (j := 14) rfl rfl rfl rfl, ?_⟩
    refine ite2 (fun e => by cases e) (fun _ => ?_)
    have sAll : Same H7 H12 := (((s8.trans s9).trans s10).trans s11).trans s12
    have hp12 : PenAt (3 * i + 3) H12 p := sAll.pen hp7
    have sE : Same H5 H12 ∨ True := .inr trivial
    have gl6 : H12 l6 = some (.lst (([ea0, ea1, ea2, ea3, ea4, ea5, eb0, eb1, eb2, eb3, eb4, ec0, ec1] : List Addr).map V.ref)) := sAll _ _ (sp7 _ _ n6p g5)
    have hE12 : ∀ (j : Nat) (e D : Addr), ([ea0, ea1, ea2, ea3, ea4, ea5, eb0, eb1, eb2, eb3, eb4, ec0, ec1] : List Addr)[j]? = some e → ([C_NoWord, C_NoPlace, C_NoTread, C_NoPower, C_NoNumber, C_NoMakers, C_NoWalk, C_NoAnswers, C_NoWishes, C_NoUndo, C_NoThings, C_NoMatch, C_TooGreat] : List Addr)[j]? = some D → ExAt H12 e D := fun j e D h1 h2 => by
      have z := hE5 j e D h1 h2
      refine (z.sameP sp7 ?_).same sAll
      obtain ⟨c, cells, at_, rest, hP, _⟩ := hp5.ex
      rcases z with z | z
      · exact ne_of z hP (by intro z; cases z)
      · exact ne_of z hP (by intro z; cases z)
    generalize hes : ([ea0, ea1, ea2, ea3, ea4, ea5, eb0, eb1, eb2, eb3, eb4, ec0, ec1] : List Addr) = es at gl6 hE12
    have les : es.length = 13 := by rw [← hes]; rfl
    clear hes hE5 g5
    -- the errors, one by one
    refine ⟨l6, _, rfl, .inl (.inl gl6), for_it walk_enum (fun j σ' H' => ∃ y2 y3 y5 y6 y7 y8 y9 y10, σ' = [some (.ref a), some (.ref p), y2, y3, some (.ref l6), y5, y6, y7, y8, y9, y10] ∧ Same H12 H') ⟨_, _, _, _, _, _, _, _, rfl, Same.refl _⟩ (fun j σ' H' _ ⟨_, _, _, _, _, _, _, _, _, s⟩ => .inl (.inl (s _ _ gl6))) ?_ ?_⟩
    · rintro j v σ' H13 H14 hj ⟨y2, y3, y5, y6, y7, y8, y9, y10, rfl, s13⟩ ⟨Tt, x, y, rfl, nT, rfl, hx, hy⟩
      cases hx
      rw [List.length_map] at hj
      dsimp only at hy
      rw [List.getElem?_map, List.getElem?_eq_getElem hj] at hy
      cases hy
      have s14 : Same H12 (upd H13 Tt (.tup [.int (j : Nat), .ref es[j]])) := s13.trans (same_upd nT)
      refine ⟨Tt, _, rfl, .inl (.inl upd_same), rfl, _, _, rfl, _, _, rfl, rfl, ?_⟩
      generalize upd H13 Tt _ = H14 at s14
      obtain ⟨Dj, hDj⟩ : ∃ Dj, ([C_NoWord, C_NoPlace, C_NoTread, C_NoPower, C_NoNumber, C_NoMakers, C_NoWalk, C_NoAnswers, C_NoWishes, C_NoUndo, C_NoThings, C_NoMatch, C_TooGreat] : List Addr)[j]? = some Dj := ⟨_, List.getElem?_eq_getElem (by show j < 13; omega)⟩
      have xj := (hE12 j es[j] Dj (List.getElem?_eq_getElem hj) hDj).same s14
      have hj13 : j < 13 := by omega
      have hrow : ∀ j, j < 13 → ([[true, false, false, false, false, false, false, false, false, false, false, false, false, true, true, false, false, false], [false, true, false, false, false, false, false, false, false, false, false, false, false, true, true, false, false, false], [false, false, true, false, false, false, false, false, false, false, false, false, false, true, true, false, false, false], [false, false, false, true, false, false, false, false, false, false, false, false, false, true, true, false, false, false], [false, false, false, false, true, false, false, false, false, false, false, false, false, true, true, false, false, false], [false, false, false, false, false, true, false, false, false, false, false, false, false, true, true, false, false, false], [false, false, false, false, false, false, true, false, false, false, false, false, false, true, true, false, false, false], [false, false, false, false, false, false, false, true, false, false, false, false, false, true, true, false, false, false], [false, false, false, false, false, false, false, false, true, false, false, false, false, true, true, false, false, false], [false, false, false, false, false, false, false, false, false, true, false, false, false, true, true, false, false, false], [false, false, false, false, false, false, false, false, false, false, true, false, false, true, true, false, false, false], [false, false, false, false, false, false, false, false, false, false, false, true, false, true, true, false, false, false], [false, false, false, false, false, false, false, false, false, false, false, false, true, true, true, false, false, false], [false, false, false, false, false, false, false, false, false, false, false, false, false, true, true, false, false, false]] : List (List Bool))[j]? = some (((List.range 13).map fun t => decide (t = j)) ++ [true, true, false, false, false]) := by decide
      have hD := row_c (ys := [.ref C_TreadError]) (x := []) hDj
      have cD : ExcC K Dj := by
        match j, hj13, hDj with
        | 0, _, h => cases h; exact T.x_NoWord.cls
        | 1, _, h => cases h; exact T.x_NoPlace.cls
        | 2, _, h => cases h; exact T.x_NoTread.cls
        | 3, _, h => cases h; exact T.x_NoPower.cls
        | 4, _, h => cases h; exact T.x_NoNumber.cls
        | 5, _, h => cases h; exact T.x_NoMakers.cls
        | 6, _, h => cases h; exact T.x_NoWalk.cls
        | 7, _, h => cases h; exact T.x_NoAnswers.cls
        | 8, _, h => cases h; exact T.x_NoWishes.cls
        | 9, _, h => cases h; exact T.x_NoUndo.cls
        | 10, _, h => cases h; exact T.x_NoThings.cls
        | 11, _, h => cases h; exact T.x_NoMatch.cls
        | 12, _, h => cases h; exact T.x_TooGreat.cls
        | _ + 13, h, _ => omega
      refine ⟨es[j], Dj, (List.range 13).map fun t => decide (t = j), rfl, xj, cD, ?_, fun p15 H15 s15 n15 g15 => ?_⟩
      · exact KitRow.mk (by intro z; cases z) (by rw [List.length_map, List.length_range]; rfl) fun t c b h1 h2 => kitTab_at hkit (i := j) (j := t) hD (hrow j hj13) (row_c (x := []) h1) (row_b h2)
      refine ⟨13, rfl, by decide, by decide, fun D nD => lc_it walk_range (fun m H' => H' = upd H15 D (.lst (((List.range m).map fun t => decide ((0 : Int) + (t : Nat) = (j : Nat))).map V.bl))) rfl (fun _ _ _ _ => trivial) ?_ ?_⟩
      · rintro m x H' H'' hm rfl ⟨rfl, rfl⟩
        refine ⟨rfl, ?_⟩
        refine ⟨_, upd_same, ?_, ?_⟩
        · rw [List.length_map, List.length_map, List.length_range]
          have : m < 13 := hm
          omega
        · show upd (upd H15 D _) D _ = upd H15 D _
          rw [upd_upd, List.range_succ, List.map_append, List.map_append]
          rfl
      intro H16 hH16
      have s16 : Same H15 H16 := by rw [hH16]; exact same_upd nD
      have g16 : H16 D = some (.lst (((List.range 13).map fun t => decide ((0 : Int) + (t : Nat) = (j : Nat))).map V.bl)) := by rw [hH16]; exact upd_same
      clear hH16
      refine ⟨true, eqb_bls (.inl (.inl (s16 _ _ g15))) (.inl (.inl g16)) (List.map_congr_left fun t _ => decide_eq_decide.mpr (by omega)), ?_⟩
      have x16 := xj.same (s15.trans s16)
      refine .inr ⟨es[j], Dj, _, _, true, rfl, .own _, x16, cD, kitTab_at hkit (i := j) (j := 13) hD (hrow j hj13) rfl rfl, ?_⟩
      refine .inr ⟨es[j], Dj, _, _, true, rfl, .ty _, x16, cD, kitTab_at hkit (i := j) (j := 14) hD (hrow j hj13) rfl rfl, ?_⟩
      refine .inr ⟨es[j], Dj, _, _, false, rfl, .ty _, x16, cD, kitTab_at hkit (i := j) (j := 15) hD (hrow j hj13) rfl rfl, ?_⟩
      refine .inr ⟨es[j], Dj, _, _, false, rfl, .ty _, x16, cD, kitTab_at hkit (i := j) (j := 16) hD (hrow j hj13) rfl rfl, ?_⟩
      refine .inr ⟨es[j], Dj, _, _, false, rfl, .ty _, x16, cD, kitTab_at hkit (i := j) (j := 17) hD (hrow j hj13) rfl rfl, ?_⟩
      exact ⟨_, _, _, _, _, _, _, _, rfl, (s14.trans s15).trans s16⟩
    · rintro σ' H13 ⟨y2, y3, y5, y6, y7, y8, y9, y10, rfl, s13⟩
      exact ⟨_, _, _, _, _, _, _, _, _, rfl, (s13.pen hp12).mono (by omega)⟩
  · rintro σ' H2 ⟨x2, x3, x4, x5, x6, x7, x8, x9, x10, rfl, hp2⟩
    exact q H2

end
theorem all_mk {l : PySem.W.OpenLaw} {w : World} {K : PySem.W.Frag} {h : Heap} {mg : Str → Option Value} {fa : Addr} (X : K.In h) (G : h.Ns mainGlobals mg) (hfa : mg "law" = some (.ref fa))
    {od0 an0 : Option Addr} {sl0 : Array (Option Value)} {oc0 kV0 dc0 pm0 cd0 ct0 : Value} {f0 : Addr}
    {od1 an1 : Option Addr} {sl1 : Array (Option Value)} {oc1 kV1 dc1 pm1 cd1 ct1 : Value} {f1 : Addr}
    {od2 an2 : Option Addr} {sl2 : Array (Option Value)} {oc2 kV2 dc2 pm2 cd2 ct2 : Value} {f2 : Addr}
    {od3 an3 : Option Addr} {sl3 : Array (Option Value)} {oc3 kV3 dc3 pm3 cd3 ct3 : Value} {f3 : Addr}
    {od4 an4 : Option Addr} {sl4 : Array (Option Value)} {oc4 kV4 dc4 pm4 cd4 ct4 : Value} {f4 : Addr}
    {od5 an5 : Option Addr} {sl5 : Array (Option Value)} {oc5 kV5 dc5 pm5 cd5 ct5 : Value} {f5 : Addr}
    {od6 an6 : Option Addr} {sl6 : Array (Option Value)} {oc6 kV6 dc6 pm6 cd6 ct6 : Value} {f6 : Addr}
    {od7 an7 : Option Addr} {sl7 : Array (Option Value)} {oc7 kV7 dc7 pm7 cd7 ct7 : Value} {f7 : Addr}
    {od8 an8 : Option Addr} {sl8 : Array (Option Value)} {oc8 kV8 dc8 pm8 cd8 ct8 : Value} {f8 : Addr}
    (a0 : PySem.W.nsIn K mainGlobals "_law_spread" = some (some (.ref f0))) (l0 : K.lookup f0 = some ⟨oc0, od0, .func (PySem.W.fnOf "_law_spread" "_law_spread" (defArgs s__law_spread) (defBody s__law_spread) (defScope s__law_spread) .none kV0 dc0 pm0 an0 cd0 ct0), sl0⟩) (c0 : PySem.W.codeIn K cd0 "_law_spread" = true) (k0 : PySem.W.keepIn K (.ref f0) = true)
    (a1 : PySem.W.nsIn K mainGlobals "_law_open" = some (some (.ref f1))) (l1 : K.lookup f1 = some ⟨oc1, od1, .func (PySem.W.fnOf "_law_open" "_law_open" (defArgs s__law_open) (defBody s__law_open) (defScope s__law_open) .none kV1 dc1 pm1 an1 cd1 ct1), sl1⟩) (c1 : PySem.W.codeIn K cd1 "_law_open" = true) (k1 : PySem.W.keepIn K (.ref f1) = true)
    (a2 : PySem.W.nsIn K mainGlobals "_law_take" = some (some (.ref f2))) (l2 : K.lookup f2 = some ⟨oc2, od2, .func (PySem.W.fnOf "_law_take" "_law_take" (defArgs s__law_take) (defBody s__law_take) (defScope s__law_take) .none kV2 dc2 pm2 an2 cd2 ct2), sl2⟩) (c2 : PySem.W.codeIn K cd2 "_law_take" = true) (k2 : PySem.W.keepIn K (.ref f2) = true)
    (a3 : PySem.W.nsIn K mainGlobals "_law_z_pick" = some (some (.ref f3))) (l3 : K.lookup f3 = some ⟨oc3, od3, .func (PySem.W.fnOf "_law_z_pick" "_law_z_pick" (defArgs s__law_z_pick) (defBody s__law_z_pick) (defScope s__law_z_pick) .none kV3 dc3 pm3 an3 cd3 ct3), sl3⟩) (c3 : PySem.W.codeIn K cd3 "_law_z_pick" = true) (k3 : PySem.W.keepIn K (.ref f3) = true)
    (a4 : PySem.W.nsIn K mainGlobals "is_word" = some (some (.ref f4))) (l4 : K.lookup f4 = some ⟨oc4, od4, .func (PySem.W.fnOf "is_word" "is_word" (defArgs s_is_word) (defBody s_is_word) (defScope s_is_word) .none kV4 dc4 pm4 an4 cd4 ct4), sl4⟩) (c4 : PySem.W.codeIn K cd4 "is_word" = true) (k4 : PySem.W.keepIn K (.ref f4) = true)
    (a5 : PySem.W.nsIn K mainGlobals "check_word" = some (some (.ref f5))) (l5 : K.lookup f5 = some ⟨oc5, od5, .func (PySem.W.fnOf "check_word" "check_word" (defArgs s_check_word) (defBody s_check_word) (defScope s_check_word) .none kV5 dc5 pm5 an5 cd5 ct5), sl5⟩) (c5 : PySem.W.codeIn K cd5 "check_word" = true) (k5 : PySem.W.keepIn K (.ref f5) = true)
    (a6 : PySem.W.nsIn K mainGlobals "tread_of" = some (some (.ref f6))) (l6 : K.lookup f6 = some ⟨oc6, od6, .func (PySem.W.fnOf "tread_of" "tread_of" (defArgs s_tread_of) (defBody s_tread_of) (defScope s_tread_of) .none kV6 dc6 pm6 an6 cd6 ct6), sl6⟩) (c6 : PySem.W.codeIn K cd6 "tread_of" = true) (k6 : PySem.W.keepIn K (.ref f6) = true)
    (a7 : PySem.W.nsIn K mainGlobals "_law_z_kinds" = some (some (.ref f7))) (l7 : K.lookup f7 = some ⟨oc7, od7, .func (PySem.W.fnOf "_law_z_kinds" "_law_z_kinds" (defArgs s__law_z_kinds) (defBody s__law_z_kinds) (defScope s__law_z_kinds) .none kV7 dc7 pm7 an7 cd7 ct7), sl7⟩) (c7 : PySem.W.codeIn K cd7 "_law_z_kinds" = true) (k7 : PySem.W.keepIn K (.ref f7) = true)
    (a8 : PySem.W.nsIn K mainGlobals "law" = some (some (.ref f8))) (l8 : K.lookup f8 = some ⟨oc8, od8, .func (PySem.W.fnOf "law" "law" (defArgs s_law) (defBody s_law) (defScope s_law) .none kV8 dc8 pm8 an8 cd8 ct8), sl8⟩) (c8 : PySem.W.codeIn K cd8 "law" = true) (k8 : PySem.W.keepIn K (.ref f8) = true)
    (z_ArithmeticError : PySem.W.nsIn K mainGlobals "ArithmeticError" = some none)
    (z_LookupError : PySem.W.nsIn K mainGlobals "LookupError" = some none)
    (z_TypeError : PySem.W.nsIn K mainGlobals "TypeError" = some none)
    (z_ValueError : PySem.W.nsIn K mainGlobals "ValueError" = some none)
    (z_enumerate : PySem.W.nsIn K mainGlobals "enumerate" = some none)
    (z_int : PySem.W.nsIn K mainGlobals "int" = some none)
    (z_isinstance : PySem.W.nsIn K mainGlobals "isinstance" = some none)
    (z_len : PySem.W.nsIn K mainGlobals "len" = some none)
    (z_list : PySem.W.nsIn K mainGlobals "list" = some none)
    (z_range : PySem.W.nsIn K mainGlobals "range" = some none)
    (z_str : PySem.W.nsIn K mainGlobals "str" = some none)
    {t_LETTERS : Tok} (v_LETTERS : PySem.W.nsIn K mainGlobals "LETTERS" = some (some (.str "ABCDabcd" t_LETTERS)))
    {t_MOST_LETTERS : Tok} (v_MOST_LETTERS : PySem.W.nsIn K mainGlobals "MOST_LETTERS" = some (some (.int 200 t_MOST_LETTERS)))
    {C_TreadError : Addr} (e_TreadError : PySem.W.nsIn K mainGlobals "TreadError" = some (some (.ref C_TreadError)))
    (y_TreadError : PySem.W.excIn K C_TreadError [.type "ValueError", .type "Exception", .type "BaseException", .type "object"] "ValueError.__new__" = true)
    (w_TreadError : excCB K C_TreadError = true)
    {C_NoWord : Addr} (e_NoWord : PySem.W.nsIn K mainGlobals "NoWord" = some (some (.ref C_NoWord)))
    (y_NoWord : PySem.W.excIn K C_NoWord [.type "ValueError", .type "Exception", .type "BaseException", .type "object"] "ValueError.__new__" = true)
    (w_NoWord : excCB K C_NoWord = true)
    {C_NoPlace : Addr} (e_NoPlace : PySem.W.nsIn K mainGlobals "NoPlace" = some (some (.ref C_NoPlace)))
    (y_NoPlace : PySem.W.excIn K C_NoPlace [.type "ValueError", .type "Exception", .type "BaseException", .type "object"] "ValueError.__new__" = true)
    (w_NoPlace : excCB K C_NoPlace = true)
    {C_NoTread : Addr} (e_NoTread : PySem.W.nsIn K mainGlobals "NoTread" = some (some (.ref C_NoTread)))
    (y_NoTread : PySem.W.excIn K C_NoTread [.type "ValueError", .type "Exception", .type "BaseException", .type "object"] "ValueError.__new__" = true)
    (w_NoTread : excCB K C_NoTread = true)
    {C_NoPower : Addr} (e_NoPower : PySem.W.nsIn K mainGlobals "NoPower" = some (some (.ref C_NoPower)))
    (y_NoPower : PySem.W.excIn K C_NoPower [.type "ValueError", .type "Exception", .type "BaseException", .type "object"] "ValueError.__new__" = true)
    (w_NoPower : excCB K C_NoPower = true)
    {C_NoNumber : Addr} (e_NoNumber : PySem.W.nsIn K mainGlobals "NoNumber" = some (some (.ref C_NoNumber)))
    (y_NoNumber : PySem.W.excIn K C_NoNumber [.type "ValueError", .type "Exception", .type "BaseException", .type "object"] "ValueError.__new__" = true)
    (w_NoNumber : excCB K C_NoNumber = true)
    {C_NoMakers : Addr} (e_NoMakers : PySem.W.nsIn K mainGlobals "NoMakers" = some (some (.ref C_NoMakers)))
    (y_NoMakers : PySem.W.excIn K C_NoMakers [.type "ValueError", .type "Exception", .type "BaseException", .type "object"] "ValueError.__new__" = true)
    (w_NoMakers : excCB K C_NoMakers = true)
    {C_NoWalk : Addr} (e_NoWalk : PySem.W.nsIn K mainGlobals "NoWalk" = some (some (.ref C_NoWalk)))
    (y_NoWalk : PySem.W.excIn K C_NoWalk [.type "ValueError", .type "Exception", .type "BaseException", .type "object"] "ValueError.__new__" = true)
    (w_NoWalk : excCB K C_NoWalk = true)
    {C_NoAnswers : Addr} (e_NoAnswers : PySem.W.nsIn K mainGlobals "NoAnswers" = some (some (.ref C_NoAnswers)))
    (y_NoAnswers : PySem.W.excIn K C_NoAnswers [.type "ValueError", .type "Exception", .type "BaseException", .type "object"] "ValueError.__new__" = true)
    (w_NoAnswers : excCB K C_NoAnswers = true)
    {C_NoWishes : Addr} (e_NoWishes : PySem.W.nsIn K mainGlobals "NoWishes" = some (some (.ref C_NoWishes)))
    (y_NoWishes : PySem.W.excIn K C_NoWishes [.type "ValueError", .type "Exception", .type "BaseException", .type "object"] "ValueError.__new__" = true)
    (w_NoWishes : excCB K C_NoWishes = true)
    {C_NoUndo : Addr} (e_NoUndo : PySem.W.nsIn K mainGlobals "NoUndo" = some (some (.ref C_NoUndo)))
    (y_NoUndo : PySem.W.excIn K C_NoUndo [.type "ValueError", .type "Exception", .type "BaseException", .type "object"] "ValueError.__new__" = true)
    (w_NoUndo : excCB K C_NoUndo = true)
    {C_NoThings : Addr} (e_NoThings : PySem.W.nsIn K mainGlobals "NoThings" = some (some (.ref C_NoThings)))
    (y_NoThings : PySem.W.excIn K C_NoThings [.type "ValueError", .type "Exception", .type "BaseException", .type "object"] "ValueError.__new__" = true)
    (w_NoThings : excCB K C_NoThings = true)
    {C_NoMatch : Addr} (e_NoMatch : PySem.W.nsIn K mainGlobals "NoMatch" = some (some (.ref C_NoMatch)))
    (y_NoMatch : PySem.W.excIn K C_NoMatch [.type "ValueError", .type "Exception", .type "BaseException", .type "object"] "ValueError.__new__" = true)
    (w_NoMatch : excCB K C_NoMatch = true)
    {C_TooGreat : Addr} (e_TooGreat : PySem.W.nsIn K mainGlobals "TooGreat" = some (some (.ref C_TooGreat)))
    (y_TooGreat : PySem.W.excIn K C_TooGreat [.type "ValueError", .type "Exception", .type "BaseException", .type "object"] "ValueError.__new__" = true)
    (w_TooGreat : excCB K C_TooGreat = true)
    (hkit : kitTab K [.ref C_NoWord, .ref C_NoPlace, .ref C_NoTread, .ref C_NoPower, .ref C_NoNumber, .ref C_NoMakers, .ref C_NoWalk, .ref C_NoAnswers, .ref C_NoWishes, .ref C_NoUndo, .ref C_NoThings, .ref C_NoMatch, .ref C_TooGreat, .ref C_TreadError] [.ref C_NoWord, .ref C_NoPlace, .ref C_NoTread, .ref C_NoPower, .ref C_NoNumber, .ref C_NoMakers, .ref C_NoWalk, .ref C_NoAnswers, .ref C_NoWishes, .ref C_NoUndo, .ref C_NoThings, .ref C_NoMatch, .ref C_TooGreat, .ref C_TreadError, .type "ValueError", .type "LookupError", .type "ArithmeticError", .type "TypeError"] [[true, false, false, false, false, false, false, false, false, false, false, false, false, true, true, false, false, false], [false, true, false, false, false, false, false, false, false, false, false, false, false, true, true, false, false, false], [false, false, true, false, false, false, false, false, false, false, false, false, false, true, true, false, false, false], [false, false, false, true, false, false, false, false, false, false, false, false, false, true, true, false, false, false], [false, false, false, false, true, false, false, false, false, false, false, false, false, true, true, false, false, false], [false, false, false, false, false, true, false, false, false, false, false, false, false, true, true, false, false, false], [false, false, false, false, false, false, true, false, false, false, false, false, false, true, true, false, false, false], [false, false, false, false, false, false, false, true, false, false, false, false, false, true, true, false, false, false], [false, false, false, false, false, false, false, false, true, false, false, false, false, true, true, false, false, false], [false, false, false, false, false, false, false, false, false, true, false, false, false, true, true, false, false, false], [false, false, false, false, false, false, false, false, false, false, true, false, false, true, true, false, false, false], [false, false, false, false, false, false, false, false, false, false, false, true, false, true, true, false, false, false], [false, false, false, false, false, false, false, false, false, false, false, false, true, true, true, false, false, false], [false, false, false, false, false, false, false, false, false, false, false, false, false, true, true, false, false, false]] = true)
    (hsub : PySem.W.subIn K (.ref C_NoWord) (.ref C_TreadError) = some true) :
    ∃ fd : FuncData, (∀ (s : Shared) (v : Value), BindsTo s fd ⟨[v], []⟩ [("script", v)]) ∧ ∀ base : Heap, K.In base → base.Ns mainGlobals mg → FnOk l.prog w K mg base CX0 5 fa fd ["script"] (spLaw K) := by
  have e := hfa.symm.trans (PySem.W.mg_of X G a8)
  cases e
  have T : Txt K mg C_TreadError C_NoWord C_NoPlace C_NoTread C_NoPower C_NoNumber C_NoMakers C_NoWalk C_NoAnswers C_NoWishes C_NoUndo C_NoThings C_NoMatch C_TooGreat := ⟨XC.of X G e_TreadError y_TreadError w_TreadError, XC.of X G e_NoWord y_NoWord w_NoWord, XC.of X G e_NoPlace y_NoPlace w_NoPlace, XC.of X G e_NoTread y_NoTread w_NoTread, XC.of X G e_NoPower y_NoPower w_NoPower, XC.of X G e_NoNumber y_NoNumber w_NoNumber, XC.of X G e_NoMakers y_NoMakers w_NoMakers, XC.of X G e_NoWalk y_NoWalk w_NoWalk, XC.of X G e_NoAnswers y_NoAnswers w_NoAnswers, XC.of X G e_NoWishes y_NoWishes w_NoWishes, XC.of X G e_NoUndo y_NoUndo w_NoUndo, XC.of X G e_NoThings y_NoThings w_NoThings, XC.of X G e_NoMatch y_NoMatch w_NoMatch, XC.of X G e_TooGreat y_TooGreat w_TooGreat, PySem.W.mg_none_of X G z_ArithmeticError, PySem.W.mg_none_of X G z_LookupError, PySem.W.mg_none_of X G z_TypeError, PySem.W.mg_none_of X G z_ValueError, PySem.W.mg_none_of X G z_enumerate, PySem.W.mg_none_of X G z_int, PySem.W.mg_none_of X G z_isinstance, PySem.W.mg_none_of X G z_len, PySem.W.mg_none_of X G z_list, PySem.W.mg_none_of X G z_range, PySem.W.mg_none_of X G z_str, ⟨_, PySem.W.mg_of X G v_LETTERS, ⟨_, rfl⟩⟩, ⟨_, PySem.W.mg_of X G v_MOST_LETTERS, ⟨_, rfl⟩⟩⟩
  have F0 := fun_mk (st := s__law_spread) l0 c0 k0
  have b0 := F0.binds (ps := ["cell", "at"]) fun _ _ _ _ _ _ us hl => match us, hl with | [_, _], _ => rfl
  have F1 := fun_mk (st := s__law_open) l1 c1 k1
  have b1 := F1.binds (ps := ["script"]) fun _ _ _ _ _ _ us hl => match us, hl with | [_], _ => rfl
  have F2 := fun_mk (st := s__law_take) l2 c2 k2
  have b2 := F2.binds (ps := ["pen", "many"]) fun _ _ _ _ _ _ us hl => match us, hl with | [_, _], _ => rfl
  have F3 := fun_mk (st := s__law_z_pick) l3 c3 k3
  have b3 := F3.binds (ps := ["pen", "some"]) fun _ _ _ _ _ _ us hl => match us, hl with | [_, _], _ => rfl
  have F4 := fun_mk (st := s_is_word) l4 c4 k4
  have b4 := F4.binds (ps := ["thing"]) fun _ _ _ _ _ _ us hl => match us, hl with | [_], _ => rfl
  have F5 := fun_mk (st := s_check_word) l5 c5 k5
  have b5 := F5.binds (ps := ["word"]) fun _ _ _ _ _ _ us hl => match us, hl with | [_], _ => rfl
  have F6 := fun_mk (st := s_tread_of) l6 c6 k6
  have b6 := F6.binds (ps := ["word"]) fun _ _ _ _ _ _ us hl => match us, hl with | [_], _ => rfl
  have F7 := fun_mk (st := s__law_z_kinds) l7 c7 k7
  have b7 := F7.binds (ps := ["one"]) fun _ _ _ _ _ _ us hl => match us, hl with | [_], _ => rfl
  have F8 := fun_mk (st := s_law) l8 c8 k8
  have b8 := F8.binds (ps := ["script"]) fun _ _ _ _ _ _ us hl => match us, hl with | [_], _ => rfl
  refine ⟨PySem.W.fnOf "law" "law" (defArgs s_law) (defBody s_law) (defScope s_law) .none kV8 dc8 pm8 an8 cd8 ct8, fun s v => .of_eq rfl, fun base _ _ => ?_⟩
  have D__law_spread := ok__law_spread (P := l.prog) (w := w) (base := base) T F0 (PySem.W.mg_of X G a0) b0
  have D__law_open := ok__law_open (P := l.prog) (w := w) (base := base) T F1 (PySem.W.mg_of X G a1) b1
  have D__law_take := ok__law_take (P := l.prog) (w := w) (base := base) T D__law_spread F2 (PySem.W.mg_of X G a2) b2
  have D__law_z_pick := ok__law_z_pick (P := l.prog) (w := w) (base := base) T D__law_take F3 (PySem.W.mg_of X G a3) b3
  have D_is_word := ok_is_word (P := l.prog) (w := w) (base := base) T F4 (PySem.W.mg_of X G a4) b4
  have D_check_word := ok_check_word (P := l.prog) (w := w) (base := base) T D_is_word F5 (PySem.W.mg_of X G a5) b5
  have D_tread_of := ok_tread_of (P := l.prog) (w := w) (base := base) T D_check_word F6 (PySem.W.mg_of X G a6) b6
  have D__law_z_kinds := ok__law_z_kinds (P := l.prog) (w := w) (base := base) T F7 (PySem.W.mg_of X G a7) b7
  have D_law := ok_law (P := l.prog) (w := w) (base := base) T D__law_z_kinds D_tread_of D__law_z_pick D__law_take D__law_open F8 (PySem.W.mg_of X G a8) b8 hkit hsub
  exact D_law
end K44
open PySem PySem.W PyProof.Rows
set_option maxHeartbeats 0 in
theorem PySem.Challenge.cw_solvedtreads_k44_errors_by_hand_holds : PySem.Challenge.rw_solvedtreads_k44_errors_by_hand.Holds := by
  w_on; o_law; k_head; (case hw => w_witness2)
  k_fill
  refine L2.walk_of (l := PySem.Challenge.rw_solvedtreads_k44_errors_by_hand) (n := 63) (k := 5) (x := "script") (CX := fun _ => L2.CX0) (sp := fun w => K44.spLaw _) rfl (by decide) rfl ⟨rfl, by decide, by decide⟩ (fun w h Y => PySem.W.kIn_of Y) ?F (fun _ _ a ns hl _ hS => ⟨a, ns, rfl, hS, hl, fun _ => rfl⟩) (fun _ _ _ _ _ h => h)
  case F =>
    intro w mg fa h KX G hmg
    refine' K44.all_mk KX G hmg ?a0 ?l0 ?c0 ?k0 ?a1 ?l1 ?c1 ?k1 ?a2 ?l2 ?c2 ?k2 ?a3 ?l3 ?c3 ?k3 ?a4 ?l4 ?c4 ?k4 ?a5 ?l5 ?c5 ?k5 ?a6 ?l6 ?c6 ?k6 ?a7 ?l7 ?c7 ?k7 ?a8 ?l8 ?c8 ?k8 ?z_ArithmeticError ?z_LookupError ?z_TypeError ?z_ValueError ?z_enumerate ?z_int ?z_isinstance ?z_len ?z_list ?z_range ?z_str ?v_LETTERS ?v_MOST_LETTERS ?e_TreadError ?y_TreadError ?w_TreadError ?e_NoWord ?y_NoWord ?w_NoWord ?e_NoPlace ?y_NoPlace ?w_NoPlace ?e_NoTread ?y_NoTread ?w_NoTread ?e_NoPower ?y_NoPower ?w_NoPower ?e_NoNumber ?y_NoNumber ?w_NoNumber ?e_NoMakers ?y_NoMakers ?w_NoMakers ?e_NoWalk ?y_NoWalk ?w_NoWalk ?e_NoAnswers ?y_NoAnswers ?w_NoAnswers ?e_NoWishes ?y_NoWishes ?w_NoWishes ?e_NoUndo ?y_NoUndo ?w_NoUndo ?e_NoThings ?y_NoThings ?w_NoThings ?e_NoMatch ?y_NoMatch ?w_NoMatch ?e_TooGreat ?y_TooGreat ?w_TooGreat ?hkit ?hsub
    (case a0 => k_is); (case l0 => k_is); (case c0 => k_is); (case k0 => k_is); (case a1 => k_is); (case l1 => k_is); (case c1 => k_is); (case k1 => k_is); (case a2 => k_is); (case l2 => k_is); (case c2 => k_is); (case k2 => k_is); (case a3 => k_is); (case l3 => k_is); (case c3 => k_is); (case k3 => k_is); (case a4 => k_is); (case l4 => k_is); (case c4 => k_is); (case k4 => k_is); (case a5 => k_is); (case l5 => k_is); (case c5 => k_is); (case k5 => k_is); (case a6 => k_is); (case l6 => k_is); (case c6 => k_is); (case k6 => k_is); (case a7 => k_is); (case l7 => k_is); (case c7 => k_is); (case k7 => k_is); (case a8 => k_is); (case l8 => k_is); (case c8 => k_is); (case k8 => k_is); (case z_ArithmeticError => k_is); (case z_LookupError => k_is); (case z_TypeError => k_is); (case z_ValueError => k_is); (case z_enumerate => k_is); (case z_int => k_is); (case z_isinstance => k_is); (case z_len => k_is); (case z_list => k_is); (case z_range => k_is); (case z_str => k_is); (case v_LETTERS => k_is); (case v_MOST_LETTERS => k_is); (case e_TreadError => k_is); (case y_TreadError => k_exc); (case w_TreadError => kernel_rfl); (case e_NoWord => k_is); (case y_NoWord => k_exc); (case w_NoWord => kernel_rfl); (case e_NoPlace => k_is); (case y_NoPlace => k_exc); (case w_NoPlace => kernel_rfl); (case e_NoTread => k_is); (case y_NoTread => k_exc); (case w_NoTread => kernel_rfl); (case e_NoPower => k_is); (case y_NoPower => k_exc); (case w_NoPower => kernel_rfl); (case e_NoNumber => k_is); (case y_NoNumber => k_exc); (case w_NoNumber => kernel_rfl); (case e_NoMakers => k_is); (case y_NoMakers => k_exc); (case w_NoMakers => kernel_rfl); (case e_NoWalk => k_is); (case y_NoWalk => k_exc); (case w_NoWalk => kernel_rfl); (case e_NoAnswers => k_is); (case y_NoAnswers => k_exc); (case w_NoAnswers => kernel_rfl); (case e_NoWishes => k_is); (case y_NoWishes => k_exc); (case w_NoWishes => kernel_rfl); (case e_NoUndo => k_is); (case y_NoUndo => k_exc); (case w_NoUndo => kernel_rfl); (case e_NoThings => k_is); (case y_NoThings => k_exc); (case w_NoThings => kernel_rfl); (case e_NoMatch => k_is); (case y_NoMatch => k_exc); (case w_NoMatch => kernel_rfl); (case e_TooGreat => k_is); (case y_TooGreat => k_exc); (case w_TooGreat => kernel_rfl); (case hkit => kernel_rfl); (case hsub => kernel_rfl)
