import PyProof.Rows.All
import Wide.All
import OpenK.AllK
import Wide.FinOn
import PyProof.EqAt
import PyProof.EqKinds
import PyProof.TupleCall
import HandS.Base
import HandS.Call
import HandS.List
import HandS.Comp
import HandS.Ends
import HandS.Dict
import HandS.Iter
import HandS.Text
import HandS.Words
import HandS.WordsList
import HandS.WordsDict
import HandS.Exc
import HandS.ExcOwn
import HandS.TryOnly
import HandS.WordsExc
import HandS.IsInst
import HandS.ExcValue
import HandS.ExcIs
import HandS.Walk
import HandS.Codes
import HandS.Lambda
import HandS.EndBits
import HandS.EndTab
import PyProof.ReprRoads
import HandS.Style
import KE.GoesEnum
import KE.GoesMore
import KE.GoesZip
import HandS.Replace
import HandS.TupLe
import KE.SortData
import HandS.TupSets
import HandS.SetKeys
import HandS.SetFor
import HandS.SortKw
import KE.KDictList
import HandS.Sort
import HandS.Small
import HandS.TupAny
import HandS.DictComp
import HandS.Wide
import PySem.Challenge.RW_solvedtreads_k62_solutions
set_option Elab.async false
set_option linter.all false
set_option maxRecDepth 100000
set_option maxHeartbeats 4000000
/-! Own rules: readings that reduce by themselves (match on the values), calls of defs by one fact, exceptions kept as values. -/
namespace Xia
open PySem PySem.Spec PyProof.Rows L2

/-! ### names -/
def tV (i : Nat) : TE := fun σ H Q => match σ[i]? with | some (some v) => Q v H | _ => False
section
variable {X : Cx}
theorem pV (i : Nat) {x : Str} {pos : Pos} (hN : X.N[i]? = some x := by rfl) (hv : Vis X.env.scope x := by first | exact Or.inl rfl | exact Or.inr (Or.inl rfl) | exact Or.inr (Or.inr rfl)) (hd : (x == ("__debug__" : Str)) = false := by decide)
    (hcd : (x == ("__classdict__" : Str)) = false := by decide) : PE X (.Name x pos) (tV i) := by
  refine ⟨fun pins s σ H Q I h => (pe_var hN hv hd hcd).run pins s σ H Q I ?_⟩
  unfold tV at h
  split at h
  · rename_i v e
    exact ⟨v, e, h⟩
  · exact h.elim

/-! ### operators -/
def mAdd : R2 := fun x y H Q => match x, y with
  | .int i, .int j => Q (.int (i + j)) H
  | .str a, .str b => a.length + b.length ≤ sizeLine ∧ Q (.str (a ++ b)) H
  | .ref p, .ref q => ∃ xs ys, H p = some (.lst xs) ∧ H q = some (.lst ys) ∧ xs.length + ys.length ≤ sizeLine ∧ ∀ r, H r = none → Q (.ref r) (upd H r (.lst (xs ++ ys)))
  | _, _ => False
theorem oAdd : OpR X (binaryOp .Add) mAdd := by
  intro pins s σ H x y v u Q I rx ry h
  unfold mAdd at h
  split at h
  · exact op_add pins s σ H _ _ v u Q I rx ry ⟨_, _, rfl, rfl, h⟩
  · exact op_add_str pins s σ H _ _ v u Q I rx ry ⟨_, _, rfl, rfl, h⟩
  · obtain ⟨xs, ys, h1, h2, h3, h4⟩ := h
    exact op_cat pins s σ H _ _ v u Q I rx ry ⟨_, _, _, _, rfl, rfl, h1, h2, h3, h4⟩
  · exact h.elim
def mSub : R2 := fun x y H Q => match x, y with | .int i, .int j => Q (.int (i - j)) H | _, _ => False
theorem oSub : OpR X (binaryOp .Sub) mSub := by
  intro pins s σ H x y v u Q I rx ry h
  unfold mSub at h
  split at h
  · exact op_sub pins s σ H _ _ v u Q I rx ry ⟨_, _, rfl, rfl, h⟩
  · exact h.elim
/-- a text, n times -/
def repS (a : Str) (n : Int) : Str := Txt.mul a n
theorem op_mul_str : OpR X (binaryOp .Mult) (fun x y H Q => ∃ a i, x = .str a ∧ y = .int i ∧ MulOk a i ∧ Q (.str (Txt.mul a i)) H) := by
  intro pins s σ H x y v u Q I rx ry h
  obtain ⟨a, i, rfl, rfl, hc, q⟩ := h
  obtain ⟨t, rfl⟩ := rx
  obtain ⟨t', rfl⟩ := ry
  exact SB.mul hc fun t' k => ⟨.str _, H, I.tok k, ⟨_, rfl⟩, q⟩
def mMul : R2 := fun x y H Q => match x, y with
  | .int i, .int j => CMul i j ∧ Q (.int (i * j)) H
  | .str a, .int i => MulOk a i ∧ Q (.str (Txt.mul a i)) H
  | .ref l, .int k => ∃ xs, H l = some (.lst xs) ∧ -(2 ^ 63) ≤ k ∧ k < 2 ^ 63 ∧ xs.length * k.toNat ≤ sizeLine ∧ ∀ p, H p = none → Q (.ref p) (upd H p (.lst (List.replicate k.toNat xs).flatten))
  | _, _ => False
theorem oMul : OpR X (binaryOp .Mult) mMul := by
  intro pins s σ H x y v u Q I rx ry h
  unfold mMul at h
  split at h
  · exact op_mul pins s σ H _ _ v u Q I rx ry ⟨_, _, rfl, rfl, h⟩
  · exact op_mul_str pins s σ H _ _ v u Q I rx ry ⟨_, _, rfl, rfl, h⟩
  · obtain ⟨xs, h1, h2, h3, h4, h5⟩ := h
    exact op_rep pins s σ H _ _ v u Q I rx ry ⟨_, _, _, rfl, rfl, h1, h2, h3, h4, h5⟩
  · exact h.elim
def mMod : R2 := fun x y H Q => match x, y with | .int i, .int j => 0 < j ∧ Q (.int (i % j)) H | _, _ => False
theorem oMod : OpR X (binaryOp .Mod) mMod := by
  intro pins s σ H x y v u Q I rx ry h
  unfold mMod at h
  split at h
  · exact op_mod pins s σ H _ _ v u Q I rx ry ⟨_, _, rfl, rfl, h⟩
  · exact h.elim
def mFdiv : R2 := fun x y H Q => match x, y with | .int i, .int j => CDiv i j ∧ Q (.int (i / j)) H | _, _ => False
theorem oFdiv : OpR X (binaryOp .FloorDiv) mFdiv := by
  intro pins s σ H x y v u Q I rx ry h
  unfold mFdiv at h
  split at h
  · exact op_fdiv pins s σ H _ _ v u Q I rx ry ⟨_, _, rfl, rfl, h⟩
  · exact h.elim
def mPow : R2 := fun x y H Q => match x, y with | .int i, .int j => CPow i j ∧ Q (.int (i ^ j.toNat)) H | _, _ => False
theorem oPow : OpR X (binaryOp .Pow) mPow := by
  intro pins s σ H x y v u Q I rx ry h
  unfold mPow at h
  split at h
  · exact op_pow pins s σ H _ _ v u Q I rx ry ⟨_, _, rfl, rfl, h⟩
  · exact h.elim
def mNeg : V → Hp → VK → Prop := fun x H Q => match x with | .int i => Q (.int (-i)) H | _ => False
theorem oNeg : UnR X (unaryOp .USub) mNeg := by
  intro pins s σ H x v Q I rx h
  unfold mNeg at h
  split at h
  · exact un_neg pins s σ H _ v Q I rx ⟨_, rfl, h⟩
  · exact h.elim

/-! ### comparisons -/
/-- do the two stand for data, and are they equal -/
def EqB (K : PySem.W.Frag) (H : Hp) (x y : V) (b : Bool) : Prop := ∃ d e, Dp K H x d ∧ Dp K H y e ∧ SeqAt.shaped d = true ∧ SeqAt.shaped e = true ∧ b = PyData.eqv d e
def mEq (K : PySem.W.Frag) : R2 := fun x y H Q => match x, y with
  | .int i, .int j => Q (.bl (decide (i = j))) H
  | .str i, .str j => Q (.bl (decide (i = j))) H
  | .bl i, .bl j => Q (.bl (decide (i = j))) H
  | .int _, .non => Q (.bl false) H
  | .non, .non => Q (.bl true) H
  | x, y => ∃ b, EqB K H x y b ∧ Q (.bl b) H
theorem oEq {K : PySem.W.Frag} (hu : X.A.units + 64 < cLine) (hK : X.K = K := by rfl) : OpR X (compareOp .Eq) (mEq K) := by
  subst hK
  intro pins s σ H x y v u Q I rx ry h
  unfold mEq at h
  split at h
  · exact op_eq pins s σ H _ _ v u Q I rx ry ⟨rfl, by simpa using h⟩
  · exact op_eq pins s σ H _ _ v u Q I rx ry ⟨rfl, by simpa using h⟩
  · exact op_eq pins s σ H _ _ v u Q I rx ry ⟨rfl, by simpa using h⟩
  · exact op_eq pins s σ H _ _ v u Q I rx ry ⟨rfl, by simpa using h⟩
  · exact op_eq pins s σ H _ _ v u Q I rx ry ⟨rfl, by simpa using h⟩
  · obtain ⟨b, ⟨d, e, h1, h2, h3, h4, rfl⟩, q⟩ := h
    exact op_eqD hu pins s σ H _ _ v u Q I rx ry ⟨d, e, h1, h2, h3, h4, q⟩
def mNe (K : PySem.W.Frag) : R2 := fun x y H Q => match x, y with
  | .int i, .int j => Q (.bl (!decide (i = j))) H
  | .str i, .str j => Q (.bl (!decide (i = j))) H
  | .bl i, .bl j => Q (.bl (!decide (i = j))) H
  | .non, .non => Q (.bl false) H
  | x, y => ∃ b, EqB K H x y b ∧ Q (.bl (!b)) H
theorem oNe {K : PySem.W.Frag} (hu : X.A.units + 64 < cLine) (hK : X.K = K := by rfl) : OpR X (compareOp .NotEq) (mNe K) := by
  subst hK
  intro pins s σ H x y v u Q I rx ry h
  unfold mNe at h
  split at h
  · exact op_ne pins s σ H _ _ v u Q I rx ry ⟨rfl, by simpa using h⟩
  · exact op_ne pins s σ H _ _ v u Q I rx ry ⟨rfl, by simpa using h⟩
  · exact op_ne pins s σ H _ _ v u Q I rx ry ⟨rfl, by simpa using h⟩
  · exact op_ne pins s σ H _ _ v u Q I rx ry ⟨rfl, by simpa using h⟩
  · obtain ⟨b, ⟨d, e, h1, h2, h3, h4, rfl⟩, q⟩ := h
    exact op_neD hu pins s σ H _ _ v u Q I rx ry ⟨d, e, h1, h2, h3, h4, q⟩
def mII (g : Int → Int → Bool) : R2 := fun x y H Q => match x, y with | .int i, .int j => Q (.bl (g i j)) H | _, _ => False
theorem oII {f : Value → Value → Sem Value} {g : Int → Int → Bool} (h : OpR X f (rI0 fun i j => .bl (g i j))) : OpR X f (mII g) := by
  intro pins s σ H x y v u Q I rx ry q
  unfold mII at q
  split at q
  · exact h pins s σ H _ _ v u Q I rx ry ⟨_, _, rfl, rfl, q⟩
  · exact q.elim
theorem oLt : OpR X (compareOp .Lt) (mII fun i j => decide (i < j)) := oII op_lt
theorem oLe : OpR X (compareOp .LtE) (mII fun i j => decide (i ≤ j)) := oII op_le
theorem oGt : OpR X (compareOp .Gt) (mII fun i j => decide (j < i)) := oII op_gt
theorem oGe : OpR X (compareOp .GtE) (mII fun i j => decide (j ≤ i)) := oII op_ge
def mIsN : R2 := fun x y H Q => match y with | .non => Q (.bl (decide (x = .non))) H | _ => False
theorem oIs : OpR X (compareOp .Is) mIsN := by
  intro pins s σ H x y v u Q I rx ry h
  unfold mIsN at h
  split at h
  · exact op_isN pins s σ H _ _ v u Q I rx ry ⟨rfl, h⟩
  · exact h.elim
def mNotN : R2 := fun x y H Q => match y with | .non => Q (.bl (!decide (x = .non))) H | _ => False
theorem oIsNot : OpR X (compareOp .IsNot) mNotN := by
  intro pins s σ H x y v u Q I rx ry h
  unfold mNotN at h
  split at h
  · exact op_notN pins s σ H _ _ v u Q I rx ry ⟨rfl, h⟩
  · exact h.elim
/-- one sign in a text -/
def mInS (n : Bool) : R2 := fun x y H Q => match x, y with | .str c, .str z => c.cps.size = 1 ∧ Q (.bl (n != decide (c.cps.getD 0 0 ∈ z.cps.toList))) H | _, _ => False
theorem sign_of {c : Str} (h : c.cps.size = 1) : c = ⟨#[c.cps.getD 0 0]⟩ := by
  obtain ⟨⟨l⟩⟩ := c
  match l, h with
  | [a], _ => rfl
theorem oInS : OpR X (compareOp .In) (mInS false) := by
  intro pins s σ H x y v u Q I rx ry h
  unfold mInS at h
  split at h
  · rename_i c z
    obtain ⟨h1, h2⟩ := h
    refine op_in_sign pins s σ H _ _ v u Q I rx ry ⟨c.cps.getD 0 0, z, by rw [← sign_of h1], rfl, ?_⟩
    simpa using h2
  · exact h.elim
theorem oNotInS : OpR X (compareOp .NotIn) (mInS true) := by
  intro pins s σ H x y v u Q I rx ry h
  unfold mInS at h
  split at h
  · rename_i c z
    obtain ⟨h1, h2⟩ := h
    refine op_notIn_sign pins s σ H _ _ v u Q I rx ry ⟨c.cps.getD 0 0, z, by rw [← sign_of h1], rfl, ?_⟩
    simpa using h2
  · exact h.elim
/-! ### subscripts, len, int -/
def mIx (K : PySem.W.Frag) : R2 := fun x y H Q => match x, y with
  | .str z, .int i => z.length ≤ sizeLine ∧ ∃ c, atI z.cps.toList i = some c ∧ Q (.str ⟨#[c]⟩) H
  | .ref p, .int i => ∃ xs v, (SqL K H p xs ∨ SqT K H p xs) ∧ atI xs i = some v ∧ Q v H
  | _, _ => False
theorem xIx {K : PySem.W.Frag} (hK : X.K = K := by rfl) : IxR X (mIx K) := by
  subst hK
  intro value slice pins s σ H x y v u Q I rx ry h hs
  unfold mIx at h
  split at h
  · obtain ⟨h1, c, h2, h3⟩ := h
    exact ix_str value slice pins s σ H _ _ v u Q I rx ry ⟨_, _, _, rfl, rfl, h1, h2, h3⟩ hs
  · obtain ⟨xs, w', h1 | h1, h2, h3⟩ := h
    · exact ix_list value slice pins s σ H _ _ v u Q I rx ry ⟨_, _, _, _, rfl, rfl, h1, h2, h3⟩ hs
    · exact ix_tup value slice pins s σ H _ _ v u Q I rx ry ⟨_, _, _, _, rfl, rfl, h1, h2, h3⟩ hs
  · exact h.elim
def mLen (K : PySem.W.Frag) : List V → Hp → VK → Prop := fun xs H Q => match xs with
  | [.str z] => z.length ≤ sizeLine ∧ Q (.int z.length) H
  | [.ref p] => ∃ ys, (SqL K H p ys ∨ SqT K H p ys) ∧ Q (.int ys.length) H
  | _ => False
theorem cLen {K : PySem.W.Frag} (hK : X.K = K := by rfl) : CallR X (.builtin "len") (mLen K) := by
  subst hK
  intro pins s σ H xs us Q I r h
  unfold mLen at h
  split at h
  · exact call_len_str pins s σ H _ us Q I r ⟨_, rfl, h⟩
  · obtain ⟨ys, h1, h2⟩ := h
    exact call_len_seq pins s σ H _ us Q I r ⟨_, ys, rfl, h1, h2⟩
  · exact h.elim
def mInt1 : List V → Hp → VK → Prop := fun xs H Q => match xs with | [.int i] => Q (.int i) H | _ => False
theorem cInt : CallR X (.type "int") mInt1 := by
  intro pins s σ H xs us Q I r h
  unfold mInt1 at h
  split at h
  · exact call_int1 pins s σ H _ us Q I r (.inl ⟨_, rfl, h⟩)
  · exact h.elim
def mListOf (K : PySem.W.Frag) : List V → Hp → VK → Prop := fun xs H Q => match xs with
  | [.ref p] => ∃ ys, (SqL K H p ys ∨ SqT K H p ys) ∧ ∀ l, H l = none → Q (.ref l) (upd H l (.lst ys))
  | _ => False
theorem cListOf {K : PySem.W.Frag} (hK : X.K = K := by rfl) : CallR X (.type "list") (mListOf K) := by
  subst hK
  intro pins s σ H xs us Q I r h
  unfold mListOf at h
  split at h
  · obtain ⟨ys, h1, h2⟩ := h
    exact call_list_of pins s σ H _ us Q I r ⟨_, ys, rfl, h1, h2⟩
  · exact h.elim
/-! ### slices -/
def mSl (K : PySem.W.Frag) : V → Option Int → Option Int → Hp → VK → Prop := fun x lo hi H Q => match x with
  | .str z => z.length ≤ sizeLine ∧ Q (.str (cutS z lo hi)) H
  | .ref a => ∃ xs, SqL K H a xs ∧ ∀ p, H p = none → Q (.ref p) (upd H p (.lst (cutV xs lo hi)))
  | _ => False
theorem sSl {K : PySem.W.Frag} (hK : X.K = K := by rfl) : SlR X (mSl K) := by
  subst hK
  intro pins s σ H x v vl vu lo hi sl Q I rx hs pl pu h
  unfold mSl at h
  split at h
  · exact sl_str pins s σ H _ v vl vu lo hi sl Q I rx hs pl pu ⟨_, rfl, h⟩
  · obtain ⟨xs, h1, h2⟩ := h
    exact sl_list pins s σ H _ v vl vu lo hi sl Q I rx hs pl pu ⟨_, _, rfl, h1, h2⟩
  · exact h.elim
def mPart (te : TE) : TO := fun σ H Q => te σ H fun x H1 => match x with | .int i => Q (some i) H1 | _ => False
theorem oPart {e : Expr} {te : TE} (h : PE X e te) : PO X (some e) (mPart te) := by
  refine ⟨fun pins s σ H Q I hw => ?_⟩
  rw [evalPart_some]
  refine thn (h.run pins s σ H _ I hw) fun u s1 ⟨x, H1, I1, r1, q1⟩ => ?_
  cases x with
  | int i =>
    obtain ⟨t, rfl⟩ := r1
    exact ⟨some i, H1, I1, .int i t, q1⟩
  | _ => exact False.elim q1
/-! ### tests -/
def mT (t : TE) : TT := fun σ H Q => t σ H fun x H1 => match x with | .bl c => Q c H1 | _ => False
theorem tCm {a b : Expr} {ta tb : TE} {pos : Pos} {op : CmpOp} {r : R2} (ho : OpR X (compareOp op) r) (ha : PE X a ta) (hb : PE X b tb) (hm : behindInMarks op b = false) : PT X (.Compare a [op] [b] pos) (mT (tOp r ta tb)) := by
  refine ⟨fun pins s σ H Q I h => ?_⟩
  refine wpAny_isTrue_Compare1 (thn (ha.run pins s σ H _ I h) fun v s1 ⟨x, H1, I1, r1, q1⟩ => thn (hb.run pins s1 σ H1 _ I1 q1) fun u s2 ⟨y, H2, I2, r2, q2⟩ =>
    thn (ho pins s2 σ H2 x y v u _ I2 r1 r2 q2) fun c s3 ⟨z, H3, I3, r3, q3⟩ => ?_) hm
  cases z with
  | bl k =>
    cases r3
    exact wpAny_truthy_bool ⟨H3, I3, q3⟩
  | _ => exact False.elim q3
theorem tVal {e : Expr} {t : TE} (h : PE X e t) (he : ∀ whole, isTrue e X.env whole = (do let v ← whole; standAt e.pos; holding [v] (truthy v)) := by intro _; rfl) : PT X e (mT t) := by
  refine ⟨fun pins s σ H Q I hw => ?_⟩
  refine isTrue_plain (thn (h.run pins s σ H _ I hw) fun v s1 ⟨x, H1, I1, r1, q1⟩ => ?_) (he _)
  cases x with
  | bl k =>
    cases r1
    exact wpAny_truthy_bool ⟨H1, I1, q1⟩
  | _ => exact False.elim q1
/-- a not, as a value of a test -/
def mNotV (t : TT) : TE := fun σ H Q => t σ H fun c H1 => Q (.bl (!c)) H1
end
end Xia

/-! ### defs by one fact -/
namespace Xia
open PySem PySem.Spec PyProof.Rows L2
/-- the def called x keeps the promise sp -/
structure Dfn (P : Program) (w : World) (K : PySem.W.Frag) (mg : Str → Option Value) (base : Heap) (CX : CXT) (k : Nat) (x : Str) (ps : List Str) (sp : Sp) : Prop where
  ex : ∃ (f : Addr) (fd : FuncData), FnOk P w K mg base CX k f fd ps sp ∧ mg x = some (.ref f) ∧ PySem.W.keepIn K (.ref f) = true ∧ Binds K fd ps []
theorem Dfn.imp {P : Program} {w : World} {K : PySem.W.Frag} {mg : Str → Option Value} {base : Heap} {CX : CXT} {k : Nat} {x : Str} {ps : List Str} {sp sp' : Sp} (D : Dfn P w K mg base CX k x ps sp)
    (h : ∀ vs H Q E, sp' vs H Q E → sp vs H Q E) : Dfn P w K mg base CX k x ps sp' := by
  obtain ⟨f, fd, F, r⟩ := D.ex
  exact ⟨f, fd, F.imp h, r⟩
section
variable {X : Cx} {CX : CXT} {k : Nat} {x : Str} {ps : List Str} {sp : Sp} {E : XK} {p pos : Pos} {e : Expr} {es : List Expr} {t : TA}
theorem pC (D : Dfn X.prog X.w X.K X.mg X.base CX k x ps sp) (hr : Room k X.A) (hx : Passes CX X E) (ha : PA X (e :: es) t) (hg : Gl X x := by rfl)
    (hdb : (x == ("__debug__" : Str)) = false := by decide) (he : starEach (e :: es) X.env = (false, eval e X.env) :: starEach es X.env := by rfl) (hpl : (backTo pos (starEach es X.env)).any (·.1) = false := by rfl) :
    PE X (.Call (.Name x p) (e :: es) [] pos) (tCall sp [] E t) := by
  obtain ⟨f, fd, F, hm, hk, hb⟩ := D.ex
  exact pe_call F hr hg hm hk hb .nil hx ha hdb he hpl
/-- in a try's body: what is raised is wished for at the slots -/
theorem pCS {E : L2.St → XK} (D : Dfn X.prog X.w X.K X.mg X.base CX k x ps sp) (hr : Room k X.A) (hx : ∀ σ, PassesAt CX X σ (E σ)) (ha : PA X (e :: es) t) (hg : Gl X x := by rfl)
    (hdb : (x == ("__debug__" : Str)) = false := by decide) (he : starEach (e :: es) X.env = (false, eval e X.env) :: starEach es X.env := by rfl) (hpl : (backTo pos (starEach es X.env)).any (·.1) = false := by rfl) :
    PE X (.Call (.Name x p) (e :: es) [] pos) (tCallS sp E t) := by
  obtain ⟨f, fd, F, hm, hk, hb⟩ := D.ex
  exact pe_callS F hr hg hm hk hb hx ha hdb he hpl
end

/-! ### heaps -/
/-- all but what stands at p is as it was -/
def SameP (p : Addr) (H H' : Hp) : Prop := ∀ b o, b ≠ p → H b = some o → H' b = some o
theorem SameP.refl (p : Addr) (H : Hp) : SameP p H H := fun _ _ _ h => h
theorem SameP.trans {p : Addr} {H H1 H2 : Hp} (a : SameP p H H1) (b : SameP p H1 H2) : SameP p H H2 := fun c o n h => b c o n (a c o n h)
theorem SameP.of {p : Addr} {H H' : Hp} (h : Same H H') : SameP p H H' := fun b o _ e => h b o e
theorem same_upd {H : Hp} {p : Addr} {o : HO} (h : H p = none) : Same H (upd H p o) := fun b x e => by
  rw [upd_ne (ne_of_none e h)]
  exact e
theorem sameP_upd {H : Hp} {p : Addr} {o : HO} : SameP p H (upd H p o) := fun b x n e => by
  rw [upd_ne n]
  exact e
theorem _root_.L2.Same.tup {K : PySem.W.Frag} {H H' : Hp} {a : Addr} {xs : List V} (e : Same H H') (h : SqT K H a xs) : SqT K H' a xs := by
  rcases h with (h | ⟨o, h⟩) | h
  · exact .inl (.inl (e _ _ h))
  · exact .inl (.inr ⟨o, e _ _ h⟩)
  · exact .inr h
theorem SameP.seq {K : PySem.W.Frag} {H H' : Hp} {p a : Addr} {xs : List V} (e : SameP p H H') (n : a ≠ p) (h : SqL K H a xs) : SqL K H' a xs := by
  rcases h with (h | ⟨o, h⟩) | h
  · exact .inl (.inl (e _ _ n h))
  · exact .inl (.inr ⟨o, e _ _ n h⟩)
  · exact .inr h
theorem SameP.tup {K : PySem.W.Frag} {H H' : Hp} {p a : Addr} {xs : List V} (e : SameP p H H') (n : a ≠ p) (h : SqT K H a xs) : SqT K H' a xs := by
  rcases h with (h | ⟨o, h⟩) | h
  · exact .inl (.inl (e _ _ n h))
  · exact .inl (.inr ⟨o, e _ _ n h⟩)
  · exact .inr h
theorem _root_.L2.Same.upd_new {H H' : Hp} {p : Addr} {o : HO} (s : Same H H') (n : H p = none) : Same H (upd H' p o) := fun b x e => by
  rw [upd_ne (ne_of_none e n)]
  exact s b x e
theorem SameP.upd_new {H H' : Hp} {q p : Addr} {o : HO} (s : SameP q H H') (n : H p = none) : SameP q H (upd H' p o) := fun b x m e => by
  rw [upd_ne (ne_of_none e n)]
  exact s b x m e
theorem none_of_upd {H : Hp} {p q : Addr} {o : HO} (h : upd H p o q = none) : H q = none ∧ q ≠ p := by
  have n : q ≠ p := fun z => by rw [z, upd_same] at h; cases h
  rw [upd_ne n] at h
  exact ⟨h, n⟩
theorem ixN_n {n j : Nat} (h : j < n) : ixN n (j : Int) = some j := by
  unfold ixN
  rw [if_pos (by omega), if_pos (by omega), Int.toNat_natCast]
theorem at_int {α : Type} {xs : List α} {r : Int} (h0 : 0 ≤ r) (h1 : r < xs.length) : ∃ v ∈ xs, atI xs r = some v := by
  obtain ⟨j, rfl⟩ : ∃ j : Nat, r = j := ⟨r.toNat, by omega⟩
  have hj : j < xs.length := by omega
  exact ⟨xs[j], List.getElem_mem hj, atI_nat (List.getElem?_eq_getElem hj)⟩
theorem str_len (z : Str) : z.cps.toList.length = z.length := by simp [Str.length]
/-! ### exceptions as values -/
/-- an exception object of the own class at D, without a dict, caught or made -/
def ExK (D : Addr) (a : Addr) : HO := .ext fun h => ∃ (oe : Obj) (vs : Array Value), h.get? a = some oe ∧ Zc (.ref D) none oe ∧ oe.data = .fields vs
theorem exK_ok {P : Program} {w : World} {H : Hp} {h : Heap} {a D : Addr} {oe : Obj} {vs : Array Value} (e : h.get? a = some oe) (z : Zc (.ref D) none oe) (d : oe.data = .fields vs) : ObjOk P w H h a (ExK D a) :=
  ⟨⟨oe, vs, e, z, d⟩, ⟨oe, e⟩, fun _ _ ⟨o, v, q, r⟩ k => ⟨o, v, k o q, r⟩⟩
def ExAt (H : Hp) (a D : Addr) : Prop := H a = some (ExO (.ref D) a) ∨ H a = some (ExK D a)
theorem ExAt.inst {P : Program} {w : World} {H : Hp} {h : Heap} {a D : Addr} (x : ExAt H a D) (ok : HOk P w H h) : ∃ oe, PySem.W.InstAt h a oe D none := by
  have : ∃ (oe : Obj) (vs : Array Value), h.get? a = some oe ∧ Zc (.ref D) none oe ∧ oe.data = .fields vs := by
    rcases x with x | x
    · obtain ⟨⟨oe, vs, e, z, d, _⟩, _⟩ := ok a _ x
      exact ⟨oe, vs, e, z, d⟩
    · obtain ⟨⟨oe, vs, e, z, d⟩, _⟩ := ok a _ x
      exact ⟨oe, vs, e, z, d⟩
  obtain ⟨oe, vs, e, z, d⟩ := this
  refine ⟨oe, ?_⟩
  obtain ⟨oc, od, oda, osl⟩ := oe
  obtain ⟨h1, h2⟩ := z
  dsimp only at h1 h2 d
  subst h1 h2 d
  exact ⟨e, rfl, rfl, trivial⟩
theorem ExAt.same {H H' : Hp} {a D : Addr} (x : ExAt H a D) (s : Same H H') : ExAt H' a D := x.imp (s _ _) (s _ _)
theorem ExAt.sameP {H H' : Hp} {a D p : Addr} (x : ExAt H a D) (s : SameP p H H') (n : a ≠ p) : ExAt H' a D := x.imp (s _ _ n) (s _ _ n)
/-- isinstance of an exception object -/
def rIsX (K : PySem.W.Frag) : List V → Hp → VK → Prop := fun xs H Q => ∃ (a D : Addr) (c : V) (u : Value) (b : Bool), xs = [.ref a, c] ∧ ClsV c u ∧ ExAt H a D ∧ ExcC K D ∧ PySem.W.kitOne K (.ref D) u = some b ∧ Q (.bl b) H
theorem cIsX {X : Cx} : CallR X (.builtin "isinstance") (rIsX X.K) := by
  intro pins s σ H xs us Q I r h
  obtain ⟨a, D, c, u, b, rfl, k, hx, C, e, q⟩ := h
  obtain ⟨u1, u2, rfl, r1, r2⟩ := vals2 r
  have e2 := k.eq r2
  subst e2
  cases (show u1 = Value.ref a from r1)
  obtain ⟨oe, J⟩ := hx.inst I.hok
  exact PySem.W.kia_one (PySem.W.handS_kitx_exc C.hg C.hk C.hs C.hd C.ha C.hn C.ht C.hm) I.kIn J e (fun z => nomatch z) fun tk => ⟨.bl b, H, I.tok tk, rfl, q⟩
/-- both: of a plain value or of an exception object -/
def rIs (K : PySem.W.Frag) : List V → Hp → VK → Prop := fun xs H Q => rIsi K xs H Q ∨ rIsX K xs H Q
theorem cIs {X : Cx} {K : PySem.W.Frag} (hK : X.K = K := by rfl) : CallR X (.builtin "isinstance") (rIs K) := by
  subst hK
  intro pins s σ H xs us Q I r h
  rcases h with h | h
  · exact call_isi pins s σ H xs us Q I r h
  · exact cIsX pins s σ H xs us Q I r h
/-- a caught exception is tracked from now on -/
theorem Inv.track {X : Cx} {pins : List (Addr × Obj)} {σ : L2.St} {H : Hp} {s : Shared} {a : Addr} {o : HO} (I : Inv X pins σ H s) (na : H a = none) (nL : a ≠ X.env.locals) (nF : a ∉ X.fs)
    (nC : ∀ x c, X.env.cells.lookup x = some c → c ≠ a) (nP : ∀ p ∈ X.pn ++ pins, p.1 ≠ a) (n0 : X.s_0.heap.get? a = none) (new : ObjOk X.prog X.w (upd H a o) s.heap a o) : Inv X pins σ (upd H a o) s := by
  have ne : ∀ b u, H b = some u → b ≠ a := fun b u e => ne_of_none e na
  refine ⟨I.ok, I.os, I.bare, ⟨fun b ob e n hb hx => I.base.keep b ob e n hb hx, fun b ob e n hb hx => I.base.slot b ob e n hb hx, fun b ob e n hx => ?_, I.base.there, fun b xs e => ?_, fun b ob u e => ?_, fun b ps e => ?_⟩, I.loc, I.cell, ?_, fun x c e => ?_, fun p hp => ?_, fun b u e => ?_, I.len⟩
  · rw [upd_ne (fun z => by rw [z, n0] at e; cases e)]
    exact I.base.free b ob e n hx
  · have q := I.base.tups b xs e
    rw [upd_ne (ne b _ q)]
    exact q
  · have q := I.base.frzs b ob u e
    rw [upd_ne (ne b _ q)]
    exact q
  · obtain ⟨m, q⟩ := I.base.tbls b ps e
    exact ⟨m, by rw [upd_ne (ne b _ q)]; exact q⟩
  · rw [upd_ne (Ne.symm nL)]
    exact I.free
  · rw [upd_ne (nC x c e)]
    exact I.freeC x c e
  · obtain ⟨e, n, h1, h2, h3⟩ := I.pin p hp
    exact ⟨e, by rw [upd_ne (nP p hp)]; exact n, h1, h2, h3⟩
  · by_cases hb : b = a
    · subst hb
      rw [upd_same] at e
      cases e
      exact new
    · rw [upd_ne hb] at e
      exact (I.hok b u e).stay (fun c v _ q => q) (fun c q => by rw [upd_ne (ne c _ q)]; exact q) fun c xs q => by rw [upd_ne (ne c _ q)]; exact q
theorem Inv.suiteN {X : Cx} {pins : List (Addr × Obj)} {σ : L2.St} {H : Hp} {s : Shared} (I : Inv X pins σ H s) (a : Addr) : Inv (X.suite a (X.pn ++ pins)) [] σ H s :=
  ⟨I.ok.suite _ _, I.os, I.bare, I.base, I.loc, I.cell, I.free, I.freeC, fun p hp => I.pin p (by rw [List.append_nil] at hp; exact hp), I.hok, I.len⟩
theorem Inv.unsuiteN {X : Cx} {pins pn' : List (Addr × Obj)} {σ : L2.St} {H : Hp} {s : Shared} {a : Addr} (I : Inv (X.suite a (X.pn ++ pins)) pn' σ H s) (ok : X.Ok) : Inv X pins σ H s :=
  ⟨ok, I.os, I.bare, I.base, I.loc, I.cell, I.free, I.freeC, fun p hp => I.pin p (List.mem_append_left _ hp), I.hok, I.len⟩
/-- what the clause «except x as n» wishes, where the exception outlives it: slot i is n's; in the suite the exception stands at a, tracked -/
def wCt (K : PySem.W.Frag) (c : Value) (i : Nat) (ts : TS) (Wout : WX) (D : Ends) : WX := fun cls d σ H =>
  ∃ b, PySem.W.exmOne K cls c = some b ∧ (b = true → ∃ C, cls = .ref C ∧ d = none ∧ ∀ a, H a = none → ts { nx := fun σ' H' => D.nx (σ'.set i none) H', rt := D.rt, bk := fun σ' H' => D.bk (σ'.set i none) H', ct := fun σ' H' => D.ct (σ'.set i none) H' } (σ.set i (some (.ref a))) (upd H a (ExK C a))) ∧
    (b = false → Wout cls d σ H)
section
variable {X : Cx} {x n : Str} {c : Value} {i : Nat} {body suite : List Stmt} {b₀ : Stmt} {np pos pos' : Pos} {tb : WX → TS} {ts : TS} {Wout : WX}
theorem sCatch (hs : X.stack = X.env :: X.outer) (hf : X.env.frame = some X.env.locals) (hex : X.ex = []) (hN : X.N.Nodup) (hi : X.N[i]? = some n) (hln : X.env.kindOf n = some .local) (hc : Names X x c) (tk : Takes X Wout)
    (hb : ∀ (W : WX) (pn : List (Addr × Obj)) (xe : Value → Shared → Prop), Takes (X.tr pn xe) W → PassesOwn (model X.prog X.w) X.A X.env xe → PSs (X.tr pn xe) body (tb W))
    (hsu : ∀ (a : Addr) (pn : List (Addr × Obj)), PSs (X.suite a pn) (b₀ :: suite) ts) :
    PS X (.Try body [.ExceptHandler (some (.Name x np)) (some n) (b₀ :: suite) pos'] [] [] pos) (fun D σ H => tb (wCt X.K c i ts Wout D) D σ H) := by
  refine ⟨fun pins s σ H D I h => ?_⟩
  have ok := I.ok
  have hfr : X.A.frames = some (X.env :: X.outer) := by rw [ok.frames, hs]
  have hloc : Loc X.env.scope n := .inl hln
  refine wpAny_Try_except ?_
  refine wpAny_mono ((hb (wCt X.K c i ts Wout D) (X.pn ++ pins) (fun e s₁ => wpAny (model X.prog X.w) X.A (noteFrame e X.env) (fun _ s₂ => wpAny (model X.prog X.w) X.A (setFlight e none) (fun _ s₃ =>
    wpAny (model X.prog X.w) X.A (handleBy e X.env [.ExceptHandler (some (.Name x np)) (some n) (b₀ :: suite) pos']) (SP X pins D) X.xe s₃) X.xe s₂) X.xe s₁) (fun u s' xx => ?_) PassesOwn.looking).run [] s σ H D (I.toTry _) h) (fun f s1 hsp => ?_) (fun e s1 he => he)
  · -- the catch
    obtain ⟨a, B, sI, pins', σ', H', cls, d, rfl, J', nb, up, sky, na, os, ag, b, hb1, hyes, hno⟩ := xx
    have J : Inv X pins σ' H' sI := J'.ofTry ok
    have sky' : Sky B (X.env :: X.outer) a (Zc cls d) X.env.locals s'.heap := by rw [← hs]; exact sky
    show wpAny (model X.prog X.w) X.A (noteFrame (.ref a) X.env) _ _ _
    refine Sky.land Zc.steady hfr hf sky' fun h3 fl3 up3 => ?_
    have J3 : Inv X pins σ' H' { s' with heap := h3 } := J.landed nb fl3.1 (up.trans up3) os ag
    obtain ⟨oe3, vs3, he3, hz3, hd3⟩ := fl3.there
    have hB : B.get? a = none := fl3.2.1
    have notFr : ∀ {h : Heap} {o : Obj} {vs : Array Value}, h.FunFrames B (X.env :: X.outer) → h.get? a = some o → o.data = .fields vs → a ∉ frs (X.env :: X.outer) := fun {h o vs} ff e dd hm => by
      obtain ⟨_, o', e', hnf⟩ := ff.mem hm
      rw [e] at e'; cases e'
      exact hnf _ dd
    have nfr := notFr fl3.2.2.1 he3 hd3
    have nL : a ≠ X.env.locals := fun z => nfr (List.mem_filterMap.mpr ⟨X.env, List.mem_cons_self, by rw [hf, z]⟩)
    have nF : a ∉ X.fs := fun hm => by
      obtain ⟨e, he, q⟩ := List.mem_filterMap.mp hm
      exact nfr (List.mem_filterMap.mpr ⟨e, List.mem_cons_of_mem _ he, q⟩)
    have nI : ∀ b o, sI.heap.get? b = some o → b ≠ X.env.locals → b ∉ X.fs → b ≠ a := fun b o e h1 h2 z => by
      subst z
      have q := nb b o e fun hm => by rw [hs] at hm; exact nfr hm
      rw [hB] at q; cases q
    have n0 : X.s_0.heap.get? a = none := by
      cases e : X.s_0.heap.get? a with
      | none => rfl
      | some o =>
        obtain ⟨o', e'⟩ := J.base.there a o e (by rw [hex]; exact fun z => nomatch z)
        exact absurd rfl (nI a o' e' nL nF)
    have nP : ∀ p ∈ X.pn ++ pins, p.1 ≠ a := fun p hp => by
      obtain ⟨e, _, h1, h2, _⟩ := J.pin p hp
      exact nI p.1 p.2 e h1 h2
    have S3 := J3.suite he3 hd3 na nL nF
    refine wpAny_handleBy_cons (codeAny_handlers_test ?_) (by intro q; cases q)
    have LT : PySem.W.Looks (model X.prog X.w) h3 (typeOf (.ref a)) cls := fun A Q E s k q => wpAny_typeOf_ref (k _ _ he3) (by rw [hz3.1]; exact q)
    have LM := PySem.W.exm_one (M := model X.prog X.w) (J3.kIn) LT hb1
    have test : ∀ {Q : Value → Shared → Prop} {E : Value → Shared → Prop}, Q c { s' with heap := h3 } → wpAny (model X.prog X.w) (X.A.mark (some (.ref a))) (eval (.Name x np) X.env) Q E { s' with heap := h3 } := fun {Q E} q => by
      obtain ⟨hg, hdbg, hm | ⟨hm, hv, hnn⟩⟩ := hc
      · exact ld_glob (X := X.suite a ((a, oe3) :: (X.pn ++ pins))) S3 hg hm q hdbg
      · exact ld_blt (X := X.suite a ((a, oe3) :: (X.pn ++ pins))) S3 hg hm hv q hnn hdbg
    refine test (LM.here ?_)
    cases b with
    | true =>
      obtain ⟨C, e1, e2, hy2⟩ := hyes rfl
      subst e1
      subst e2
      refine codeAny_handlers_suite_as ?_
      refine HandSPX.lands_againZ fl3 fun h4 fl4 up4 => ?_
      have J4 : Inv X pins σ' H' { s' with heap := h4 } := J.landed nb fl4.1 ((up.trans up3).trans up4) os ag
      obtain ⟨oe4, vs4, he4, hz4, hd4⟩ := fl4.there
      have nC : ∀ x c, X.env.cells.lookup x = some c → c ≠ a := fun x c e z => by
        obtain ⟨v, o, ho, hd⟩ := J4.cell x c e
        rw [z] at ho
        have e1 := ho.symm.trans he4
        cases e1
        rw [hd4] at hd; cases hd
      have T4 : Inv X pins σ' (upd H' a (ExK C a)) { s' with heap := h4 } := Inv.track J4 na nL nF nC nP n0 (exK_ok he4 hz4 hd4)
      have S4 := Inv.suiteN T4 a
      refine store_ok (X := X.suite a (X.pn ++ pins)) (v := .ref a) S4 hN hi hloc rfl (fun s5 S5 => ?_) (.inr hln)
      refine wpAny_mono ((hsu a (X.pn ++ pins)).run [] s5 _ _ _ S5 (hy2 a na)) (fun f s6 hsp => ?_) (fun _ _ z => False.elim z)
      have end_ : ∀ {σ6 : L2.St} {H6 : Hp} {Q : Shared → Prop}, Inv (X.suite a (X.pn ++ pins)) [] σ6 H6 s6 → (∀ s7, Inv X pins (σ6.set i none) H6 s7 → Q s7) →
          wpAny (model X.prog X.w) X.A (do bindName X.env n .none; unbindBehindTheSuite X.env n pos') (fun _ s7 => Q s7) X.xe s6 := fun {σ6 H6 Q} S6 hq => gone_ok (Inv.unsuiteN S6 ok) hN hi hln hq
      cases f with
      | next =>
        obtain ⟨σ6, H6, S6, q6⟩ := hsp
        exact end_ S6 fun s7 J7 => ⟨_, _, J7, q6⟩
      | brk =>
        obtain ⟨σ6, H6, S6, q6⟩ := hsp
        exact end_ S6 fun s7 J7 => ⟨_, _, J7, q6⟩
      | cont =>
        obtain ⟨σ6, H6, S6, q6⟩ := hsp
        exact end_ S6 fun s7 J7 => ⟨_, _, J7, q6⟩
      | ret u =>
        obtain ⟨v6, σ6, H6, S6, r6, q6⟩ := hsp
        exact end_ S6 fun s7 J7 => ⟨_, _, _, J7, r6, q6⟩
    | false =>
      show wpAny _ X.A (handleBy (.ref a) X.env []) _ _ _
      refine wpAny_handleBy_nil ?_
      obtain ⟨k1, k2, k3, oe, vs, T, oT, ts', he, hz, hd, h1, hr⟩ := id fl3
      unfold PySem.passOn
      refine wpAny_bind (wpAny_field he hd h1 ?_)
      rw [if_neg (show ¬ ((Value.ref T == Value.none) = true) from by simp)]
      have fin : wpAny (model X.prog X.w) X.A (setFlight (.ref a) X.env.frame) (fun _ s4 => wpAny (model X.prog X.w) X.A (throw (.ref a) : Sem Flow) (SP X pins D) X.xe s4) X.xe { s' with heap := h3 } := by
        rw [hf]
        refine HandSPX.setFlight_upZ fl3 fun h4 hh4 up4 => wpAny_throw (tk _ _ ?_)
        exact ⟨a, B, sI, pins, σ', H', cls, d, rfl, J, nb, (up.trans up3).trans up4, .inr (.inr (by rw [hs]; exact hh4)), na, os, ag, hno rfl⟩
      first
        | exact wpAny_bind (wpAny_pure (wpAny_bind fin))
        | exact wpAny_bind fin
  · cases f with
    | next =>
      obtain ⟨σ', H', J', q⟩ := hsp
      exact wpAny_execs_nil ⟨σ', H', J'.ofTry ok, q⟩
    | brk =>
      obtain ⟨σ', H', J', q⟩ := hsp
      exact ⟨σ', H', J'.ofTry ok, q⟩
    | cont =>
      obtain ⟨σ', H', J', q⟩ := hsp
      exact ⟨σ', H', J'.ofTry ok, q⟩
    | ret u =>
      obtain ⟨v, σ', H', J', r, q⟩ := hsp
      exact ⟨v, σ', H', J'.ofTry ok, r, q⟩
end
end Xia

/-! ### promises by the number of arguments; walks of any kind -/
namespace Xia
open PySem PySem.Spec PyProof.Rows L2
def Sp1 (B : V → Hp → VK → XK → Prop) : Sp := fun vs H Q E => match vs with | [x] => B x H Q E | _ => False
def Sp2 (B : V → V → Hp → VK → XK → Prop) : Sp := fun vs H Q E => match vs with | [x, y] => B x y H Q E | _ => False
def Sp3 (B : V → V → V → Hp → VK → XK → Prop) : Sp := fun vs H Q E => match vs with | [x, y, z] => B x y z H Q E | _ => False
def Sp4 (B : V → V → V → V → Hp → VK → XK → Prop) : Sp := fun vs H Q E => match vs with | [x, y, z, u] => B x y z u H Q E | _ => False
section
variable {vs : List V} {H : Hp} {Q : VK} {E : XK}
theorem Sp1.of {B : V → Hp → VK → XK → Prop} (h : Sp1 B vs H Q E) : ∃ x, vs = [x] ∧ B x H Q E := by
  match vs, h with
  | [x], h => exact ⟨x, rfl, h⟩
  | [], h => exact False.elim h
  | _ :: _ :: _, h => exact False.elim h
theorem Sp2.of {B : V → V → Hp → VK → XK → Prop} (h : Sp2 B vs H Q E) : ∃ x y, vs = [x, y] ∧ B x y H Q E := by
  match vs, h with
  | [x, y], h => exact ⟨x, y, rfl, h⟩
  | [], h => exact False.elim h
  | [_], h => exact False.elim h
  | _ :: _ :: _ :: _, h => exact False.elim h
theorem Sp3.of {B : V → V → V → Hp → VK → XK → Prop} (h : Sp3 B vs H Q E) : ∃ x y z, vs = [x, y, z] ∧ B x y z H Q E := by
  match vs, h with
  | [x, y, z], h => exact ⟨x, y, z, rfl, h⟩
  | [], h => exact False.elim h
  | [_], h => exact False.elim h
  | [_, _], h => exact False.elim h
  | _ :: _ :: _ :: _ :: _, h => exact False.elim h
theorem Sp4.of {B : V → V → V → V → Hp → VK → XK → Prop} (h : Sp4 B vs H Q E) : ∃ x y z u, vs = [x, y, z, u] ∧ B x y z u H Q E := by
  match vs, h with
  | [x, y, z, u], h => exact ⟨x, y, z, u, rfl, h⟩
  | [], h => exact False.elim h
  | [_], h => exact False.elim h
  | [_, _], h => exact False.elim h
  | [_, _, _], h => exact False.elim h
  | _ :: _ :: _ :: _ :: _ :: _, h => exact False.elim h
theorem Sp1.len {B : V → Hp → VK → XK → Prop} (h : Sp1 B vs H Q E) : vs.length = 1 := by
  obtain ⟨x, rfl, _⟩ := h.of; rfl
theorem Sp2.len {B : V → V → Hp → VK → XK → Prop} (h : Sp2 B vs H Q E) : vs.length = 2 := by
  obtain ⟨x, y, rfl, _⟩ := h.of; rfl
theorem Sp3.len {B : V → V → V → Hp → VK → XK → Prop} (h : Sp3 B vs H Q E) : vs.length = 3 := by
  obtain ⟨x, y, z, rfl, _⟩ := h.of; rfl
theorem Sp4.len {B : V → V → V → V → Hp → VK → XK → Prop} (h : Sp4 B vs H Q E) : vs.length = 4 := by
  obtain ⟨x, y, z, u, rfl, _⟩ := h.of; rfl
end
section
variable {P : Program} {w : World} {K : PySem.W.Frag} {mg : Str → Option Value} {base : Heap} {x : Str} {st : Stmt} {f : Addr} {fd : FuncData} {N ps : List Str} {k : Nat} {sp : Sp}
/-- a def that lets nothing out -/
theorem Dfn.mk0 (F : Fun K x x st f fd) (hm : mg x = some (.ref f)) (hb : Binds K fd ps []) (S : FnScope N ps (defScope st)) (len : ∀ vs H Q E, sp vs H Q E → vs.length = ps.length)
    (hbody : ∀ (cdv : Value) (A : Around) (outer : List Env) (s : Shared) (H : Hp) (vs : List V) (Q : VK) (E : XK), Room k (A.deeper (envOfC x (defScope st) s.heap.objs.size f cdv)) → sp vs H Q E →
      ∃ t, PSs (cxOf CX0 P w K mg base N x (defScope st) f cdv A outer s H E).nox (defBody st) t ∧ t { nx := fun _ H' => Q .non H', rt := Q } (start N vs) H) : Dfn P w K mg base CX0 (k + 1) x ps sp :=
  ⟨f, fd, F.ok S len hbody, hm, F.kp, hb⟩
/-- a def that may raise -/
theorem Dfn.mkX (F : Fun K x x st f fd) (hm : mg x = some (.ref f)) (hb : Binds K fd ps []) (S : FnScope N ps (defScope st)) (len : ∀ vs H Q E, sp vs H Q E → vs.length = ps.length)
    (hbody : ∀ (cdv : Value) (A : Around) (outer : List Env) (s : Shared) (H : Hp) (vs : List V) (Q : VK) (E : XK), Room k (A.deeper (envOfC x (defScope st) s.heap.objs.size f cdv)) → sp vs H Q E →
      ∃ t, PSs (cxOf (L2.CX P w) P w K mg base N x (defScope st) f cdv A outer s H E) (defBody st) t ∧ t { nx := fun _ H' => Q .non H', rt := Q } (start N vs) H) : Dfn P w K mg base (L2.CX P w) (k + 1) x ps sp :=
  ⟨f, fd, F.okX S len hbody, hm, F.kp, hb⟩
end
section
variable {X : Cx} {tg e : Expr} {te : TE}
/-- a text, a list or a tuple is walked -/
def iAny (K : PySem.W.Frag) (te : TE) : TI := fun σ H R => te σ H fun v H1 => match v with
  | .str z => R (Its z) H1
  | .ref a => (∃ xs, SqL K H1 a xs ∧ R (Itl K a) H1) ∨ (∃ xs, SqT K H1 a xs ∧ R (Itt K a) H1)
  | _ => False
def iVal (K : PySem.W.Frag) (v : V) : TI := fun _ H R => match v with
  | .str z => R (Its z) H
  | .ref a => (∃ xs, SqL K H a xs ∧ R (Itl K a) H) ∨ (∃ xs, SqT K H a xs ∧ R (Itt K a) H)
  | _ => False
theorem pI {K : PySem.W.Frag} (he : PE X e te) (hK : X.K = K := by rfl) : PI X tg e (iAny K te) := by
  subst hK
  refine ⟨fun pins s σ H R I h => ?_⟩
  refine thn (he.run pins s σ H _ I h) fun v s1 ⟨y, H1, I1, r1, q⟩ => ?_
  cases y with
  | str x =>
    obtain ⟨t, rfl⟩ := r1
    cases ha : x.cps.all (· < 128)
    · exact wpAny_pyIter_wide ha (pi_one (tk := s1.toks) I1 _ (turn_str _ x t "str_iterator" (.inr rfl)) ⟨_, Heap.get?_push_size _ rfl, rfl, rfl⟩ q)
    · exact wpAny_pyIter_ascii ha (pi_one (tk := s1.toks) I1 _ (turn_str _ x t "str_ascii_iterator" (.inl rfl)) ⟨_, Heap.get?_push_size _ rfl, rfl, rfl⟩ q)
  | ref a =>
    cases (show v = Value.ref a from r1)
    rcases q with ⟨xs, hq, q⟩ | ⟨xs, hq, q⟩
    · obtain ⟨its, rv, p, hz⟩ := I1.list hq
      refine wpAny_pyIter_list p.isList ?_
      refine ⟨s1.heap.objs.size, [s1.heap.objs.size], _, _, H1, rfl, I1.kept (t' := s1.toks) fun b o e => Heap.get?_push_of_some _ e, turn_list a _, ⟨_, Heap.get?_push_size _ rfl, rfl, rfl⟩, fun b hb => ?_, q⟩
      have e : b = s1.heap.objs.size := by simpa using hb
      subst e
      exact I1.fpOk (Nat.le_refl _) (I1.hok.fresh (Nat.le_refl _))
    · obtain ⟨its, rv, p, hz⟩ := I1.tuple hq
      refine wpAny_pyIter_tuple (show s1.heap.IsTuple a its.toArray from p) ?_
      refine ⟨s1.heap.objs.size, [s1.heap.objs.size], _, _, H1, rfl, I1.kept (t' := s1.toks) fun b o e => Heap.get?_push_of_some _ e, turn_tuple a _, ⟨_, Heap.get?_push_size _ rfl, rfl, rfl⟩, fun b hb => ?_, q⟩
      have e : b = s1.heap.objs.size := by simpa using hb
      subst e
      exact I1.fpOk (Nat.le_refl _) (I1.hok.fresh (Nat.le_refl _))
  | _ => exact False.elim q
end
end Xia

/-! ### an exception's class -/
namespace Xia
open PySem PySem.Spec PyProof.Rows L2
/-- a constant of the module -/
def Cst (mg : Str → Option Value) (x : Str) (v : V) : Prop := ∃ u, mg x = some u ∧ RelV v u
theorem pK {X : Cx} {x : Str} {v : V} {pos : Pos} (h : Cst X.mg x v) (hg : Gl X x := by rfl) (hd : (x == ("__debug__" : Str)) = false := by decide) : PE X (.Name x pos) (tC v) := by
  obtain ⟨u, h1, h2⟩ := h
  exact pe_glob hg h1 h2 hd
abbrev veAll : List Value := [.type "ValueError", .type "Exception", .type "BaseException", .type "object"]
structure XC (K : PySem.W.Frag) (mg : Str → Option Value) (x : Str) (C : Addr) : Prop where
  gC : mg x = some (.ref C)
  ex : PySem.W.excIn K C veAll "ValueError.__new__" = true
  kp : PySem.W.keepIn K (.ref C) = true
  sub : PySem.W.subIn K (.ref C) (.type "BaseException") = some true
  ty : PySem.W.typeIn K (.ref C) = some (.type "type")
  cls : ExcC K C
def excCB (K : PySem.W.Frag) (C : Addr) : Bool :=
  PySem.W.keepIn K (.ref C) && PySem.W.subIn K (.ref C) (.type "BaseException") == some true && PySem.W.typeIn K (.ref C) == some (.type "type") &&
  PySem.W.findIn K (.ref C) "__getattribute__" == some (some (.builtin "BaseException.__getattribute__")) && PySem.W.findIn K (.ref C) "__getattr__" == some none && PySem.W.hasDictIn K C &&
  PySem.W.findIn K (.ref C) "__class__" == some (some (.builtin "object.__class__")) && PySem.W.specialIn K (.builtin "object.__class__") "__get__" == some (some (.builtin "getset_descriptor.__get__")) &&
  PySem.W.takesIn K (.builtin "object.__class__") == some true && PySem.W.mroIn K C (.type "object") == some true
theorem XC.of {K : PySem.W.Frag} {h : Heap} {mg : Str → Option Value} {x : Str} {C : Addr} (X : K.In h) (G : h.Ns mainGlobals mg) (e : PySem.W.nsIn K mainGlobals x = some (some (.ref C)))
    (y : PySem.W.excIn K C veAll "ValueError.__new__" = true) (w : excCB K C = true) : XC K mg x C := by
  unfold excCB at w
  simp only [Bool.and_eq_true, beq_iff_eq] at w
  obtain ⟨⟨⟨⟨⟨⟨⟨⟨⟨w1, w2⟩, w3⟩, w4⟩, w5⟩, w6⟩, w7⟩, w8⟩, w9⟩, w10⟩ := w
  exact ⟨PySem.W.mg_of X G e, y, w1, w2, w3, ⟨w4, w5, w2, w6, w7, w8, w9, w10⟩⟩
theorem XC.rs {X : Cx} {x : Str} {C : Addr} (c : XC X.K X.mg x C) : Raises X (.ref C) := raises_own c.sub c.ty
theorem XC.names {X : Cx} {x : Str} {C : Addr} (c : XC X.K X.mg x C) (hg : Gl X x := by rfl) (hd : (x == ("__debug__" : Str)) = false := by decide) : Names X x (.ref C) := ⟨hg, hd, .inl c.gC⟩
/-- what isinstance of the own classes answers: rows by columns -/
def kitTab (K : PySem.W.Frag) (ts cs : List Value) (r : List (List Bool)) : Bool :=
  (ts.zip r).all fun p => (cs.zip p.2).all fun q => PySem.W.kitOne K p.1 q.1 == some q.2
theorem all_ix {α : Type} {p : α → Bool} {l : List α} (h : l.all p = true) {i : Nat} {x : α} (e : l[i]? = some x) : p x = true := List.all_eq_true.mp h x (List.mem_of_getElem? e)
theorem kitTab_at {K : PySem.W.Frag} {ts cs : List Value} {r : List (List Bool)} (h : kitTab K ts cs r = true) {i j : Nat} {t c : Value} {row : List Bool} {b : Bool} (e1 : ts[i]? = some t) (e2 : r[i]? = some row) (e3 : cs[j]? = some c) (e4 : row[j]? = some b) : PySem.W.kitOne K t c = some b := by
  unfold kitTab at h
  have z1 : (ts.zip r)[i]? = some (t, row) := by rw [List.getElem?_zip_eq_some]; exact ⟨e1, e2⟩
  have q := all_ix h z1
  have z2 : (cs.zip row)[j]? = some (c, b) := by rw [List.getElem?_zip_eq_some]; exact ⟨e3, e4⟩
  have q2 := all_ix q z2
  exact beq_iff_eq.mp q2
/-! ### data -/
theorem dp_bls {K : PySem.W.Frag} {H : Hp} : ∀ bs : List Bool, DpAll K H (bs.map V.bl) (bs.map PyData.bool)
  | [] => .nil
  | b :: r => .cons (.bl b) (dp_bls r)
theorem bls_lay : ∀ bs : List Bool, PyData.canLayAll0 (bs.map PyData.bool) = true ∧ PyData.depthAll (bs.map PyData.bool) = 0
  | [] => ⟨rfl, rfl⟩
  | b :: r => by
    obtain ⟨h1, h2⟩ := bls_lay r
    refine ⟨?_, ?_⟩
    · show (PyData.canLay0 (.bool b) && PyData.canLayAll0 (r.map PyData.bool)) = true
      rw [h1]; rfl
    · show max (PyData.depth (.bool b)) (PyData.depthAll (r.map PyData.bool)) = 0
      rw [h2]; rfl
theorem canLay_bls (bs : List Bool) : (PyData.list (bs.map PyData.bool)).canLay0 = true ∧ (PyData.list (bs.map PyData.bool)).depth ≤ 64 := by
  obtain ⟨h1, h2⟩ := bls_lay bs
  refine ⟨h1, ?_⟩
  show PyData.depthAll (bs.map PyData.bool) + 1 ≤ 64
  omega
theorem eqb_bls {K : PySem.W.Frag} {H : Hp} {p q : Addr} {bs cs : List Bool} (h1 : SqL K H p (bs.map V.bl)) (h2 : SqL K H q (cs.map V.bl)) (e : bs = cs) : EqB K H (.ref p) (.ref q) true := by
  subst e
  obtain ⟨c1, c2⟩ := canLay_bls bs
  have sh : SeqAt.shaped (PyData.list (bs.map PyData.bool)) = true := by
    unfold SeqAt.shaped
    rw [c1, decide_eq_true c2]
    rfl
  exact ⟨_, _, .lst h1 (dp_bls bs), .lst h2 (dp_bls bs), sh, sh, (SeqAt.eqv_refl _ c1).symm⟩
/-- a text may be repeated so often -/
theorem mulOk {x : Str} {n : Int} (h0 : 0 ≤ n) (h1 : n ≤ 1000000) (h2 : x.length * n.toNat ≤ 16777216) (h3 : x.length ≤ 1000000) : MulOk x n := by
  have hz := sizeLine_eq
  refine ⟨?_, fun c _ => ?_, fun _ _ => ?_⟩
  · rw [decide_eq_false (by omega), decide_eq_false (by omega)]; rfl
  · have e : (2 ^ 63 - 1 : Int) / n ≥ 9000000000000 := by
      refine Int.le_ediv_of_mul_le (by omega) ?_
      omega
    omega
  · unfold Builtin.Str.tooLong
    rw [decide_eq_false (by omega)]
end Xia

set_option Elab.async false
set_option linter.all false
set_option maxRecDepth 100000
set_option maxHeartbeats 4000000
/-! ### defs in which a list's text is made: no such text is under way around them -/
namespace Xia
open PySem PySem.Spec PyProof.Rows L2
abbrev NoRep (A : Around) : Prop := A.guards = some []
structure FnG (P : Program) (w : World) (K : PySem.W.Frag) (mg : Str → Option Value) (base : Heap) (CX : CXT) (k : Nat) (f : Addr) (fd : FuncData) (ps : List Str) (sp : Sp) : Prop where
  sz : ∀ ws H Q E, sp ws H Q E → ws.length = ps.length
  go : ∀ (A : Around) (out : List Env) (s : Shared) (H : Hp) (ar : Args) (us : List Value) (ws : List V) (Q : VK) (E : XK), Room k A → NoRep A → Env0 P w K mg base A out s H →
    BindsTo s fd ar (ps.zip us) → Vals ws us → sp ws H Q E → codeAny (model P w) A (.call (.ref f) ar) (CR CX out P w H s Q E) s
theorem FnG.of {P : Program} {w : World} {K : PySem.W.Frag} {mg : Str → Option Value} {base : Heap} {CX : CXT} {k : Nat} {f : Addr} {fd : FuncData} {ps : List Str} {sp : Sp} (F : FnOk P w K mg base CX k f fd ps sp) : FnG P w K mg base CX k f fd ps sp :=
  ⟨F.len, fun A out s H ar us ws Q E hr _ => F.run A out s H ar us ws Q E hr⟩
structure DfnG (P : Program) (w : World) (K : PySem.W.Frag) (mg : Str → Option Value) (base : Heap) (CX : CXT) (k : Nat) (x : Str) (ps : List Str) (sp : Sp) : Prop where
  ex : ∃ (f : Addr) (fd : FuncData), FnG P w K mg base CX k f fd ps sp ∧ mg x = some (.ref f) ∧ PySem.W.keepIn K (.ref f) = true ∧ Binds K fd ps []
section
variable {P : Program} {w : World} {K : PySem.W.Frag} {mg : Str → Option Value} {base : Heap} {x : Str} {st : Stmt} {f : Addr} {fd : FuncData} {N ps : List Str} {k : Nat} {sp : Sp}
theorem fnG_of (F : Fun K x x st f fd) (S : FnScope N ps (defScope st)) (len : ∀ ws H Q E, sp ws H Q E → ws.length = ps.length)
    (hbody : ∀ (cdv : Value) (A : Around) (out : List Env) (s : Shared) (H : Hp) (ws : List V) (Q : VK) (E : XK), Room k (A.deeper (envOfC x (defScope st) s.heap.objs.size f cdv)) → NoRep A → PySem.W.codeIn K cdv x = true → sp ws H Q E →
      (∃ (oc kV doc pm ct : Value) (od an : Option Addr) (osl : Array (Option Value)), K.lookup f = some ⟨oc, od, .func (PySem.W.fnOf x x (defArgs st) (defBody st) (defScope st) .none kV doc pm an cdv ct), osl⟩) →
      ∃ t, PSs (cxOf CX0 P w K mg base N x (defScope st) f cdv A out s H E).nox (defBody st) t ∧ t { nx := fun _ H' => Q .non H', rt := Q } (start N ws) H) : FnG P w K mg base CX0 (k + 1) f fd ps sp := by
  obtain ⟨oc, od, kV, doc, pm, an, cdv, ct, osl, rfl, lk, hcd⟩ := F.ex
  refine ⟨len, fun A out s H ar us ws Q E hr hg e0 hb r h => ?_⟩
  refine LamX.run_ofS lk hcd S hr e0 hb r (len _ _ _ _ h) fun hr' => ?_
  obtain ⟨t, ht, hq⟩ := hbody cdv A out s H ws Q E hr' hg hcd h ⟨_, _, _, _, _, _, _, _, lk⟩
  exact ⟨t, ht.nox, hq⟩
theorem DfnG.mk0 (F : Fun K x x st f fd) (hm : mg x = some (.ref f)) (hb : Binds K fd ps []) (S : FnScope N ps (defScope st)) (len : ∀ ws H Q E, sp ws H Q E → ws.length = ps.length)
    (hbody : ∀ (cdv : Value) (A : Around) (out : List Env) (s : Shared) (H : Hp) (ws : List V) (Q : VK) (E : XK), Room k (A.deeper (envOfC x (defScope st) s.heap.objs.size f cdv)) → NoRep A → PySem.W.codeIn K cdv x = true → sp ws H Q E →
      (∃ (oc kV doc pm ct : Value) (od an : Option Addr) (osl : Array (Option Value)), K.lookup f = some ⟨oc, od, .func (PySem.W.fnOf x x (defArgs st) (defBody st) (defScope st) .none kV doc pm an cdv ct), osl⟩) →
      ∃ t, PSs (cxOf CX0 P w K mg base N x (defScope st) f cdv A out s H E).nox (defBody st) t ∧ t { nx := fun _ H' => Q .non H', rt := Q } (start N ws) H) : DfnG P w K mg base CX0 (k + 1) x ps sp :=
  ⟨f, fd, fnG_of F S len hbody, hm, F.kp, hb⟩
end
section
variable {X : Cx} {CX : CXT} {k : Nat} {x : Str} {ps : List Str} {sp : Sp} {E : XK} {p pos : Pos} {e : Expr} {es : List Expr} {t : TA}
theorem pCG (D : DfnG X.prog X.w X.K X.mg X.base CX k x ps sp) (hr : Room k X.A) (hG : NoRep X.A) (hx : Passes CX X E) (ha : PA X (e :: es) t) (hg : Gl X x := by rfl)
    (hdb : (x == ("__debug__" : Str)) = false := by decide) (he : starEach (e :: es) X.env = (false, eval e X.env) :: starEach es X.env := by rfl) (hpl : (backTo pos (starEach es X.env)).any (·.1) = false := by rfl) :
    PE X (.Call (.Name x p) (e :: es) [] pos) (tCall sp [] E t) := by
  obtain ⟨f, fd, F, hm, hk, hb⟩ := D.ex
  constructor
  intro pins s σ H Q I h
  refine wpAny_Call_Name_kw (ld_glob I hg hm ?_ hdb)
  refine PySem.W.callWith_K (h₀ := X.base) I.ok.mod.kin hk (thn (ha.run pos pins s σ H _ I h) fun us s1 ⟨ws, H1, I1, r, q⟩ => ?_) he hpl
  refine ⟨I1.kIn, ?_⟩
  have q : sp (ws ++ []) H1 Q E := q
  rw [List.append_nil] at q
  have b := hb s1 us I1.kIn (by rw [List.append_nil, ← r.length]; exact F.sz _ _ _ _ q)
  rw [List.append_nil] at b
  refine wpAny_call (codeAny_mono (F.go X.A X.stack s1 H1 ⟨us, []⟩ us ws Q E hr hG I1.env0 b r q) fun z s2 hz => ?_)
  match z, hz with
  | .error u, hz => exact hx pins σ H1 s1 u s2 I1 hz
  | .ok (.ret u), hz => exact I1.after hz
  | .ok .next, hz => exact hz.elim
  | .ok .brk, hz => exact hz.elim
  | .ok .cont, hz => exact hz.elim
end

/-! ### repr of data -/
structure Shows (d : PyData) : Prop where
  ok : d.showable = true
  dp : d.depth ≤ 60
  sz : d.shown.length ≤ sizeLine
mutual
theorem noDict {K : PySem.W.Frag} {H : Hp} : ∀ (d : PyData) (v : V), Dp K H v d → d.hasDict = false
  | .none, _, _ => rfl
  | .bool _, _, _ => rfl
  | .int _, _, _ => rfl
  | .str _, _, _ => rfl
  | .list ds, _, h => by
    cases h with
    | lst _ ha => exact noDictAll ds _ ha
  | .tuple ds, _, h => by
    cases h with
    | tup _ ha => exact noDictAll ds _ ha
  | .dict _, _, h => by cases h
theorem noDictAll {K : PySem.W.Frag} {H : Hp} : ∀ (ds : List PyData) (vs : List V), DpAll K H vs ds → PyData.hasDictAll ds = false
  | [], _, _ => rfl
  | d :: ds, _, h => by
    cases h with
    | cons h1 h2 =>
      show (d.hasDict || PyData.hasDictAll ds) = false
      rw [noDict d _ h1, noDictAll ds _ h2]
      rfl
end
def rRepr (K : PySem.W.Frag) : List V → Hp → VK → Prop := fun xs H Q => match xs with
  | [v] => ∃ d, Dp K H v d ∧ Shows d ∧ Q (.str d.shown) H
  | _ => False
theorem cRepr {X : Cx} {K : PySem.W.Frag} (hG : NoRep X.A) (hu : X.A.units + 64 < cLine) (hK : X.K = K := by rfl) : CallR X (.builtin "repr") (rRepr K) := by
  subst hK
  intro pins s σ H xs us Q I r h
  unfold rRepr at h
  split at h
  · rename_i v
    obtain ⟨d, hd, ⟨h1, h2, h3⟩, q⟩ := h
    obtain ⟨u, rfl, ru⟩ := vals1 r
    obtain ⟨as, rd⟩ := Dp.reads I d v u hd ru
    have nd := noDict d v hd
    cases hd with
    | non =>
      cases ru
      exact PySem.P.repr_of_none ⟨.str _, H, I.tok _, ⟨_, rfl⟩, q⟩
    | bl b =>
      cases ru
      exact PySem.P.repr_of_bool ⟨.str _, H, I.tok _, ⟨_, rfl⟩, q⟩
    | int i =>
      obtain ⟨t, rfl⟩ := ru
      exact PySem.P.repr_of_int (of_decide_eq_true h1) ⟨.str _, H, I.tok _, ⟨_, rfl⟩, q⟩
    | str z =>
      obtain ⟨t, rfl⟩ := ru
      exact PySem.P.repr_of_str ⟨.str _, H, I.tok _, ⟨_, rfl⟩, q⟩ h3
    | lst _ _ =>
      cases ru
      exact repr_of_reads' rd h1 (fun e => by rw [nd] at e; cases e) hG (by omega) (fun _ _ e => e) (fun h' u tk hk => ⟨.str _, H, I.kept hk, ⟨_, rfl⟩, q⟩) h3
    | tup _ _ =>
      cases ru
      exact repr_of_reads' rd h1 (fun e => by rw [nd] at e; cases e) hG (by omega) (fun _ _ e => e) (fun h' u tk hk => ⟨.str _, H, I.kept hk, ⟨_, rfl⟩, q⟩) h3
  · exact h.elim
end Xia

set_option Elab.async false
set_option linter.all false
set_option maxRecDepth 100000
set_option maxHeartbeats 4000000
/-! ### the end: the law's def is called at the head's state; tables of code objects are tracked -/
namespace Xia
open PySem PySem.Spec PyProof.Rows L2 LamX
section
variable {K : PySem.W.Frag} {T : List Addr} {a : Addr} {ob : Obj} {zs : List V}
/-- what is tracked there: the tables, and the script where it is none of the module's own -/
def atCall (K : PySem.W.Frag) (T : List Addr) (a : Addr) (ob : Obj) (zs : List V) : Hp := fun b => if b ∈ T then some (.tbl #[]) else if b = a ∧ K.lookup a = none then some (.frz ob (.lst zs)) else none
theorem atCall_tab {b : Addr} (h : b ∈ T) : atCall K T a ob zs b = some (.tbl #[]) := if_pos h
theorem atCall_by (b : Addr) : atCall K T a ob zs b = none ∨ (b ∈ T ∧ atCall K T a ob zs b = some (.tbl #[])) ∨ (b ∉ T ∧ b = a ∧ K.lookup a = none ∧ atCall K T a ob zs b = some (.frz ob (.lst zs))) := by
  unfold atCall
  by_cases h1 : b ∈ T
  · exact .inr (.inl ⟨h1, if_pos h1⟩)
  by_cases h2 : b = a ∧ K.lookup a = none
  · exact .inr (.inr ⟨h1, h2.1, h2.2, by rw [if_neg h1, if_pos h2]⟩)
  · exact .inl (by rw [if_neg h1, if_neg h2])
end
section
variable {P : Program} {w : World} {K : PySem.W.Frag} {mg mb : Str → Option Value} {k : Nat} {fa a : Addr} {cs : List (Addr × Addr)} {fd : FuncData} {x : Str} {sp : Sp} {S : Shared} {vs : List Value} {ns : List Int}
theorem lawG (KX : K.In S.heap) (n1 : S.heap.Ns mainGlobals mg) (n2 : S.heap.Ns builtinsNs mb) (n3 : ∀ z : Str, z ≠ "__name__" → mb z = bootBuiltins z) (n4 : S.heap.NoLimit) (n5 : S.gens = #[])
    (t1 : ∀ p ∈ cs, S.heap.get? p.2 = some { cls := .none, data := .fields #[] }) (t2 : ∀ p ∈ cs, K.lookup p.2 = none) (t3 : ∀ p ∈ cs, PySem.W.CodeHd S.heap p.1 p.2)
    (bmx : ∃ (bm : Addr) (o : Obj), mg "__builtins__" = some (.ref bm) ∧ bm ≠ builtinsNs ∧ S.heap.get? bm = some o ∧ o.cls = .type "module" ∧ o.dict = some builtinsNs ∧ o.data = .plain)
    (sc : S.heap.get? a = some { cls := .type "list", data := .seq vs.toArray }) (hi : IntsAre vs ns) (hl : ns.length ≤ sizeLine) (hr : Room k callerA)
    (F : ∀ base : Heap, K.In base → base.Ns mainGlobals mg → (∀ p ∈ cs, TabB base mg p.1 p.2) → FnG P w K mg base CX0 k fa fd [x] sp) (hbind : ∀ (s : Shared) (u : Value), BindsTo s fd ⟨[u], []⟩ [(x, u)])
    (hsp : ∀ H : Hp, (∀ p ∈ cs, H p.2 = some (.tbl #[])) → SqL K H a (ns.map V.int) → sp [.ref a] H (fun v _ => v = .bl true) E0) :
    codeAny (model P w) callerA (.call (.ref fa) ⟨[.ref a], []⟩) (fun r s' => r = .ok (.ret (.bool true)) ∧ OldK S.heap s'.heap ∧ s'.os = S.os ∧ AllBare s'.gens) S := by
  let T := cs.map (·.2)
  have tabs : ∀ b ∈ T, S.heap.get? b = some { cls := .none, data := .fields #[] } ∧ K.lookup b = none := fun b hb => by
    obtain ⟨p, hp, rfl⟩ := List.mem_map.mp hb
    exact ⟨t1 p hp, t2 p hp⟩
  generalize hob : ({ cls := .type "list", data := .seq vs.toArray } : Obj) = ob at sc
  have obD : ∀ us, ob.data ≠ .fields us := fun us e => by rw [← hob] at e; cases e
  let H := atCall K T a ob (ns.map V.int)
  have by_ := fun b => atCall_by (K := K) (T := T) (a := a) (ob := ob) (zs := ns.map V.int) b
  have hT : ∀ p ∈ cs, H p.2 = some (.tbl #[]) := fun p hp => atCall_tab (List.mem_map.mpr ⟨p, hp, rfl⟩)
  -- what is not hidden
  have seen : ∀ {b : Addr} {o : Obj}, S.heap.get? b = some o → o.data ≠ .fields #[] → (∀ q n, o.data ≠ .seq q n) → (hidT S.heap H).get? b = some o := fun {b o} e d1 d2 => by
    refine hidT_get e ?_
    rcases by_ b with q | ⟨q, _⟩ | ⟨_, q, _⟩
    · exact q
    · rw [(tabs b q).1] at e
      cases e
      exact absurd rfl d1
    · rw [q, sc, ← hob] at e
      cases e
      exact absurd rfl (d2 _ _)
  have nsx : ∀ {b : Addr} {m : Str → Option Value}, S.heap.Ns b m → (hidT S.heap H).Ns b m := fun ⟨o, es, ep, e, d, r⟩ =>
    ⟨o, es, ep, seen e (fun z => by rw [d] at z; cases z) (fun _ _ z => by rw [d] at z; cases z), d, r⟩
  have kx : K.In (hidT S.heap H) := fun b o e => by
    refine hidT_get (KX b o e) ?_
    rcases by_ b with q | ⟨q, _⟩ | ⟨_, q, n, _⟩
    · exact q
    · rw [(tabs b q).2] at e
      cases e
    · rw [q, n] at e
      cases e
  have mod : L2.Mod K mg (hidT S.heap H) := ⟨kx, nsx n1, ⟨mb, nsx n2, n3⟩, by obtain ⟨mc, h1, h2⟩ := n4; exact ⟨mc, nsx h1, h2⟩⟩
  have TB : ∀ p ∈ cs, TabB (hidT S.heap H) mg p.1 p.2 := fun p hp => by
    constructor
    · obtain ⟨o, us, u1, u2, u3, u4, u5, u6, u7, c1, c2, c3, c4⟩ := t3 p hp
      refine ⟨o, us, u1, u2, u3, u4, u5, u6, u7, seen c1 (fun z => ?_) (fun _ _ z => by rw [c3] at z; cases z), c2, c3, c4⟩
      rw [c3] at z
      cases z
      exact absurd c4.1 (by simp)
    · obtain ⟨bm, o, b1, b2, b3, b4, b5, b6⟩ := bmx
      refine ⟨bm, o, b1, b2, fun z => ?_, fun z => ?_, seen b3 (fun z => by rw [b6] at z; cases z) (fun _ _ z => by rw [b6] at z; cases z), b4, b5, b6⟩
      · obtain ⟨o', es, ep, e, d, _⟩ := n1
        rw [z, e] at b3
        cases b3
        rw [d] at b6
        cases b6
      · rw [z, t1 p hp] at b3
        cases b3
        cases b6
    · intro z
      obtain ⟨o', es, ep, e, d, _⟩ := n1
      rw [z, t1 p hp] at e
      cases e
      cases d
  have rv : Vals (ns.map V.int) vs := vals_ints hi
  have sq : SqL K H a (ns.map V.int) := by
    by_cases hk : K.lookup a = none
    · refine .inl (.inr ⟨ob, ?_⟩)
      rcases by_ a with q | ⟨q, _⟩ | ⟨_, _, _, q⟩
      · have hn : a ∉ T := fun m => by
          have e := (tabs a m).1
          rw [sc] at e
          cases e
          exact obD _ rfl
        have e : H a = some (.frz ob (.lst (ns.map V.int))) := by
          show (if a ∈ T then _ else _) = _
          rw [if_neg hn, if_pos ⟨rfl, hk⟩]
        exact e
      · have e := (tabs a q).1
        rw [sc] at e
        cases e
        exact absurd rfl (obD _)
      · exact q
    · cases e : K.lookup a with
      | none => exact absurd e hk
      | some o =>
        have q := KX a o e
        rw [sc, ← hob] at q
        cases q
        exact .inr ⟨_, vs.toArray, _, e, rfl, rfl, rfl, by rw [List.size_toArray, hi.length]; exact hl, by simpa using rv⟩
  have hok : HOk P w H S.heap := fun b o e => by
    rcases by_ b with q | ⟨q, z⟩ | ⟨_, q, _, z⟩
    · exact absurd (q.symm.trans e) (by simp)
    · cases z.symm.trans e
      exact (tabs b q).1
    · cases z.symm.trans e
      rw [q]
      exact ⟨sc, by rw [List.length_map]; exact hl, vs, _, rv, by rw [sc, ← hob]⟩
  have e0 : Env0 P w K mg (hidT S.heap H) callerA [] S H := ⟨rfl, mod, fun b o e => of_hidT e, Nat.le_of_eq (hidT_size _ _), trivial, fun b hb => absurd hb (List.not_mem_nil), hok, .of_eq n5⟩
  refine codeAny_mono ((F _ kx (nsx n1) TB).go callerA [] S H ⟨[.ref a], []⟩ [.ref a] [.ref a] _ _ hr rfl e0 (hbind S (.ref a)) (.cons rfl .nil) (hsp H hT sq)) fun z s' hz => ?_
  match z, hz with
  | .error _, hz => exact False.elim hz
  | .ok .next, hz => exact False.elim hz
  | .ok .brk, hz => exact False.elim hz
  | .ok .cont, hz => exact False.elim hz
  | .ok (.ret u), hz =>
    obtain ⟨v, H', c1, c2, un, ok', rv', qv⟩ := hz
    cases (show v = V.bl true from qv)
    cases (show u = Value.bool true from rv')
    have tb : ∀ b ∈ T, ∃ more : Array Value, s'.heap.get? b = some { cls := .none, data := .fields more } := fun b hb => by
      obtain ⟨more, z⟩ := un.tbls b #[] (atCall_tab hb)
      exact ⟨_, ok' b _ z⟩
    have other : ∀ b o, b ∉ T → S.heap.get? b = some o → s'.heap.get? b = some o := fun b o nb e => by
      rcases by_ b with q | ⟨q, _⟩ | ⟨_, q, _, z⟩
      · exact un.keep b o e q (List.not_mem_nil) (List.not_mem_nil)
      · exact absurd q nb
      · have z2 := (ok' b _ (un.frzs b ob _ z)).1
        rw [q, sc] at e
        cases e
        exact z2
    refine ⟨rfl, ⟨fun b o e => ?_, fun b o e => ?_⟩, c1, c2⟩
    · by_cases hb : b ∈ T
      · obtain ⟨more, hm⟩ := tb b hb
        obtain ⟨p, hp, rfl⟩ := List.mem_map.mp hb
        have e' := t1 p hp
        rw [e] at e'
        cases e'
        exact .inr (.inl ⟨((t3 p hp).tab (t1 p hp)).isCodeTable, rfl, #[], more, rfl, by rw [Array.empty_append]; exact hm⟩)
      · exact .inl (other b o hb e)
    · by_cases hb : b ∈ T
      · obtain ⟨more, hm⟩ := tb b hb
        exact ⟨_, hm⟩
      · exact ⟨o, other b o hb e⟩
end
/-- the table of the code of the def called x, as the module's written part has it -/
def tabOf (K : PySem.W.Frag) (f : Addr) : Option (Addr × Addr) := match K.lookup f with
  | some ⟨_, _, .func fd, _⟩ => (match fd.code with
    | .ref c => (match K.lookup c with
      | some ⟨_, _, .fields vs, _⟩ => (match (vs[11]? : Option Value) with
        | some (Value.ref P) => if (K.lookup P).isNone then some (c, P) else none
        | _ => none)
      | _ => none)
    | _ => none)
  | _ => none
theorem tabOf_is {K : PySem.W.Frag} {f c P : Addr} (h : tabOf K f = some (c, P)) : K.lookup P = none ∧ ∃ (o : Obj) (fd : FuncData) (o2 : Obj) (vs : Array Value), K.lookup f = some o ∧ o.data = .func fd ∧ fd.code = .ref c ∧ K.lookup c = some o2 ∧ o2.data = .fields vs ∧ vs[11]? = some (.ref P) := by
  unfold tabOf at h
  split at h
  · rename_i a1 a2 fd a3 e1
    split at h
    · rename_i c1 e2
      split at h
      · rename_i b1 b2 vs b3 e3
        split at h
        · rename_i P1 e4
          split at h
          · rename_i e5
            cases h
            exact ⟨Option.isNone_iff_eq_none.mp e5, _, fd, _, vs, e1, rfl, e2, e3, rfl, e4⟩
          · cases h
        · cases h
      · cases h
    · cases h
  · cases h
theorem walkG {l : PySem.W.OpenLaw} {n k : Nat} {q : Program} {loose : List Str} {XP : (Str → Option Value) → Heap → Prop} {YP : World → Heap → Prop} {d : DefRec} {K : Params → PySem.W.Frag} {x : Str}
    (hn : l.most = some n) (hn2 : n ≤ sizeLine) (hdf : d.params.defaults = []) (hr : Room k callerA) (hY : ∀ (w : World) (h : Heap), YP w h → (K w.params).In h)
    (F : ∀ (w : World) (mg : Str → Option Value) (fa : Addr) (h : Heap), (K w.params).In h → h.Ns mainGlobals mg → mg d.name = some (.ref fa) →
      ∃ (fd : FuncData) (ts : List (Str × Addr × Addr × Addr)) (sp : Sp), (∀ t ∈ ts, ((recsOf q).any fun e => e.name == t.1) = true ∧ mg t.1 = some (.ref t.2.1) ∧ tabOf (K w.params) t.2.1 = some t.2.2) ∧ (∀ (s : Shared) (u : Value), BindsTo s fd ⟨[u], []⟩ [(x, u)]) ∧
        (∀ (H : Hp) (a : Addr) (ns : List Int), ns.length ≤ n → (∀ t ∈ ts, H t.2.2.2 = some (.tbl #[])) → SqL (K w.params) H a (ns.map V.int) → sp [.ref a] H (fun v _ => v = .bl true) E0) ∧
        ∀ base : Heap, (K w.params).In base → base.Ns mainGlobals mg → (∀ t ∈ ts, TabB base mg t.2.2.1 t.2.2.2) → FnG l.prog w (K w.params) mg base CX0 k fa fd [x] sp) :
    PySem.W.WalkO q loose XP YP l.row.toRowW d [] (fun f vs => PySem.call f vs) := by
  refine Att.attach_callB hn hdf fun w s₀ s₁ mg mb fa o pm cd doc a vs ns G Y ho hd hcd hmg hobj hints hlen hbits hg => ?_
  have KX := hY w _ Y
  obtain ⟨fd, ts, sp, hts, hb, hsp, hF⟩ := F w mg fa _ KX G.T.g hmg
  have at_ : ∀ p ∈ ts.map (·.2.2), (K w.params).lookup p.2 = none ∧ s₁.heap.get? p.2 = some { cls := .none, data := .fields #[] } ∧ PySem.W.CodeHd s₁.heap p.1 p.2 := fun p hp => by
    obtain ⟨t, ht, rfl⟩ := List.mem_map.mp hp
    obtain ⟨r1, r2, r3⟩ := hts t ht
    obtain ⟨m1, o1, fd1, o2, vs2, k1, k2, k3, k4, k5, k6⟩ := tabOf_is (c := t.2.2.1) (P := t.2.2.2) r3
    obtain ⟨dL, hm, hnm⟩ := List.any_eq_true.mp r1
    obtain ⟨a', o', fd', c', P', h1, h2, h3, h4, h5, h6⟩ := G.T.tab dL hm
    rw [beq_iff_eq.mp hnm, r2] at h1
    cases h1
    rw [KX _ _ k1] at h2
    cases h2
    rw [k2] at h3
    cases h3
    rw [k3] at h4
    cases h4
    have h6' := h6
    obtain ⟨⟨oc, vc, e1, _, e3, e4⟩, hP⟩ := h6
    rw [KX _ _ k4] at e1
    cases e1
    rw [k5] at e3
    cases e3
    rw [k6] at e4
    cases e4
    exact ⟨m1, hP, PySem.W.CodeHd.of h5 h6'⟩
  exact lawG (cs := ts.map (·.2.2)) KX G.T.g G.T.b G.T.builtins G.T.nolimit hg (fun p hp => (at_ p hp).2.1) (fun p hp => (at_ p hp).1) (fun p hp => (at_ p hp).2.2) G.T.bmain hobj hints (Nat.le_trans hlen hn2) hr
    (fun base h1 h2 h3 => hF base h1 h2 fun t ht => h3 _ (List.mem_map.mpr ⟨t, ht, rfl⟩)) hb (fun H h1 h2 => hsp H a ns hlen (fun t ht => h1 _ (List.mem_map.mpr ⟨t, ht, rfl⟩)) h2)
end Xia

set_option Elab.async false
set_option linter.all false
set_option maxRecDepth 100000
set_option maxHeartbeats 4000000
/-! ### texts: swapcase, backward, two side by side -/
namespace Xia
open PySem PySem.Spec PyProof.Rows L2 SX
section
variable {X : Cx}
theorem mt_swapcase : MtR X "str.swapcase" (fun x xs H Q => ∃ a, x = .str a ∧ xs = [] ∧ a.length ≤ 5592405 ∧ Q (.str (Txt.swapcase a)) H) :=
  mt0 (C := fun a => a.length ≤ 5592405) (g := fun a => .str (Txt.swapcase a)) fun a _ s _ hc h =>
    PySem.SC.swapcase (fit_swapcase hc) (h _ (s.toks + 1) ⟨_, rfl⟩)
/-- a text or a list, backward -/
def mBack (K : PySem.W.Frag) (te : TE) : TE := fun σ H Q => te σ H fun x H1 => match x with
  | .str z => z.length ≤ sizeLine ∧ Q (.str (S z.cps.toList.reverse)) H1
  | .ref a => ∃ xs, SqL K H1 a xs ∧ ∀ p, H1 p = none → Q (.ref p) (upd H1 p (.lst xs.reverse))
  | _ => False
theorem back_is (z : Str) (u : Tok) : Txt.sliceBy z none none (-1, u) = S z.cps.toList.reverse := by
  have h := step_rev_list z u
  have e : (List.range z.length).map (fun k => z.cps.getD (z.length - 1 - k) 0) = z.cps.toList.reverse := by
    refine List.ext_getElem ?_ fun i h1 h2 => ?_
    · rw [List.length_map, List.length_range, List.length_reverse]
      simp [Str.length]
    · rw [List.length_map, List.length_range] at h1
      rw [List.getElem_map, List.getElem_range, List.getElem_reverse]
      have hz : z.cps.size = z.length := rfl
      have : z.length - 1 - i < z.cps.size := by omega
      rw [Array.getD, dif_pos this]
      simp
      rfl
  exact TL.ext_tl (h.trans e)
theorem pe_back {K : PySem.W.Frag} {e : Expr} {te : TE} {k : Nat} {p1 p2 p3 pos : Pos} (he : PE X e te) (hK : X.K = K := by rfl) : PE X (.Subscript e (.Slice none none (some (.UnaryOp .USub (.Constant (.int 1) k p1) p2)) p3) pos) (mBack K te) := by
  subst hK
  constructor
  intro pins s σ H Q I h
  refine Subscript_ (thn (he.run pins s σ H _ I h) fun v s1 ⟨x, H1, I1, r1, q1⟩ => ?_)
  have hst : PO X (some (.UnaryOp .USub (.Constant (.int 1) k p1) p2)) (tPart (tUn (rU fun i => .int (-i)) (tC (.int 1)))) := po_some (pe_un un_neg pe_int)
  refine wpAny_Slice (thn (po_none.run pins s1 σ H1 (fun o G => o = none ∧ G = H1) I1 ⟨rfl, rfl⟩) fun vl s2 ⟨l, H2, I2, pl, el, e2⟩ => ?_)
  subst el e2
  refine thn (po_none.run pins s2 σ H2 (fun o G => o = none ∧ G = H2) I2 ⟨rfl, rfl⟩) fun vu s3 ⟨u, H3, I3, pu, eu, e3⟩ => ?_
  subst eu e3
  refine thn (hst.run pins s3 σ H3 (fun o G => o = some (-1) ∧ G = H3) I3 ⟨1, rfl, -1, rfl, rfl, rfl⟩) fun vs s4 ⟨o, H4, I4, ps, eo, e4⟩ => ?_
  subst eo e4
  generalize hsl : ({ cls := .type "slice", data := .fields #[vl, vu, vs] } : Obj) = so
  have I5 : Inv X pins σ H4 { s4 with heap := s4.heap.push so } := I4.kept (t' := s4.toks) fun b ob q => Heap.get?_push_of_some _ q
  have sof : (s4.heap.push so).IsSliceOf s4.heap.objs.size vl vu vs := by rw [← hsl]; exact Heap.IsSliceOf.new _ vl vu vs
  show wpAny (model X.prog X.w) X.A (subscriptTail e (.Slice none none (some (.UnaryOp .USub (.Constant (.int 1) k p1) p2)) p3) v (.ref s4.heap.objs.size)) (EP X pins σ Q) X.xe { s4 with heap := s4.heap.push so }
  cases x with
  | str z =>
    obtain ⟨t, rfl⟩ := r1
    obtain ⟨hz, q⟩ := q1
    refine tail_any (ops := [.str z t, .ref s4.heap.objs.size]) (typeIs_str _ _ _) (PySem.F.slot_str_getitem.lookup) ?_ (by with_unfolding_all rfl)
    obtain ⟨l0, rfl, e0⟩ := IsPart.raw pl
    obtain ⟨u0, rfl, e1⟩ := IsPart.raw pu
    obtain ⟨w0, rfl, e2⟩ := IsPart.raw ps
    cases l0 with
    | some _ => cases e0
    | none =>
    cases u0 with
    | some _ => cases e1
    | none =>
    cases w0 with
    | none => cases e2
    | some w1 =>
    obtain ⟨i, tk⟩ := w1
    cases e2
    obtain ⟨os, hos, hcs, hds⟩ := sof
    refine wpAny_getItem_str_slice (l := none) (u := none) (st := some (Int.negSucc 0, tk)) ⟨os, hos, hcs, hds⟩ rfl ?_
    have em : sliceMade z t none none (some (Int.negSucc 0, tk)) = Made.str (S z.cps.toList.reverse) := by
      rw [← back_is z tk]
      unfold sliceMade Txt.sliceBy slicePicked
      rw [if_neg (fun z => by cases z), if_neg (fun z => by cases z)]
      rfl
    rw [em]
    exact ⟨by rw [S_len, List.length_reverse, str_len]; exact hz, .str _, H4, I5.tok _, ⟨_, rfl⟩, q⟩
  | ref a =>
    cases (show v = Value.ref a from r1)
    obtain ⟨xs, hx, q⟩ := q1
    obtain ⟨its, r, ht, hz⟩ := I5.list hx
    have hlen := r.length
    refine tail_any (ops := [.ref a, .ref s4.heap.objs.size]) ht.isList.typeIs (PySem.slot_list_getitem.lookup) ?_ (by with_unfolding_all rfl)
    refine wpAny_getItem_list_slice ht.isList sof pl pu ps (by decide) ?_ (by rw [List.size_toArray]; omega)
    rw [PySem.W.krv_pick]
    refine ⟨.ref _, _, I5.laid (t' := s4.toks) (o := .lst xs.reverse) (fun b ob z => Heap.get?_push_of_some _ z) (Nat.le_refl _) ?_, rfl, q _ (I5.hok.fresh (Nat.le_refl _))⟩
    exact ⟨by rw [List.length_reverse]; exact hz, _, 0, r.reverse, Heap.get?_push_size _ rfl⟩
  | _ => exact False.elim q1
end
/-! ### zip of two texts -/
def Itzs (x y : Str) : It := ⟨fun i _ => i < min x.cps.size y.cps.size,
  fun i H v H' => ∃ T c d, v = .ref T ∧ H T = none ∧ H' = upd H T (.tup [.str ⟨#[c]⟩, .str ⟨#[d]⟩]) ∧ x.cps[i]? = some c ∧ y.cps[i]? = some d,
  fun i _ => i = min x.cps.size y.cps.size⟩
theorem turn_zips {P : Program} {w : World} {K : PySem.W.Frag} {elts : List Expr} {kk : Nat} {tpos : Pos} {z TI TO i1 i2 : Addr} (x y : Str) (t u : Tok) (D : ZipSep2 z TI TO i1 i2 [i1] [i2]) :
    Turn P w K (.Tuple elts kk tpos) (Itzs x y) [z, TI, TO, i1, i2] z
      (fun i h => IsZip h z TI TO .none ∧ IsTupOf2 h TI (.ref i1) (.ref i2) ∧ (∃ a b, IsTupOf2 h TO a b) ∧ h.IsStrIter i1 (strIterType x) x t i ∧ h.IsStrIter i2 (strIterType y) y u i) where
  mem := by simp
  obj := fun i h st c hc => by
    obtain ⟨s1, s2, ⟨a, b, s3⟩, ⟨o1, e1, _, d1⟩, ⟨o2, e2, _, d2⟩⟩ := st
    simp only [List.mem_cons, List.not_mem_nil, or_false] at hc
    rcases hc with rfl | rfl | rfl | rfl | rfl
    · exact ⟨_, s1, fun v q => nomatch q⟩
    · exact ⟨_, s2, fun v q => nomatch q⟩
    · exact ⟨_, s3, fun v q => nomatch q⟩
    · exact ⟨o1, e1, fun v q => by rw [d1] at q; cases q⟩
    · exact ⟨o2, e2, fun v q => by rw [d2] at q; cases q⟩
  keep := fun i h h' st k => by
    obtain ⟨s1, s2, ⟨a, b, s3⟩, ⟨o1, e1, r1⟩, ⟨o2, e2, r2⟩⟩ := st
    exact ⟨k z (by simp) _ s1, k TI (by simp) _ s2, ⟨a, b, k TO (by simp) _ s3⟩, ⟨o1, k i1 (by simp) _ e1, r1⟩, ⟨o2, k i2 (by simp) _ e2, r2⟩⟩
  item := by
    intro X hP hw hK hc i pins s σ H E I hf st hg
    subst hP hw hK
    obtain ⟨s1, s2, ⟨a, b, s3⟩, s4, s5⟩ := st
    have hg : i < min x.cps.size y.cps.size := hg
    have hzl : z < s.heap.objs.size := Heap.lt_size s1
    have hh : X.A.in1.handled = none := I.ok.hd hc
    refine wpAny_pyNext_zipD2_item D (.text hh i1 x t) (.text hh i2 y u) s1 s2 s3 s4 s5 (by omega) (by omega) fun v1 v2 h' tk p1 p2 z1 z3 z4 z5 hT hsz hk => ?_
    obtain ⟨c, tc, hcx, rfl⟩ := p1
    obtain ⟨d, td, hdy, rfl⟩ := p2
    refine ⟨_, rfl, wpAny_letOwnedTupleGo_zip (s := { s with heap := h', toks := tk }) z1 fun h'' z1' sb => ?_⟩
    have hT2 : h''.get? s.heap.objs.size = some { cls := .type "tuple", data := .seq #[.str ⟨#[c]⟩ tc, .str ⟨#[d]⟩ td] } := (sb.2 _ (Nat.ne_of_gt hzl)).trans hT
    have new : ObjOk X.prog X.w (upd H s.heap.objs.size (.tup [.str ⟨#[c]⟩, .str ⟨#[d]⟩])) h'' s.heap.objs.size (.tup [.str ⟨#[c]⟩, .str ⟨#[d]⟩]) :=
      ⟨by show 2 ≤ sizeLine; decide, [.str ⟨#[c]⟩ tc, .str ⟨#[d]⟩ td], .cons ⟨_, rfl⟩ (.cons ⟨_, rfl⟩ .nil), ⟨_, hT2, rfl, _, rfl⟩⟩
    have I1 : Inv X pins σ (upd H s.heap.objs.size (.tup [.str ⟨#[c]⟩, .str ⟨#[d]⟩])) { s with heap := h'', toks := tk } :=
      I.turnedNew (t' := tk) (ch := [z, TI, TO, i1, i2]) (fun e o hb q => (sb.2 e (fun q' => hb (by simp [q']))).trans (hk e o (fun q' => hb (by simp [q'])) (fun q' => hb (by simp [q'])) (fun q' => hb (by simp [q'])) (fun q' => hb (by simp [q'])) q)) hf (Nat.le_refl _) new
    have cut : ∀ {j : Addr} {ty : String} {q : Str} {tq : Tok} {m : Nat}, j ≠ z → h'.IsStrIter j ty q tq m → h''.IsStrIter j ty q tq m := fun n ⟨o, e, r⟩ => ⟨o, (sb.2 _ n).trans e, r⟩
    refine ⟨.ref s.heap.objs.size, _, I1, rfl, ⟨_, c, d, rfl, I.hok.fresh (Nat.le_refl _), rfl, hcx, hdy⟩, ⟨z1', ?_, ⟨_, _, (sb.2 _ D.TOz).trans z3⟩, cut (Ne.symm D.zi1) z4, cut (Ne.symm D.zi2) z5⟩, fun e he => ?_⟩
    · exact (sb.2 _ D.TIz).trans (hk _ _ D.TIz D.TITO D.TIi1 D.TIi2 s2)
    · have hlt : e < s.heap.objs.size := by
        simp only [List.mem_cons, List.not_mem_nil, or_false] at he
        rcases he with rfl | rfl | rfl | rfl | rfl
        · exact hzl
        · exact Heap.lt_size s2
        · exact Heap.lt_size s3
        · obtain ⟨_, e1, _⟩ := s4; exact Heap.lt_size e1
        · obtain ⟨_, e1, _⟩ := s5; exact Heap.lt_size e1
      rw [upd_ne (Nat.ne_of_lt hlt)]
      exact (hf e he).1
  done := by
    intro X hP hw hK hc i pins s σ H E I hf st hg
    subst hP hw hK
    obtain ⟨s1, s2, ⟨a, b, s3⟩, s4, s5⟩ := st
    have hg : i = min x.cps.size y.cps.size := hg
    have hh : X.A.in1.handled = none := I.ok.hd hc
    exact wpAny_pyNext_zipD2_end D (.text hh i1 x t) (.text hh i2 y u) s1 s2 s3 s4 s5 (by omega) (by omega) (by omega) fun h' tk hk => ⟨rfl, I.turnedL (t' := tk) (ch := [z, TI, TO, i1, i2]) (fun c o hb q =>
      hk c o (fun q' => hb (by simp [q'])) (fun q' => hb (by simp [q'])) (fun q' => hb (by simp [q'])) (fun q' => hb (by simp [q'])) q) hf⟩
  self := fun A i s Q E st h => wpAny_pyIter_zip st.1 h
def iZips (ta : TA) : TI := fun σ H R => ta σ H fun vs H1 => match vs with
  | [.str x, .str y] => R (Itzs x y) H1
  | _ => False
theorem pi_zips {X : Cx} {e e2 : Expr} {ta : TA} {p pos tpos : Pos} {elts : List Expr} {kk : Nat} (hg : Gl X "zip") (hm : X.mg "zip" = none) (ha : PA X [e, e2] ta)
    (hs : starEach [e, e2] X.env = (false, eval e X.env) :: starEach [e2] X.env := by rfl) (hpl : (backTo pos (starEach [e2] X.env)).any (·.1) = false := by rfl) :
    PI X (.Tuple elts kk tpos) (.Call (.Name "zip" p) [e, e2] [] pos) (iZips ta) := by
  constructor
  intro pins s σ H R I h
  refine Call_ (ld_blt I hg hm PyProof.Rows.boot_zip (PyProof.Rows.callWith_type1 (thn (ha.run pos pins s σ H _ I h) fun us s1 ⟨vs, H1, I1, r1, q1⟩ => ?_) hs hpl))
  obtain ⟨x, y, rfl, q⟩ : ∃ x y, vs = [.str x, .str y] ∧ R (Itzs x y) H1 := by
    dsimp only at q1
    split at q1
    · exact ⟨_, _, rfl, q1⟩
    · exact q1.elim
  obtain ⟨u1, u2, rfl, ⟨t, rfl⟩, ⟨t2, rfl⟩⟩ := vals2 r1
  · skip
    generalize hn : s1.heap.objs.size = n
    refine zip_begins2 (begins_text x t) (begins_text y t2) trivial trivial fun h' z1 z2 z3 g1 g2 hsz hk => wpAny_pyIter_zip z1 ?_
    rw [hn] at z1 z2 z3 g1 g2 hsz ⊢
    have I2 : Inv X pins σ H1 { s1 with heap := h' } := I1.kept (t' := s1.toks) hk
    refine ⟨n + 4, [n + 4, n + 2, n + 3, n, n + 1], _, _, H1, rfl, I2, turn_zips x y t t2 (zip_sep2 (fp1 := []) (fp2 := []) (fun b hb => by cases hb) (fun b hb => by cases hb)), ⟨z1, z2, ⟨_, _, z3⟩, ⟨_, g1, rfl, rfl⟩, ⟨_, g2, rfl, rfl⟩⟩, fun c hcm => ?_, q⟩
    have hle : s1.heap.objs.size ≤ c := by
      rw [hn]
      simp only [List.mem_cons, List.not_mem_nil, or_false] at hcm
      rcases hcm with rfl | rfl | rfl | rfl | rfl
      · exact Nat.le_add_right _ _
      · exact Nat.le_add_right _ _
      · exact Nat.le_add_right _ _
      · exact Nat.le_refl _
      · exact Nat.le_add_right _ _
    exact I1.fpOk hle (I1.hok.fresh hle)
theorem walk_zips (x y : Str) : Walk (Itzs x y) (min x.cps.size y.cps.size) (fun _ => True) (fun i H v H' => ∃ T c d, v = .ref T ∧ H T = none ∧ H' = upd H T (.tup [.str ⟨#[c]⟩, .str ⟨#[d]⟩]) ∧ x.cps[i]? = some c ∧ y.cps[i]? = some d) :=
  ⟨fun i _ hi _ => hi, fun _ _ => rfl, fun i H v H' _ _ y => y⟩
end Xia

set_option Elab.async false
set_option linter.all false
set_option maxRecDepth 100000
set_option maxHeartbeats 4000000
/-! ### words, places: lists of code points -/
namespace Xia
open PySem PySem.Spec PyProof.Rows L2 SX
def letC : List Nat := [65, 66, 67, 68, 97, 98, 99, 100]
def IsL (w : List Nat) : Prop := ∀ c ∈ w, c ∈ letC
/-- the back of a letter -/
def oth (c : Nat) : Nat := if c < 97 then c + 32 else c - 32
def mir (w : List Nat) : List Nat := (w.map oth).reverse
def stp (p : List Nat) (c : Nat) : List Nat := if p.getLast? = some (oth c) then p.dropLast else p ++ [c]
def fol (p w : List Nat) : List Nat := w.foldl stp p
def isP : List Nat → Bool
  | c :: d :: r => decide (d ≠ oth c) && isP (d :: r)
  | _ => true
theorem oth_mem {c : Nat} (h : c ∈ letC) : oth c ∈ letC := by revert c; decide
theorem oth_oth {c : Nat} (h : c ∈ letC) : oth (oth c) = c := by revert c; decide
theorem IsL.nil : IsL [] := fun _ h => by cases h
theorem IsL.app {a b : List Nat} (h : IsL a) (k : IsL b) : IsL (a ++ b) := fun c hc => (List.mem_append.mp hc).elim (h c) (k c)
theorem IsL.one {c : Nat} (h : c ∈ letC) : IsL [c] := fun d hd => by rw [List.mem_singleton.mp hd]; exact h
theorem IsL.sub {a b : List Nat} (h : IsL b) (k : ∀ c ∈ a, c ∈ b) : IsL a := fun c hc => h c (k c hc)
theorem IsL.take {a : List Nat} (h : IsL a) (n : Nat) : IsL (a.take n) := h.sub fun _ hc => List.mem_of_mem_take hc
theorem IsL.drop {a : List Nat} (h : IsL a) (n : Nat) : IsL (a.drop n) := h.sub fun _ hc => List.mem_of_mem_drop hc
theorem IsL.mir {a : List Nat} (h : IsL a) : IsL (mir a) := fun c hc => by
  obtain ⟨d, hd, rfl⟩ := List.mem_map.mp (List.mem_reverse.mp hc)
  exact oth_mem (h d hd)
theorem IsL.dropLast {a : List Nat} (h : IsL a) : IsL a.dropLast := h.sub fun _ hc => by rw [List.dropLast_eq_take] at hc; exact List.mem_of_mem_take hc
theorem IsL.stp {p : List Nat} {c : Nat} (h : IsL p) (k : c ∈ letC) : IsL (stp p c) := by
  unfold Xia.stp
  split
  · exact h.dropLast
  · exact h.app (.one k)
theorem fol_cons (p : List Nat) (c : Nat) (w : List Nat) : fol p (c :: w) = fol (stp p c) w := rfl
theorem fol_app (p a b : List Nat) : fol p (a ++ b) = fol (fol p a) b := by unfold fol; rw [List.foldl_append]
theorem IsL.fol {w : List Nat} : ∀ {p : List Nat}, IsL p → IsL w → IsL (fol p w) := by
  induction w with
  | nil => exact fun h _ => h
  | cons c w ih => exact fun h k => ih (h.stp (k c (List.mem_cons_self ..))) (k.sub fun _ hc => List.mem_cons_of_mem _ hc)
theorem stp_len (p : List Nat) (c : Nat) : (stp p c).length ≤ p.length + 1 := by
  unfold stp
  split
  · rw [List.length_dropLast]; omega
  · rw [List.length_append]; exact Nat.le_refl _
theorem fol_len {w : List Nat} : ∀ {p : List Nat}, (fol p w).length ≤ p.length + w.length := by
  induction w with
  | nil => intro p; exact Nat.le_refl _
  | cons c w ih =>
    intro p
    have h1 := stp_len p c
    have h2 := ih (p := stp p c)
    rw [fol_cons, List.length_cons]
    omega
theorem mir_len (w : List Nat) : (mir w).length = w.length := by unfold mir; rw [List.length_reverse, List.length_map]
/-! places -/
theorem isP_tail {c : Nat} {r : List Nat} (h : isP (c :: r) = true) : isP r = true := by
  cases r with
  | nil => rfl
  | cons d r => exact (Bool.and_eq_true_iff.mp h).2
/-- no two neighbors are each other's backs -/
theorem isP_iff : ∀ {w : List Nat}, isP w = true ↔ ∀ i c d, w[i]? = some c → w[i + 1]? = some d → d ≠ oth c
  | [] => ⟨fun _ i c d h => by simp at h, fun _ => rfl⟩
  | [a] => ⟨fun _ i c d _ h => by simp at h, fun _ => rfl⟩
  | a :: b :: r => by
    constructor
    · intro h i c d h1 h2
      obtain ⟨e1, e2⟩ := Bool.and_eq_true_iff.mp h
      cases i with
      | zero =>
        cases h1
        cases h2
        exact of_decide_eq_true e1
      | succ i => exact isP_iff.mp e2 i c d h1 h2
    · intro h
      refine Bool.and_eq_true_iff.mpr ⟨decide_eq_true (h 0 a b rfl rfl), isP_iff.mpr fun i c d h1 h2 => h (i + 1) c d h1 h2⟩
theorem isP_app {a b : List Nat} (h1 : isP a = true) (h2 : isP b = true) (h3 : ∀ c d, a.getLast? = some c → b.head? = some d → d ≠ oth c) : isP (a ++ b) = true := by
  refine isP_iff.mpr fun i c d e1 e2 => ?_
  rcases Nat.lt_trichotomy (i + 1) a.length with h | h | h
  · rw [List.getElem?_append_left (by omega)] at e1 e2
    exact isP_iff.mp h1 i c d e1 e2
  · rw [List.getElem?_append_left (by omega)] at e1
    rw [List.getElem?_append_right (by omega), show i + 1 - a.length = 0 by omega] at e2
    refine h3 c d ?_ (by rw [List.head?_eq_getElem?]; exact e2)
    rw [List.getLast?_eq_getElem?, show a.length - 1 = i by omega]
    exact e1
  · rw [List.getElem?_append_right (by omega)] at e1 e2
    rw [show i + 1 - a.length = (i - a.length) + 1 by omega] at e2
    exact isP_iff.mp h2 _ c d e1 e2
theorem isP_left {a b : List Nat} (h : isP (a ++ b) = true) : isP a = true := isP_iff.mpr fun i c d e1 e2 => by
  have l2 := (List.getElem?_eq_some_iff.mp e2).1
  exact isP_iff.mp h i c d (by rw [List.getElem?_append_left (by omega)]; exact e1) (by rw [List.getElem?_append_left l2]; exact e2)
theorem isP_right {a b : List Nat} (h : isP (a ++ b) = true) : isP b = true := isP_iff.mpr fun i c d e1 e2 =>
  isP_iff.mp h (a.length + i) c d (by rw [List.getElem?_append_right (by omega), Nat.add_sub_cancel_left]; exact e1)
    (by rw [List.getElem?_append_right (by omega), show a.length + i + 1 - a.length = i + 1 by omega]; exact e2)
theorem isP_take {a : List Nat} (h : isP a = true) (n : Nat) : isP (a.take n) = true := isP_left (b := a.drop n) (by rw [List.take_append_drop]; exact h)
theorem isP_drop {a : List Nat} (h : isP a = true) (n : Nat) : isP (a.drop n) = true := isP_right (a := a.take n) (by rw [List.take_append_drop]; exact h)
theorem isP_dropLast {a : List Nat} (h : isP a = true) : isP a.dropLast = true := by rw [List.dropLast_eq_take]; exact isP_take h _
theorem isP_stp {p : List Nat} {c : Nat} (hp : IsL p) (h : isP p = true) : isP (stp p c) = true := by
  unfold stp
  split
  · exact isP_dropLast h
  · rename_i n
    refine isP_app h rfl fun a d e1 e2 e => n ?_
    cases e2
    have ha : a ∈ letC := hp a (List.mem_of_getLast? e1)
    rw [e1, e, oth_oth ha]
theorem isP_fol {w : List Nat} : ∀ {p : List Nat}, IsL p → IsL w → isP p = true → isP (fol p w) = true := by
  induction w with
  | nil => exact fun _ _ h => h
  | cons c w ih => exact fun h k hp => ih (h.stp (k c (List.mem_cons_self ..))) (k.sub fun _ hc => List.mem_cons_of_mem _ hc) (isP_stp h hp)
/-- a place goes on as it stands -/
theorem fol_place {w : List Nat} : ∀ {p : List Nat}, IsL p → IsL w → isP (p ++ w) = true → fol p w = p ++ w := by
  induction w with
  | nil => intro p _ _ _; rw [List.append_nil]; rfl
  | cons c w ih =>
    intro p hp hw h
    have hc : c ∈ letC := hw c (List.mem_cons_self ..)
    have e : stp p c = p ++ [c] := by
      unfold stp
      rw [if_neg fun e => ?_]
      have h2 : isP (p ++ ([c] ++ w)) = true := h
      rw [← List.append_assoc] at h2
      have h3 := isP_left h2
      have hl : 0 < p.length := by
        cases p with
        | nil => cases e
        | cons _ _ => exact Nat.succ_pos _
      refine isP_iff.mp h3 (p.length - 1) (oth c) c ?_ ?_ (oth_oth hc).symm
      · rw [List.getElem?_append_left (by omega), ← List.getLast?_eq_getElem?]
        exact e
      · rw [List.getElem?_append_right (by omega), show p.length - 1 + 1 - p.length = 0 by omega]
        rfl
    rw [fol_cons, e, ih (hp.app (.one hc)) (hw.sub fun _ hd => List.mem_cons_of_mem _ hd) (by rw [List.append_assoc]; exact h), List.append_assoc]
    rfl
theorem fol_nil {w : List Nat} (hw : IsL w) (h : isP w = true) : fol [] w = w := fol_place .nil hw h
/-- one step and back -/
theorem stp_stp {p : List Nat} {c : Nat} (hp : IsL p) (h : isP p = true) (hc : c ∈ letC) : stp (stp p c) (oth c) = p := by
  by_cases e : p.getLast? = some (oth c)
  · have e1 : stp p c = p.dropLast := if_pos e
    obtain ⟨q, rfl⟩ : ∃ q, p = q ++ [oth c] := by
      refine ⟨p.dropLast, ?_⟩
      have hne : p ≠ [] := fun z => by rw [z] at e; cases e
      rw [List.getLast?_eq_some_getLast hne] at e
      rw [← Option.some.inj e, List.dropLast_concat_getLast]
    rw [e1, List.dropLast_concat]
    unfold stp
    rw [oth_oth hc, if_neg fun z => ?_]
    have hl : 0 < q.length := by
      cases q with
      | nil => cases z
      | cons _ _ => exact Nat.succ_pos _
    refine isP_iff.mp h (q.length - 1) c (oth c) ?_ ?_ rfl
    · rw [List.getElem?_append_left (by omega), ← List.getLast?_eq_getElem?]
      exact z
    · rw [List.getElem?_append_right (by omega), show q.length - 1 + 1 - q.length = 0 by omega]
      rfl
  · have e1 : stp p c = p ++ [c] := if_neg e
    rw [e1]
    unfold stp
    rw [oth_oth hc, if_pos (by simp), List.dropLast_concat]
theorem mir_cons (c : Nat) (w : List Nat) : mir (c :: w) = mir w ++ [oth c] := by unfold mir; rw [List.map_cons, List.reverse_cons]
theorem mir_app (a b : List Nat) : mir (a ++ b) = mir b ++ mir a := by unfold mir; rw [List.map_append, List.reverse_append]
/-- along a word and back again -/
theorem fol_mir {w : List Nat} : ∀ {p : List Nat}, IsL p → isP p = true → IsL w → fol (fol p w) (mir w) = p := by
  induction w with
  | nil => intro p _ _ _; rfl
  | cons c w ih =>
    intro p hp h hw
    have hc : c ∈ letC := hw c (List.mem_cons_self ..)
    rw [fol_cons, mir_cons, fol_app, ih (hp.stp hc) (isP_stp hp h) (hw.sub fun _ hd => List.mem_cons_of_mem _ hd)]
    exact stp_stp hp h hc
/-! a row repeated -/
def rep (r : List Nat) (n : Nat) : List Nat := (List.replicate n r).flatten
theorem rep_succ (r : List Nat) (n : Nat) : rep r (n + 1) = r ++ rep r n := by unfold rep; rw [List.replicate_succ, List.flatten_cons]
theorem rep_len (r : List Nat) (n : Nat) : (rep r n).length = n * r.length := by
  induction n with
  | zero => simp [rep]
  | succ n ih => rw [rep_succ, List.length_append, ih, Nat.succ_mul, Nat.add_comm]
theorem rep_l {r : List Nat} (h : IsL r) (n : Nat) : IsL (rep r n) := fun c hc => by
  obtain ⟨l, hl, hcl⟩ := List.mem_flatten.mp hc
  rw [(List.mem_replicate.mp hl).2] at hcl
  exact h c hcl
theorem rep_isP {r : List Nat} (h : isP (r ++ r) = true) (hne : r ≠ []) : ∀ n, isP (rep r n) = true
  | 0 => rfl
  | 1 => by rw [rep_succ]; exact isP_left (a := r) (b := r) h |> fun z => by rw [show rep r 0 = [] from rfl, List.append_nil]; exact z
  | n + 2 => by
    rw [rep_succ]
    refine isP_app (isP_left h) (rep_isP h hne (n + 1)) fun c d e1 e2 => ?_
    have hl : 0 < r.length := List.length_pos_iff.mpr hne
    refine isP_iff.mp h (r.length - 1) c d ?_ ?_
    · rw [List.getElem?_append_left (by omega), ← List.getLast?_eq_getElem?]
      exact e1
    · rw [List.getElem?_append_right (by omega), show r.length - 1 + 1 - r.length = 0 by omega, ← List.head?_eq_getElem?]
      rw [rep_succ] at e2
      cases r with
      | nil => exact absurd rfl hne
      | cons a r => exact e2
/-! ### the same of texts -/
theorem swap_letters {w : List Nat} (h : IsL w) : Txt.swapcase (S w) = S (w.map oth) := by
  unfold Txt.swapcase
  refine congrArg Str.mk ?_
  rw [placed_single (S w) _ oth fun i c hc => ?_]
  · exact List.map_toArray.symm ▸ rfl
  · have hm : c ∈ letC := h c (List.mem_of_getElem? hc)
    have hc' : (S w).cps[i]? = some c := by simpa using hc
    have key : ∀ c ∈ letC, (Unicode.isUpper c = true ∧ Unicode.lowerOf c = [oth c]) ∨ (Unicode.isUpper c = false ∧ Unicode.isLower c = true ∧ Unicode.upperOf c = [oth c]) := by decide +kernel
    have ne : ∀ c ∈ letC, (c == 0x3A3) = false := by decide
    rcases key c hm with ⟨k1, k2⟩ | ⟨k1, k2, k3⟩
    · rw [if_pos k1]
      unfold Unicode.lowerAt
      rw [hc']
      simp only [ne c hm, Bool.false_and, Bool.false_eq_true, if_false]
      exact k2
    · rw [if_neg (by rw [k1]; exact Bool.false_ne_true), if_pos k2]
      exact k3
theorem ends_one (p : List Nat) (c : Nat) : Txt.endswith (S p) (S [c]) = decide (p.getLast? = some c) := by
  unfold Txt.endswith
  rw [StrLaws.subAt_eq]
  show (decide (0 + (S [c]).length ≤ (S p).length) && ((p.drop ((S p).length - (S [c]).length)).take (S [c]).length == [c])) = _
  rw [S_len, S_len]
  cases hp : p with
  | nil => rfl
  | cons a r =>
    rw [← hp]
    have hl : 0 < p.length := by rw [hp]; exact Nat.succ_pos _
    have e : (p.drop (p.length - 1)).take 1 = [p[p.length - 1]] := by
      rw [List.drop_eq_getElem_cons (by omega)]
      rfl
    rw [show ([c] : List Nat).length = 1 from rfl, e, List.getLast?_eq_getElem?, List.getElem?_eq_getElem (by omega)]
    rw [decide_eq_true (by omega), Bool.true_and]
    by_cases hc : p[p.length - 1] = c
    · rw [hc]; simp
    · rw [decide_eq_false (fun z => hc (Option.some.inj z))]
      exact beq_eq_false_iff_ne.mpr fun z => hc (List.cons.inj z).1
theorem sIx_m1 (n d : Nat) : HT.sIx n d (some (-1)) = n - 1 := by
  show (if (-1 : Int) < 0 then (-1 + (n : Int)).toNat else min (-1 : Int).toNat n) = n - 1
  rw [if_pos (by decide)]
  omega
theorem cut_butlast (p : List Nat) : cutS (S p) none (some (-1)) = S p.dropLast := by
  unfold cutS
  rw [HT.sIx_none, S_len, sIx_m1]
  show S ((p.drop 0).take (p.length - 1 - 0)) = _
  rw [List.drop_zero, Nat.sub_zero, List.dropLast_eq_take]
theorem cut_last (p : List Nat) : cutS (S p) (some (-1)) none = S (p.drop (p.length - 1)) := by
  unfold cutS
  rw [HT.sIx_none, S_len, sIx_m1]
  show S ((p.drop (p.length - 1)).take (p.length - (p.length - 1))) = _
  rw [List.take_of_length_le (by rw [List.length_drop]; exact Nat.le_refl _)]
theorem cut_to (p : List Nat) {i : Int} (h : 0 ≤ i) : cutS (S p) none (some i) = S (p.take i.toNat) := by
  obtain ⟨n, rfl⟩ : ∃ n : Nat, i = n := ⟨i.toNat, by omega⟩
  unfold cutS
  rw [HT.sIx_none, S_len, HT.sIx_nat, Int.toNat_natCast]
  show S ((p.drop 0).take (min n p.length - 0)) = _
  rw [List.drop_zero, Nat.sub_zero]
  refine congrArg S ?_
  by_cases c : n ≤ p.length
  · rw [Nat.min_eq_left c]
  · rw [Nat.min_eq_right (by omega), List.take_length, List.take_of_length_le (by omega)]
theorem cut_from (p : List Nat) {i : Int} (h : 0 ≤ i) : cutS (S p) (some i) none = S (p.drop i.toNat) := by
  obtain ⟨n, rfl⟩ : ∃ n : Nat, i = n := ⟨i.toNat, by omega⟩
  unfold cutS
  rw [HT.sIx_none, S_len, HT.sIx_nat, Int.toNat_natCast]
  show S ((p.drop (min n p.length)).take (p.length - min n p.length)) = _
  refine congrArg S ?_
  by_cases c : n ≤ p.length
  · rw [Nat.min_eq_left c, List.take_of_length_le (by rw [List.length_drop]; exact Nat.le_refl _)]
  · rw [Nat.min_eq_right (by omega), List.drop_length, List.drop_of_length_le (by omega), List.take_nil]
theorem mul_S (r : List Nat) {n : Int} (h : 0 ≤ n) : Txt.mul (S r) n = S (rep r n.toNat) := by
  unfold Txt.mul
  by_cases h1 : n < 1
  · rw [if_pos h1, show n.toNat = 0 by omega]
    rfl
  rw [if_neg h1]
  have fl : ∀ (l : List (Array Nat)) (acc : Array Nat), (l.foldl (· ++ ·) acc).toList = acc.toList ++ (l.map Array.toList).flatten := by
    intro l
    induction l with
    | nil => intro acc; simp
    | cons a l ih => intro acc; rw [List.foldl_cons, ih]; simp
  by_cases h2 : (n == 1 || (S r).length == 0) = true
  · rw [if_pos h2]
    rcases Bool.or_eq_true_iff.mp h2 with h3 | h3
    · rw [eq_of_beq h3]
      show S r = S (rep r 1)
      rw [rep_succ, show rep r 0 = [] from rfl, List.append_nil]
    · have e := eq_of_beq h3
      rw [S_len] at e
      cases r with
      | nil =>
        refine congrArg S ?_
        have := rep_len [] n.toNat
        cases hr : rep [] n.toNat with
        | nil => rfl
        | cons a l => rw [hr] at this; cases this
      | cons a l => cases e
  · rw [if_neg h2]
    refine TL.ext_tl ?_
    show ((List.replicate n.toNat (S r).cps).foldl (· ++ ·) #[]).toList = rep r n.toNat
    rw [fl]
    unfold rep
    rw [List.map_replicate]
    rfl
end Xia

set_option Elab.async false
set_option linter.all false
set_option maxRecDepth 100000
set_option maxHeartbeats 4000000
/-! ### counting truths; a lambda called in a try; a lambda handed on -/
namespace Xia
open PySem PySem.Spec PyProof.Rows L2 SX LamX
def isTrueV (v : Value) : Bool := match v with
  | .bool b => b
  | _ => false
theorem trues {bs : List Bool} : ∀ {us : List Value}, Vals (bs.map V.bl) us → us = bs.map Value.bool := by
  induction bs with
  | nil => intro us h; cases h; rfl
  | cons b bs ih =>
    intro us h
    cases h with
    | cons r rs =>
      rw [ih rs, show _ = Value.bool b from r]
      rfl
def rCntB (K : PySem.W.Frag) : V → List V → Hp → VK → Prop := fun x xs H Q => ∃ (p : Addr) (bs : List Bool), x = .ref p ∧ xs = [.bl true] ∧ SqL K H p (bs.map V.bl) ∧ Q (.int (bs.count true : Nat)) H
theorem mt_countB {X : Cx} {K : PySem.W.Frag} (hK : X.K = K := by rfl) : MtR X "list.count" (rCntB K) := by
  subst hK
  intro pins s σ H x xs v us Q I rx rxs h
  obtain ⟨p, bs, rfl, rfl, hs, q⟩ := h
  cases rx
  obtain ⟨u, rfl, ru⟩ := rxs.one
  cases (show u = Value.bool true from ru)
  obtain ⟨its, rv, ⟨⟨cls, dd, data, sl⟩, n, ho, hc, hdn, hd⟩, hlen⟩ := I.list hs
  simp only at hc hd
  subst hc hd
  have hi := trues rv
  refine call_meets PySem.F.slot_list_count ⟨_, ho, rfl⟩ PySem.F.entry_list_count (PySem.F.args_list_count_2 _ _) (SeqAt.list_countAt p its.toArray n dd sl (.bool true) isTrueV) ⟨ho, fun y hy => ?_, ?_⟩
  · have hy' : y ∈ its := by simpa using hy
    rw [hi] at hy'
    obtain ⟨b, _, rfl⟩ := List.mem_map.mp hy'
    have e := eqAt_V (A := X.A.in1) (s := s) (y := .bl b) (x := .bl true) (u := .bool b) (v := .bool true) rfl rfl rfl rfl
    have eb : eqV (.bl b) (.bl true) = isTrueV (.bool b) := by cases b <;> rfl
    rw [eb] at e
    exact e
  have ec : its.toArray.toList.countP isTrueV = bs.count true := by
    show its.countP isTrueV = _
    rw [hi, List.countP_map]
    unfold List.count
    congr 1
    funext b
    cases b <;> rfl
  refine ⟨.int (bs.count true : Nat), H, I.tok _, ⟨s.toks, ?_⟩, q⟩
  show Value.int ((its.toArray.toList.countP isTrueV : Nat) : Int) s.toks = _
  rw [ec]
theorem _root_.L2.Takes.len {X : Cx} {W : WX} (t : Takes X W) : Takes X (fun c d σ H => σ.length = X.N.length → W c d σ H) := fun u s' x => by
  obtain ⟨a, B, sI, pins, σ, H, cls, d, e, I, nb, up, sky, na, os, ag, w⟩ := x
  exact t u s' ⟨a, B, sI, pins, σ, H, cls, d, e, I, nb, up, sky, na, os, ag, w I.len⟩
/-- act(), in the body of a try: what it does is told of the lambda's reading tl -/
def tAct (n : Nat) (f c' : Addr) (q : Str) (tl : XK → Hp → VK → Prop) (W : WX) : TE := fun σ H Q => ∃ E : XK, (∀ cls d σ' H', σ'.length = n → E cls d H' → W cls d σ' H') ∧ σ[0]? = some (some (.ref f)) ∧ H c' = some (CodeO c' q) ∧ tl E H Q
/-- what a def knows of the lambda that it got -/
def Acts (Z : Cx) (a : Str) (f c' : Addr) (q : Str) (tl : XK → Hp → VK → Prop) : Prop := ∀ (W : WX) (pn : List (Addr × Obj)) (xe : Value → Shared → Prop) (E : XK) (p1 p2 : Pos), Takes (Z.tr pn xe) W → (∀ cls d σ' H', E cls d H' → W cls d σ' H') →
  PE (Z.tr pn xe) (.Call (.Name a p1) [] [] p2) (fun σZ HZ Q => σZ[0]? = some (some (.ref f)) ∧ HZ c' = some (CodeO c' q) ∧ tl E HZ Q)
theorem pAct {Z : Cx} {a : Str} {f c' : Addr} {q : Str} {tl : XK → Hp → VK → Prop} (act : Acts Z a f c' q tl) {W : WX} {pn : List (Addr × Obj)} {xe : Value → Shared → Prop} (tk : Takes (Z.tr pn xe) W) {p1 p2 : Pos} :
    PE (Z.tr pn xe) (.Call (.Name a p1) [] [] p2) (tAct Z.N.length f c' q tl W) := by
  constructor
  intro pins s σ H Q I h
  obtain ⟨E, hW, h1, h2, h3⟩ := h
  exact (act _ pn xe E p1 p2 tk.len fun cls d σ' H' he hl => hW cls d σ' H' hl he).run pins s σ H Q I ⟨h1, h2, h3⟩
/-- the named classes: what _law_z_error tells of an exception of each -/
def TTerr (ws : List (Addr × Str)) : (XK → Hp → VK → Prop) → Hp → VK → Prop := fun tl H Q =>
  tl (fun cls d H' => d = none ∧ ∃ (D : Addr) (z : Str), cls = .ref D ∧ (D, z) ∈ ws ∧ ∀ H'', Same H' H'' → Q (.str z) H'') H fun _ H' => Q (.str "fine") H'
/-- a def that gets a lambda: what a call of it with one needs -/
structure LamD (P : Program) (w : World) (K : PySem.W.Frag) (mg : Str → Option Value) (base : Heap) (k : Nat) (x a : Str) (TT : (XK → Hp → VK → Prop) → Hp → VK → Prop) : Prop where
  ex : ∃ (g : Addr) (oc kV doc pm cdv ct : Value) (od an : Option Addr) (osl : Array (Option Value)) (pg : Arguments) (bg : List Stmt) (sg : Scope) (Ng : List Str),
    K.lookup g = some ⟨oc, od, .func (PySem.W.fnOf x x pg bg sg .none kV doc pm an cdv ct), osl⟩ ∧ PySem.W.codeIn K cdv x = true ∧ mg x = some (.ref g) ∧ PySem.W.keepIn K (.ref g) = true ∧
    L2.Binds K (PySem.W.fnOf x x pg bg sg .none kV doc pm an cdv ct) [a] [] ∧ FnScope Ng [a] sg ∧ Ng[0]? = some a ∧ Vis sg a ∧
    ∀ (X : Cx) (q : Str), X.prog = P → X.w = w → X.K = K → X.mg = mg → X.base = base → Room (k + 1) X.A → GivesTo X Ng x sg g cdv bg a q TT
theorem LamD.mk0 {P : Program} {w : World} {K : PySem.W.Frag} {mg : Str → Option Value} {base : Heap} {k : Nat} {x a : Str} {TT : (XK → Hp → VK → Prop) → Hp → VK → Prop} {st : Stmt} {f : Addr} {fd : FuncData} {N : List Str}
    (F : Fun K x x st f fd) (hm : mg x = some (.ref f)) (hb : Binds K fd [a] []) (S : FnScope N [a] (defScope st)) (hN : N[0]? = some a) (hv : Vis (defScope st) a)
    (hG : ∀ (X : Cx) (cdv : Value) (q : Str), X.prog = P → X.w = w → X.K = K → X.mg = mg → X.base = base → Room (k + 1) X.A → GivesTo X N x (defScope st) f cdv (defBody st) a q TT) : LamD P w K mg base k x a TT := by
  have kp := F.kp
  obtain ⟨oc, od, kV, doc, pm, an, cdv, ct, osl, rfl, lk, hcd⟩ := F.ex
  exact ⟨f, oc, kV, doc, pm, cdv, ct, od, an, osl, _, _, _, N, lk, hcd, hm, kp, hb, S, hN, hv, fun X q => hG X cdv q⟩
/-- x(lambda: body) -/
theorem pLam {X : Cx} {T : List (Addr × Str)} {TT : (XK → Hp → VK → Prop) → Hp → VK → Prop} {x a : Str} {c P : Addr} {k j : Nat} {params : Arguments} {body : Expr} {scope : Scope} {t : XK → TE} {p lpos pos : Pos}
    (D : LamD X.prog X.w X.K X.mg X.base j x a TT) (hr : Room (k + 2) X.A) (hr2 : Room (j + 1) X.A) (TB : TabB X.base X.mg c P) (hcode : X.env.code = .ref c) (hT : T = [(P, X.env.qual ++ "<lambda>")]) (L : LamS X.env.scope scope) (hdef : defaultsOf params X.env = ([], []))
    (hbind : ∀ (q : Str) (cl : List (Str × Addr)) (pm cv ctv : Value), bindArgs (PySem.W.kla_fn "<lambda>" q params body scope cl pm cv ctv) ⟨[], []⟩ = pure [])
    (hbody : ∀ (A : Around) (out : List Env) (s : Shared) (H : Hp) (E : XK) (f c' : Addr), Room k (A.deeper (lamEnv X scope s.heap.objs.size f c')) → PE (lamCx X A out s H E scope f c') body (t E)) (hg : Gl X x := by rfl)
    (hdb : (x == ("__debug__" : Str)) = false := by decide) (hd : (a == ("__debug__" : Str)) = false := by decide) (hcd : (a == ("__classdict__" : Str)) = false := by decide) :
    PE X (.Call (.Name x p) [.Lambda params body scope lpos] [] pos) (tLam T TT t) := by
  obtain ⟨g, oc, kV, doc, pm, cdv, ct, od, an, osl, pg, bg, sg, Ng, lk, hcg, hm, hk, hb, Sg, hN, hv, hG⟩ := D.ex
  subst hT
  refine pe_lamcall (c := c) (P := P) hg hm hk lk hcg hb Sg hN hv (hG X _ rfl rfl rfl rfl rfl hr2) TB hcode (List.mem_singleton.mpr rfl) (fun p hp e => ?_) hr L hdef hbind hbody hdb hd hcd
  rw [List.mem_singleton.mp hp]
theorem passLam {X : Cx} {A : Around} {out : List Env} {s : Shared} {H : Hp} {E : XK} {scope : Scope} {f c' : Addr} : Passes (L2.CX X.prog X.w) (lamCx X A out s H E scope f c') E :=
  passes_call (takes_of rfl rfl rfl rfl) (fun _ _ _ _ z => z)
theorem XC.names' {X : Cx} {K : PySem.W.Frag} {mg : Str → Option Value} {x : Str} {C : Addr} (c : XC K mg x C) (h1 : X.K = K) (h2 : X.mg = mg) (hg : Gl X x := by rfl) (hd : (x == ("__debug__" : Str)) = false := by decide) : Names X x (.ref C) := by
  subst h1 h2
  exact c.names hg hd
/-! tables stay -/
theorem _root_.LamX.Tabs.same {T : List (Addr × Str)} {H H' : Hp} (t : Tabs T H) (s : Same H H') : Tabs T H' := t.ext s
theorem _root_.LamX.Tabs.sameP {T : List (Addr × Str)} {H H' : Hp} {p : Addr} {xs : List V} (t : Tabs T H) (s : SameP p H H') (hp : H p = some (.lst xs)) : Tabs T H' := fun e he => by
  obtain ⟨ps, h1, h2, h3⟩ := t e he
  refine ⟨ps, s _ _ (ne_of h1 hp (by intro z; cases z)) h1, h2, fun pos cv hc => ?_⟩
  obtain ⟨c, e1, e2⟩ := h3 pos cv hc
  exact ⟨c, e1, s _ _ (ne_of e2 hp (by unfold CodeO; intro z; cases z)) e2⟩
end Xia

set_option Elab.async false
set_option linter.all false
set_option maxRecDepth 100000
set_option maxHeartbeats 4000000
/-! ### is not of truths; how long the text of a list of words is -/
namespace Xia
open PySem PySem.Spec PyProof.Rows L2 SX
def mNot2 : R2 := fun x y H Q => match x, y with
  | .bl a, .bl b => Q (.bl (!decide (a = b))) H
  | x, .non => Q (.bl (!decide (x = .non))) H
  | _, _ => False
theorem oIsNot2 {X : Cx} : OpR X (compareOp .IsNot) mNot2 := by
  intro pins s σ H x y v u Q I rx ry h
  unfold mNot2 at h
  split at h
  · exact op_isnot_bl pins s σ H _ _ v u Q I rx ry ⟨_, _, rfl, rfl, h⟩
  · exact op_notN pins s σ H _ _ v u Q I rx ry ⟨rfl, h⟩
  · exact h.elim
theorem len_cat (a b : Str) : (a ++ b).length = a.length + b.length := by
  have h := congrArg List.length (TL.tl_append a b)
  rw [List.length_append] at h
  exact (str_len (a ++ b)).symm.trans (h.trans (by show a.cps.toList.length + b.cps.toList.length = _; rw [str_len, str_len]))
theorem textFrom_le : ∀ (ts : List Str) (k : Nat) (acc : Str), (textFrom k acc ts).length ≤ acc.length + (ts.map fun t => t.length + 2).sum
  | [], k, acc => Nat.le_refl _
  | t :: r, k, acc => by
    have ih := textFrom_le r (k + 1) (acc ++ (if k > 0 then ", " else "" : String) ++ t)
    rw [len_cat, len_cat] at ih
    have h2 : ((if k > 0 then ", " else "" : String) : Str).length ≤ 2 := by
      by_cases c : k > 0
      · rw [if_pos c]; decide
      · rw [if_neg c]; decide
    rw [List.map_cons, List.sum_cons]
    refine Nat.le_trans ih ?_
    omega
def wordsD (us : List (List Nat)) : PyData := .list (us.map fun u => .str (S u))
theorem shownAll_words : ∀ us : List (List Nat), PyData.shownAll (us.map fun u => .str (S u)) = us.map fun u => reprText (S u)
  | [] => rfl
  | u :: us => congrArg (reprText (S u) :: ·) (shownAll_words us)
theorem showableAll_words : ∀ us : List (List Nat), PyData.showableAll (us.map fun u => .str (S u)) = true ∧ PyData.depthAll (us.map fun u => .str (S u)) = 0
  | [] => ⟨rfl, rfl⟩
  | u :: us => by
    obtain ⟨h1, h2⟩ := showableAll_words us
    exact ⟨by show (true && _) = true; rw [h1]; rfl, by show max 0 _ = 0; rw [h2]; rfl⟩
theorem letC_lt {c : Nat} (h : c ∈ letC) : c < 16 ^ 8 := by revert c; decide
theorem shows_words {us : List (List Nat)} (h1 : us.length ≤ 20) (h2 : ∀ u ∈ us, IsL u ∧ u.length ≤ 10000) : Shows (wordsD us) := by
  have hz := sizeLine_eq
  obtain ⟨g1, g2⟩ := showableAll_words us
  refine ⟨g1, ?_, ?_⟩
  · show PyData.depthAll (us.map fun u => .str (S u)) + 1 ≤ 60
    omega
  · show (listText (PyData.shownAll (us.map fun u => .str (S u)))).length ≤ sizeLine
    rw [shownAll_words]
    unfold listText
    rw [len_cat]
    have k := textFrom_le (us.map fun u => reprText (S u)) 0 "["
    have b : ∀ vs : List (List Nat), (∀ u ∈ vs, IsL u ∧ u.length ≤ 10000) → ((vs.map fun u => reprText (S u)).map fun t => t.length + 2).sum ≤ vs.length * 100004 := by
      intro vs
      induction vs with
      | nil => intro _; exact Nat.le_refl _
      | cons v vs ih =>
        intro hv
        have h3 := ih fun u hu => hv u (List.mem_cons_of_mem _ hu)
        obtain ⟨h4, h5⟩ := hv v (List.mem_cons_self ..)
        have h6 := StrLaws.reprText_len (S v) fun c hc => letC_lt (h4 c hc)
        have h7 : (S v).length = v.length := S_len v
        rw [h7] at h6
        rw [List.map_cons, List.map_cons, List.sum_cons, List.length_cons, Nat.succ_mul]
        refine Nat.le_trans (Nat.add_le_add (Nat.add_le_add_right h6 2) h3) ?_
        have h8 : 10 * v.length + 2 + 2 ≤ 100004 := by omega
        rw [Nat.add_comm]
        exact Nat.add_le_add_left h8 _
    have b2 := b us h2
    have e1 : (("[" : String) : Str).length = 1 := by decide
    have e2 : (("]" : String) : Str).length = 1 := by decide
    have b3 : us.length * 100004 ≤ 20 * 100004 := Nat.mul_le_mul_right _ h1
    rw [e1] at k
    rw [e2]
    omega
theorem dp_words {K : PySem.W.Frag} {H : Hp} : ∀ us : List (List Nat), DpAll K H (us.map fun u => V.str (S u)) (us.map fun u => PyData.str (S u))
  | [] => .nil
  | u :: r => .cons (.str _) (dp_words r)
end Xia

set_option Elab.async false
set_option linter.all false
set_option maxRecDepth 100000
set_option maxHeartbeats 4000000
/-! ### sorted of a list of data, any number of items -/
namespace Xia
open PySem PySem.Spec PyProof.Rows L2 SX
/-- sorted(xs): bs the items with the data that they stand for -/
def rSortD (K : PySem.W.Frag) : List V → Hp → VK → Prop := fun vs H Q => ∃ (a : Addr) (bs : List (V × PyData)), vs = [V.ref a] ∧ SqL K H a (bs.map (·.1)) ∧ (∀ b ∈ bs, Dp K H b.1 b.2 ∧ b.2.depth ≤ 50) ∧ PySem.W.AllAlike (bs.map (·.2)) ∧ PySem.W.Sortable (bs.map (·.2)) ∧
  ∀ p, H p = none → Q (.ref p) (upd H p (.lst ((bs.mergeSort (PySem.W.dataLe false (·.2))).map (·.1))))
theorem each_vals {bs : List (V × PyData)} : ∀ {us : List Value}, Vals (bs.map (·.1)) us → PySem.W.EachIs (fun u (b : V × PyData) => RelV b.1 u) us bs := by
  induction bs with
  | nil => intro us h; cases h; exact .nil
  | cons b bs ih =>
    intro us h
    cases h with
    | cons r rs => exact .cons r (ih rs)
theorem vals_each {bs : List (V × PyData)} : ∀ {us : List Value}, PySem.W.EachIs (fun u (b : V × PyData) => RelV b.1 u) us bs → Vals (bs.map (·.1)) us := by
  induction bs with
  | nil => intro us h; cases h; exact .nil
  | cons b bs ih =>
    intro us h
    cases h with
    | cons r rs => exact .cons r (ih rs)
theorem each_and {α β : Type} {R : α → β → Prop} {Z : α → β → Prop} : ∀ {as : List α} {bs : List β}, PySem.W.EachIs R as bs → (∀ a b, b ∈ bs → R a b → Z a b) → PySem.W.EachIs Z as bs
  | _, _, .nil, _ => .nil
  | _, _, .cons h t, k => .cons (k _ _ (List.mem_cons_self ..) h) (each_and t fun a b hb => k a b (List.mem_cons_of_mem _ hb))
theorem cSortD {X : Cx} {K : PySem.W.Frag} (hu : X.A.units + 64 < cLine) (hK : X.K = K := by rfl) : CallR X (.builtin "sorted") (rSortD K) := by
  subst hK
  intro pins s σ H vs us Q I r h
  obtain ⟨a, bs, rfl, hs, hd, hal, hk, q⟩ := h
  obtain ⟨its, rv, hl, hz⟩ := I.list hs
  rw [Vals.ref1 r]
  have e := each_vals rv
  have er := each_and e (Z := fun u b => ∃ as, Reads s.heap u b.2 as) fun u b hb hr => Dp.reads I b.2 b.1 u (hd b hb).1 hr
  rw [List.length_map] at hz
  refine PySem.W.sorted_data (enc := fun b : V × PyData => b.2) (R := fun u (b : V × PyData) => RelV b.1 u) hl.isList e er hal hk hz (fun b hb => by have := (hd b hb).2; omega) fun out ho he => ?_
  obtain ⟨ep, hat⟩ := PyProof.Rows.sortedAll_at s.heap its out.toArray
  have rv2 := vals_each he
  have hlen : ((bs.mergeSort (PySem.W.dataLe false fun b : V × PyData => b.2)).map (·.1)).length ≤ sizeLine := by rw [List.length_map, List.length_mergeSort]; exact hz
  exact ⟨.ref _, upd H (s.heap.objs.size + 1) (.lst _), I.laid (t' := s.toks) (fun _ _ => PyProof.Rows.sortedAll_old) (Nat.le_succ _) ⟨hlen, out, ep, rv2, hat⟩, rfl, q _ (I.hok.fresh (Nat.le_succ _))⟩
end Xia
/-! ### methods of lists, with the fragment named -/
namespace Xia
open PySem PySem.Spec PyProof.Rows L2
section
variable {X : Cx} {o e : Expr} {es : List Expr} {to te : TE} {t : TA} {name : Str} {apos cpos pos : Pos} {T id : String} {r : V → List V → Hp → VK → Prop}
theorem pe_bmK {K : PySem.W.Frag} (pa : PlainAttrs T) (slot : Slot T name id) (hty : typeOf (.builtin id) = pure (.type "method_descriptor")) (hm : MtR X id r) (ho : PE X o to) (ha : PA X (e :: es) t) (hK : X.K = K := by rfl)
    (hbase : attributeBase o name X.env (eval o X.env) = eval o X.env := by rfl)
    (hfew : ((backTo cpos (starEach (e :: es) X.env)).all (fun x => !x.1) && (backToKw cpos (keywordEach [] X.env)).all (fun x => x.1.isSome)
      && decide ((e :: es).length + ([] : List Keyword).length + (if ([] : List Keyword).isEmpty then 0 else 1) < 30)) = true := by rfl)
    (hline : (apos.endLine == cpos.line) = true := by rfl) (hs : starEach (e :: es) X.env = (false, eval e X.env) :: starEach es X.env := by rfl) (hplain : (backTo cpos (starEach es X.env)).any (·.1) = false := by rfl) :
    PE X (.Call (.Attribute o name apos) (e :: es) [] cpos) (tBM K T r to t) := by
  subst hK
  exact pe_bm pa slot hty hm ho ha hbase hfew hline hs hplain
def mJoin (K : PySem.W.Frag) : V → List V → Hp → VK → Prop := fun x xs H Q => ∃ a p, ∃ ys : List Str, x = .str a ∧ xs = [.ref p] ∧ (SqL K H p (ys.map V.str) ∨ SqT K H p (ys.map V.str)) ∧
    (ys.map (·.length)).sum + ys.length * a.length ≤ 16777216 ∧ Q (.str (Txt.join a ys)) H
theorem pe_joinK {K : PySem.W.Frag} (ho : PE X o to) (he : PE X e te) (hK : X.K = K := by rfl) (hs : starEach [e] X.env = [(false, eval e X.env)] := by rfl) (hbase : attributeBase o "join" X.env (eval o X.env) = eval o X.env := by rfl) (hline : (apos.endLine == pos.line) = true := by rfl) :
    PE X (.Call (.Attribute o "join" apos) [e] [] pos) (tM1 (mJoin K) to te) := by
  subst hK
  exact pe_join ho he hs hbase hline
end
end Xia

set_option Elab.async false
set_option linter.all false
set_option maxRecDepth 100000
set_option maxHeartbeats 4000000
set_option exponentiation.threshold 4096
/-! Own: the tables of sets with up to 1,228 members (masks 7 to 2047). -/
namespace Xia
open PySem PySem.Spec PyProof.Rows L2

def Mk (m : Nat) : Prop := m ∈ [7, 31, 127, 511, 2047]
theorem Mk.cases {m : Nat} (h : Mk m) : m = 7 ∨ m = 31 ∨ m = 127 ∨ m = 511 ∨ m = 2047 := by
  unfold Mk at h
  simpa using h
/-- the signs met on the round from x on, as bits -/
def orbit (m : Nat) : Nat → Nat → Nat → Nat
  | 0, _, acc => acc
  | n + 1, x, acc => orbit m n ((x * 5 + 1) % (m + 1)) (acc ||| 2 ^ x)
theorem orbit_bit {m j : Nat} : ∀ (n k acc : Nat), (orbit m n (lcgN m k) acc).testBit j = true → acc.testBit j = true ∨ ∃ a, a < k + n ∧ lcgN m a = j
  | 0, k, acc, h => .inl h
  | n + 1, k, acc, h => by
    have h' : (orbit m n (lcgN m (k + 1)) (acc ||| 2 ^ lcgN m k)).testBit j = true := h
    rcases orbit_bit n (k + 1) _ h' with z | ⟨a, ha, e⟩
    · rw [Nat.testBit_or, Bool.or_eq_true] at z
      rcases z with z | z
      · exact .inl z
      · refine .inr ⟨k, by omega, ?_⟩
        rw [Nat.testBit_two_pow] at z
        exact of_decide_eq_true z
    · exact .inr ⟨a, by omega, e⟩
theorem orb7 : orbit 7 8 0 0 = 2 ^ 8 - 1 := by decide +kernel
theorem orb31 : orbit 31 32 0 0 = 2 ^ 32 - 1 := by decide +kernel
theorem orb127 : orbit 127 128 0 0 = 2 ^ 128 - 1 := by decide +kernel
theorem orb511 : orbit 511 512 0 0 = 2 ^ 512 - 1 := by decide +kernel
theorem orb2047 : orbit 2047 2048 0 0 = 2 ^ 2048 - 1 := by decide +kernel
theorem met0 {m j : Nat} (hm : Mk m) (hj : j ≤ m) : ∃ a, a ≤ m ∧ lcgN m a = j := by
  have key : ∀ n, orbit n (n + 1) 0 0 = 2 ^ (n + 1) - 1 → j ≤ n → ∃ a, a ≤ n ∧ lcgN n a = j := fun n h hj => by
    have b : (orbit n (n + 1) (lcgN n 0) 0).testBit j = true := by
      show (orbit n (n + 1) 0 0).testBit j = true
      rw [h, Nat.testBit_two_pow_sub_one]
      exact decide_eq_true (by omega)
    rcases orbit_bit (n + 1) 0 0 b with z | ⟨a, ha, e⟩
    · rw [Nat.zero_testBit] at z
      cases z
    · exact ⟨a, by omega, e⟩
  rcases hm.cases with rfl | rfl | rfl | rfl | rfl
  · exact key 7 orb7 hj
  · exact key 31 orb31 hj
  · exact key 127 orb127 hj
  · exact key 511 orb511 hj
  · exact key 2047 orb2047 hj
theorem round0 {m : Nat} (hm : Mk m) : lcgN m (m + 1) = 0 := by
  rcases hm.cases with rfl | rfl | rfl | rfl | rfl <;> decide +kernel
theorem round_add {m : Nat} (hm : Mk m) (k : Nat) : lcgN m (m + 1 + k) = lcgN m k := by
  induction k with
  | zero => exact round0 hm
  | succ k ih => exact congrArg (fun z => (z * 5 + 1) % (m + 1)) ih
theorem met_from {m i j : Nat} (hm : Mk m) (hi : i ≤ m) (hj : j ≤ m) : ∃ k, k ≤ m ∧ lcgI m i k = j := by
  obtain ⟨a, ha, rfl⟩ := met0 hm hi
  obtain ⟨b, hb, rfl⟩ := met0 hm hj
  by_cases c : a ≤ b
  · exact ⟨b - a, by omega, by rw [lcgN_add, Nat.add_sub_cancel' c]⟩
  · refine ⟨m + 1 + b - a, by omega, ?_⟩
    rw [lcgN_add, Nat.add_sub_cancel' (by omega : a ≤ m + 1 + b), round_add hm]
theorem run_met {m j : Nat} (hm : Mk m) (h : Int) (hj : j ≤ m) : ∃ n, n ≤ m + 12 ∧ runI m (SetTable.bits h) n = j :=
  let ⟨k, hk, e⟩ := met_from hm (runI_le m (SetTable.bits h) 12) hj
  ⟨12 + k, by omega, (runI_tail (bits_lt h) k).trans e⟩
theorem way_met {m j : Nat} (hm : Mk m) (h : Int) (hj : j ≤ m) : ∃ k, k < 10 * SetTable.turns m ∧ way m h k = j := by
  obtain ⟨n, hn, e⟩ := run_met hm h hj
  obtain ⟨k, hk, z⟩ := run_nth m (SetTable.bits h) n
  refine ⟨k, ?_, by show (nth m _ k).j = j; rw [z]; exact e⟩
  show k < 10 * (m + _)
  omega
theorem way_in (m : Nat) (h : Int) (k : Nat) : way m h k ≤ m := by
  have b : SetTable.bits h % (m + 1) ≤ m := Nat.lt_succ_iff.mp (Nat.mod_lt _ (Nat.succ_pos _))
  have e := runEnd_bd b
  have z : (runAt m (SetTable.bits h % (m + 1)) (SetTable.bits h)).j + (runAt m (SetTable.bits h % (m + 1)) (SetTable.bits h)).more ≤ m := by
    show SetTable.bits h % (m + 1) + (_ - SetTable.bits h % (m + 1)) ≤ m
    omega
  exact Nat.le_trans (Nat.le_add_right _ _) (nth_in k _ z)

/-- each slot of the table is found again by its hash -/
structure TabX (t : SetTable) (hs : List Int) : Prop where
  up : Ris t.place.toList
  nod : t.dummies = #[]
  len : t.place.toList.length = hs.length
  msk : Mk t.mask
  low : ∀ x ∈ t.place.toList, x ≤ t.mask
  back : ∀ (i : Nat) (h : Int) (j : Nat), hs[i]? = some h → t.place.toList[i]? = some j → ∃ k, way t.mask h k = j ∧ ∀ l < k, way t.mask h l ∈ t.place.toList
/-- K: the first step of the way that meets an empty slot -/
structure Gap (t : SetTable) (h : Int) (K : Nat) : Prop where
  out : way t.mask h K ∉ t.place.toList
  ins : ∀ k < K, way t.mask h k ∈ t.place.toList
theorem TabX.gap {t : SetTable} {hs : List Int} (T : TabX t hs) (room : hs.length ≤ t.mask) (h : Int) : ∃ K, K < 10 * SetTable.turns t.mask ∧ Gap t h K := by
  obtain ⟨j, hj, hn⟩ := st_missing t.place.toList (t.mask + 1) (by rw [T.len]; omega)
  obtain ⟨k, hk, e⟩ := way_met T.msk h (Nat.lt_succ_iff.mp hj)
  obtain ⟨K, a, b, c⟩ := st_least (p := fun q => ¬ way t.mask h q ∈ t.place.toList) k (by rw [show way t.mask h k = j from e]; exact hn)
  exact ⟨K, by omega, b, fun q hq => Classical.not_not.mp (c q hq)⟩
theorem TabX.ahead {t : SetTable} {hs : List Int} (T : TabX t hs) {h : Int} {K i j : Nat} (G : Gap t h K) (hi : hs[i]? = some h) (hj : t.place.toList[i]? = some j) : ∃ k < K, way t.mask h k = j := by
  obtain ⟨k, e, z⟩ := T.back i h j hi hj
  refine ⟨k, Nat.lt_of_not_le fun c => G.out ?_, e⟩
  rcases Nat.lt_or_eq_of_le c with c | rfl
  · exact z K c
  · rw [e]; exact List.mem_of_getElem? hj
theorem TabX.put {t : SetTable} {hs : List Int} (T : TabX t hs) {h : Int} {K : Nat} (G : Gap t h K) :
    ∃ p t1, t.put (way t.mask h K) = (t1, p) ∧ p ≤ hs.length ∧ TabX t1 (hs.take p ++ h :: hs.drop p) ∧ t1.mask = t.mask ∧ t1.led = t.led ∧ t1.plain = t.plain ∧ t1.place.size = hs.length + 1 ∧ t1.fill = hs.length + 1 := by
  generalize hj : way t.mask h K = j
  have jm : j ≤ t.mask := hj ▸ way_in t.mask h K
  have jo : j ∉ t.place.toList := hj ▸ G.out
  generalize hp : SetTable.below t.place j = p
  have cut : Cut t.place j p := hp ▸ below_cut T.up j
  have pl : p ≤ t.place.toList.length := by rw [Array.length_toList]; exact cut.1
  have ph : p ≤ hs.length := T.len ▸ pl
  have e1 : (t.put j).1.place.toList = t.place.toList.take p ++ j :: t.place.toList.drop p := hp ▸ put_place t j
  have sz : (t.put j).1.place.size = hs.length + 1 := by rw [← Array.length_toList, e1, len_ins _ pl, T.len]
  have sub : ∀ {x}, x ∈ t.place.toList → x ∈ (t.put j).1.place.toList := fun hx => by rw [e1]; exact mem_ins.mpr (.inr hx)
  have ne : t.place[SetTable.below t.place j]? ≠ some j := fun e => jo (List.mem_of_getElem? (Array.getElem?_toList.trans e))
  refine ⟨p, (t.put j).1, Prod.ext rfl hp, ph, ⟨ris_insert T.up ne, put_dm T.nod j, ?_, T.msk, ?_, ?_⟩, rfl, rfl, rfl, sz, ?_⟩
  · rw [e1, len_ins _ pl, len_ins _ ph, T.len]
  · intro x hx
    rw [e1] at hx
    rcases mem_ins.mp hx with rfl | hx
    · exact jm
    · exact T.low x hx
  · intro i h' j' a b
    rw [tins_get hs ph] at a
    rw [e1, tins_get _ pl] at b
    show ∃ k, way t.mask h' k = j' ∧ ∀ l < k, way t.mask h' l ∈ (t.put j).1.place.toList
    split at a
    · rename_i c
      rw [if_pos c] at b
      obtain ⟨k, u, v⟩ := T.back i h' j' a b
      exact ⟨k, u, fun l hl => sub (v l hl)⟩
    · rename_i c
      rw [if_neg c] at b
      split at a
      · rename_i d
        rw [if_pos d] at b
        cases a
        cases b
        exact ⟨K, hj, fun l hl => sub (G.ins l hl)⟩
      · rename_i d
        rw [if_neg d] at b
        obtain ⟨k, u, v⟩ := T.back (i - 1) h' j' a b
        exact ⟨k, u, fun l hl => sub (v l hl)⟩
  · show (t.put j).1.place.size + (t.put j).1.dummies.size = _
    rw [put_dm T.nod j, sz]
    rfl

/-! ### all laid anew -/
theorem free_met {m j : Nat} (hm : Mk m) (owner : Array (Option Nat)) (h : Int) (hj : j ≤ m) (hf : oAt owner j = none) :
    ∃ K, SetTable.layClean.free m owner (SetTable.turns m) (SetTable.bits h % (m + 1)) (SetTable.bits h) = some (way m h K) ∧ oAt owner (way m h K) = none ∧ ∀ k < K, oAt owner (way m h k) ≠ none := by
  obtain ⟨n, hn, e⟩ := run_met hm h hj
  generalize hi : SetTable.bits h % (m + 1) = i0
  have w0 : ∀ k, (nth m (runAt m i0 (SetTable.bits h)) k).j = way m h k := fun k => by rw [← hi]
  have last : way m h (off m i0 (SetTable.bits h) n) = j := by
    rw [← w0, nth_off, ← hi, itL_run]
    exact e
  obtain ⟨K, a, b, c⟩ := st_least (p := fun q => oAt owner (way m h q) = none) _ (by rw [last]; exact hf)
  refine ⟨K, ?_, b, c⟩
  rw [← w0]
  refine free_spec m owner _ n i0 _ K (by show n < m + _; omega) a (fun k hk => ?_) (by rw [w0, b]; rfl)
  rw [w0]
  cases z : oAt owner (way m h k) with
  | none => exact absurd z (c k hk)
  | some _ => rfl
theorem own_step {m : Nat} (hm : Mk m) {done : List Int} {owner : Array (Option Nat)} (O : Own m done owner) (room : done.length ≤ m) (h : Int) :
    ∃ j, SetTable.layClean.free m owner (SetTable.turns m) (SetTable.bits h % (m + 1)) (SetTable.bits h) = some j ∧ Own m (done ++ [h]) (owner.setIfInBounds j (some done.length)) := by
  obtain ⟨ps, lp, ip⟩ := O.ps
  obtain ⟨j0, lj, nj⟩ := st_missing ps (m + 1) (by omega)
  have jm0 : j0 ≤ m := Nat.lt_succ_iff.mp lj
  have f0 : oAt owner j0 = none := Classical.byContradiction fun z => nj (ip j0 jm0 z)
  obtain ⟨K, e, fK, bK⟩ := free_met hm owner h jm0 f0
  generalize hj : way m h K = j at e fK
  have jm : j ≤ m := hj ▸ way_in m h K
  have self := oAt_set_self (owner := owner) (j := j) (some done.length) (by rw [O.sz]; omega)
  have oth : ∀ i, i ≠ j → oAt (owner.setIfInBounds j (some done.length)) i = oAt owner i := fun i c => oAt_set_ne _ c
  have keeps : ∀ i, oAt owner i ≠ none → oAt (owner.setIfInBounds j (some done.length)) i ≠ none := fun i z => by
    by_cases c : i = j
    · subst c; rw [self]; simp
    · rw [oth i c]; exact z
  refine ⟨j, e, ⟨by rw [Array.size_setIfInBounds]; exact O.sz, fun i k hi ek => ?_, fun k hk => ?_, ⟨j :: ps, by simp [lp], fun i hi z => ?_⟩⟩⟩
  · by_cases c : i = j
    · subst c
      rw [self] at ek
      cases ek
      exact ⟨h, K, by simp, hj, fun k' hk' => keeps _ (bK k' hk')⟩
    · rw [oth i c] at ek
      obtain ⟨h', K', a1, a2, a3⟩ := O.at_ i k hi ek
      exact ⟨h', K', by rw [List.getElem?_append_left (List.getElem?_eq_some_iff.mp a1).1]; exact a1, a2, fun k' hk' => keeps _ (a3 k' hk')⟩
  · rw [List.length_append, List.length_singleton] at hk
    rcases Nat.lt_succ_iff_lt_or_eq.mp hk with c | rfl
    · obtain ⟨i, hi, ei⟩ := O.all k c
      exact ⟨i, hi, by rw [oth i fun z => by rw [z, fK] at ei; cases ei]; exact ei⟩
    · exact ⟨j, jm, self⟩
  · by_cases c : i = j
    · exact c ▸ List.mem_cons_self
    · rw [oth i c] at z
      exact List.mem_cons_of_mem _ (ip i hi z)
theorem own_all {m : Nat} (hm : Mk m) : ∀ (rest done : List Int) (owner : Array (Option Nat)), Own m done owner → done.length + rest.length ≤ m →
    ∃ ow, rest.foldl (stepF m) (some (owner, done.length)) = some (ow, done.length + rest.length) ∧ Own m (done ++ rest) ow
  | [], done, owner, O, _ => ⟨owner, rfl, by rw [List.append_nil]; exact O⟩
  | h :: rest, done, owner, O, room => by
    have room' : done.length + (rest.length + 1) ≤ m := room
    obtain ⟨j, e, O1⟩ := own_step hm O (by omega) h
    have l1 : (done ++ [h]).length = done.length + 1 := by simp
    obtain ⟨ow, f, O2⟩ := own_all hm rest _ _ O1 (by rw [l1]; omega)
    rw [l1] at f
    refine ⟨ow, ?_, by rw [List.append_assoc] at O2; exact O2⟩
    rw [List.foldl_cons, stepF_some e, f]
    show some (ow, done.length + 1 + rest.length) = some (ow, done.length + (rest.length + 1))
    rw [show done.length + 1 + rest.length = done.length + (rest.length + 1) by omega]
theorem lay_ok {m : Nat} (hm : Mk m) {hs : Array Int} (hn : hs.size ≤ m) : ∃ ow, SetTable.layClean m hs = some ow ∧ Own m hs.toList ow := by
  obtain ⟨ow, f, O⟩ := own_all hm hs.toList [] _ (Own.init m) (by show 0 + hs.size ≤ m; omega)
  refine ⟨ow, ?_, O⟩
  rw [layClean_eq]
  exact congrArg (Option.map (·.1)) f
theorem relaid_new (t : SetTable) {hs : Array Int} {wanted M : Nat} (hw : SetTable.sizeAbove wanted = M + 1) (hM : Mk M) (hn : hs.size ≤ M) :
    ∃ t' order, t.relaid hs wanted = some (t', order) ∧ order.toList.Perm (List.range hs.size) ∧ TabX t' (order.toList.map fun i => hs.getD i 0) ∧ t'.mask = M ∧ t'.led = t.led ∧ t'.plain = t.plain := by
  obtain ⟨ow, e, O⟩ := lay_ok hM hn
  generalize hV : liveOf M ow = V
  have mV : ∀ {j k}, (j, k) ∈ V ↔ j ≤ M ∧ oAt ow j = some k := fun {j k} => hV ▸ mem_live O.sz
  obtain ⟨r1, r2⟩ := ris_live (fun j => ow.getD j none) (List.range (M + 1)) (ris_range (M + 1) |> fun z => by simpa using z)
  have r1 : Ris (V.map (·.1)) := hV ▸ r1
  have r2 : ∀ x ∈ V.map (·.1), x ∈ List.range (M + 1) := hV ▸ r2
  have len : V.length = hs.size := by
    obtain ⟨ps, lp, ip⟩ := O.ps
    have nd : (V.map (·.1)).Nodup := List.Pairwise.imp (fun c => Nat.ne_of_lt c) r1
    have u := nat_nodup_len (V.map (·.1)) ps nd fun x hx => by
      obtain ⟨⟨y, k⟩, hq, rfl⟩ := List.mem_map.mp hx
      obtain ⟨b1, b2⟩ := mV.mp hq
      exact ip y b1 (by rw [b2]; simp)
    have v := nat_nodup_len (List.range hs.size) (V.map (·.2)) List.nodup_range fun k hk => by
      obtain ⟨j, b⟩ := O.all k (List.mem_range.mp hk)
      exact List.mem_map.mpr ⟨(j, k), mV.mpr b, rfl⟩
    rw [List.length_map] at u v
    rw [List.length_range] at v
    rw [lp] at u
    have u' : V.length ≤ hs.size := u
    have v' : hs.size ≤ V.length := v
    omega
  refine ⟨L2.tabOf t M ow, (V.map (·.2)).toArray, ?_, ?_, ⟨(by show Ris ((liveOf M ow).map (·.1)); rw [hV]; exact r1), rfl, ?_, hM, fun x hx => ?_, fun i h j a b => ?_⟩, rfl, rfl, rfl⟩
  · rw [relaid_eq, hw, Nat.add_sub_cancel, e, ← hV]
    rfl
  · refine perm_range hs.size _ (by rw [List.length_map, len]) fun k hk => ?_
    obtain ⟨j, b⟩ := O.all k hk
    exact List.mem_map.mpr ⟨(j, k), mV.mpr b, rfl⟩
  · show ((liveOf M ow).map (·.1)).length = ((V.map (·.2)).map _).length
    rw [hV, List.length_map, List.length_map, List.length_map]
  · have hx : x ∈ (liveOf M ow).map (·.1) := hx
    rw [hV] at hx
    exact Nat.lt_succ_iff.mp (List.mem_range.mp (r2 x hx))
  · have a : ((V.map (·.2)).map fun i => hs.getD i 0)[i]? = some h := a
    have b : ((liveOf M ow).map (·.1))[i]? = some j := b
    rw [hV] at b
    obtain ⟨⟨y, k⟩, hq, rfl⟩ := List.getElem?_map .. ▸ b |> Option.map_eq_some_iff.mp
    rw [List.getElem?_map, List.getElem?_map, hq] at a
    obtain ⟨b1, b2⟩ := mV.mp (List.mem_of_getElem? hq)
    obtain ⟨h0, K, a1, a2, a3⟩ := O.at_ y k b1 b2
    have eh : h0 = h := by
      have a : hs.getD k 0 = h := Option.some.inj a
      rw [← a, Array.getD_eq_getD_getElem?, ← Array.getElem?_toList, a1]
      rfl
    subst eh
    refine ⟨K, a2, fun l hl => ?_⟩
    show way M h0 l ∈ (liveOf M ow).map (·.1)
    rw [hV]
    cases z : oAt ow (way M h0 l) with
    | none => exact absurd z (a3 l hl)
    | some k2 => exact List.mem_map.mpr ⟨(_, k2), mV.mpr ⟨way_in M h0 l, z⟩, rfl⟩
theorem grow5 : SetTable.sizeAbove (SetTable.grown 5) = 32 := by decide +kernel
theorem grow19 : SetTable.sizeAbove (SetTable.grown 19) = 128 := by decide +kernel
theorem grow77 : SetTable.sizeAbove (SetTable.grown 77) = 512 := by decide +kernel
theorem grow307 : SetTable.sizeAbove (SetTable.grown 307) = 2048 := by decide +kernel
end Xia

set_option Elab.async false
set_option linter.all false
set_option maxRecDepth 100000
set_option maxHeartbeats 4000000
/-! Own: sets with their members in the table's order; adding to sets of texts (by scan) and to sets of tuples (by search). -/
namespace Xia
open PySem PySem.Spec PyProof.Rows L2

theorem perm_map_of {α β : Type} (f : α → β) : ∀ {l m : List β}, l.Perm m → ∀ L : List α, m = L.map f → ∃ L' : List α, L'.Perm L ∧ l = L'.map f := by
  intro l m p
  induction p with
  | nil => intro L e; exact ⟨[], by rw [List.map_eq_nil_iff.mp e.symm], rfl⟩
  | cons x _ ih =>
    intro L e
    match L, e with
    | a :: L, e =>
      rw [List.map_cons] at e
      injection e with e1 e2
      obtain ⟨L', p', rfl⟩ := ih L e2
      exact ⟨a :: L', p'.cons a, by rw [List.map_cons, e1]⟩
  | swap x y l =>
    intro L e
    match L, e with
    | [a], e => simp at e
    | a :: b :: L, e =>
      simp only [List.map_cons, List.cons.injEq] at e
      obtain ⟨rfl, rfl, rfl⟩ := e
      exact ⟨b :: a :: L, .swap a b L, rfl⟩
  | trans _ _ ih1 ih2 =>
    intro L e
    obtain ⟨L1, p1, e1⟩ := ih2 L e
    obtain ⟨L2, p2, e2⟩ := ih1 L1 e1
    exact ⟨L2, p2.trans p1, e2⟩

/-- the order in which a set is walked can be told -/
def Tells (w : World) (t : SetTable) : Prop := w.params.followText "set-order" = true ∨ t.led = true
def ent {κ : Type} (hash : κ → Int) (p : κ × Value) : Int × Value := (hash p.1, p.2)
/-- the set at a: its members with their keys, in the table's order -/
structure Mem {κ : Type} (w : World) (hash : κ → Int) (h : Heap) (a : Addr) (L : List (κ × Value)) (es : Array (Int × Value)) (ep : Nat) (t : SetTable) : Prop where
  ob : ∃ o, h.get? a = some o ∧ o.ExactSet ∧ o.data = .set es ep t
  rows : es.toList = L.map (ent hash)
  fit : t.fits es.size = true
  up : Ris t.place.toList
  tells : Tells w t
  nd : (L.map (·.1)).Nodup
section
variable {κ : Type} {w : World} {hash : κ → Int} {h h' : Heap} {a : Addr} {L : List (κ × Value)} {es : Array (Int × Value)} {ep : Nat} {t : SetTable}
theorem Mem.keep (R : Mem w hash h a L es ep t) (k : ∀ o, h.get? a = some o → h'.get? a = some o) : Mem w hash h' a L es ep t :=
  let ⟨o, ho, r⟩ := R.ob
  ⟨⟨o, k o ho, r⟩, R.rows, R.fit, R.up, R.tells, R.nd⟩
theorem Mem.size (R : Mem w hash h a L es ep t) : es.size = L.length := by
  have e := congrArg List.length R.rows
  rwa [List.length_map, Array.length_toList] at e
theorem Mem.vals (R : Mem w hash h a L es ep t) : es.toList.map (·.2) = L.map (·.2) := by
  rw [R.rows, List.map_map]
  rfl
theorem Mem.entry (R : Mem w hash h a L es ep t) (i : Nat) : es[i]? = (L[i]?).map (ent hash) := by
  rw [← Array.getElem?_toList, R.rows, List.getElem?_map]
end

/-! ### texts and other keys that a set scans -/
section
variable {P : Program} {w : World} {A : Around} {E : Value → Shared → Prop} {s : Shared} {κ : Type} [DecidableEq κ] {knd : KeyKind P w κ} {a : Addr} {L : List (κ × Value)} {es : Array (Int × Value)} {ep : Nat} {t : SetTable}
/-- each value is its key's, and can be scanned -/
def Own1 (knd : KeyKind P w κ) (L : List (κ × Value)) : Prop := ∀ p ∈ L, knd.is p.1 p.2 = true ∧ p.2.scannable = true
theorem Own1.elems (g : Own1 knd L) (e : es.toList = L.map (ent knd.hash)) : ElemsOf knd es.toList := fun x hx => by
  rw [e] at hx
  obtain ⟨p, hp, rfl⟩ := List.mem_map.mp hx
  exact ⟨⟨p.1, (g p hp).1, rfl⟩, (g p hp).2⟩
theorem scan_tail {g : Bool → Sem Unit} (hg : ∀ (b : Bool) (s₁ : Shared) (Q' : Unit → Shared → Prop), Q' () s₁ → wpAny (model P w) A (g b) Q' E s₁) {o : Obj} (ho : s.heap.get? a = some o) (hex : o.ExactSet) (hd : o.data = .set es ep t)
    {es1 : Array (Int × Value)} {t2 : SetTable} {L1 : List (κ × Value)} {wasDummy : Bool} {Z : Option Bool → Shared → Prop} (few : L1.length < scanBound) (e1 : es1.toList = L1.map (ent knd.hash)) (f2 : t2.fits es1.size = true) (u2 : Ris t2.place.toList) (l2 : Tells w t2) (nd : (L1.map (·.1)).Nodup)
    (hZ : ∀ h' L' es' ep' t', Heap.SameBut a s.heap h' → Mem w knd.hash h' a L' es' ep' t' → L'.Perm L1 → Z (some true) { s with heap := h' }) :
    wpAny (model P w) A (do storeSet a es1 t2
                            if (!wasDummy && t2.tooFull) = true then do g (relayAll t2 es1 (SetTable.grown es1.size)).2.2
                                                                        storeSet a (relayAll t2 es1 (SetTable.grown es1.size)).1 (relayAll t2 es1 (SetTable.grown es1.size)).2.1
                                                                        pure (some true)
                            else pure (some true)) Z E s := by
  have n1 : es1.size = L1.length := by
    have := congrArg List.length e1
    rwa [List.length_map, Array.length_toList] at this
  refine wpAny_bind (wpAny_storeSet_of ho hd ?_ (fits_of_scanBound (n1 ▸ few)))
  have at1 := store_at (es' := es1) (t' := t2) ho hd
  have sb := Heap.SameBut.update s.heap a (Obj.putSet es1 t2)
  split
  · have p3 := relayAll_perm t2 es1 (SetTable.grown es1.size)
    have f3 := relayAll_fits t2 es1 (SetTable.grown es1.size)
    have u3 := relayAll_ris t2 es1 (SetTable.grown es1.size)
    have l3 := relayAll_led t2 es1 (SetTable.grown es1.size)
    generalize relayAll t2 es1 (SetTable.grown es1.size) = Y at p3 f3 u3 l3 ⊢
    obtain ⟨es2, t3, gave⟩ := Y
    dsimp only at p3 f3 u3 l3 ⊢
    obtain ⟨L', pL, eL⟩ := perm_map_of (ent knd.hash) p3 L1 e1
    have n2 : es2.size = L1.length := by
      have := congrArg List.length eL
      rwa [List.length_map, Array.length_toList, pL.length_eq] at this
    refine wpAny_bind (hg _ _ _ (wpAny_bind (wpAny_storeSet_of at1 rfl ?_ (fits_of_scanBound (n2 ▸ few)))))
    exact wpAny_pure (hZ _ L' es2 _ t3 (sb.trans (Heap.SameBut.update _ a _)) ⟨⟨_, store_at (es' := es2) (t' := t3) at1 rfl, hex, rfl⟩, eL, f3, u3, l2.imp id fun z => l3.trans z, (pL.map (·.1)).nodup_iff.mpr nd⟩ pL)
  · exact wpAny_pure (hZ _ L1 es1 _ t2 sb ⟨⟨_, at1, hex, rfl⟩, e1, f2, u2, l2, nd⟩ (List.Perm.refl _))
theorem scan_add {k : κ} {x : Value} {Q : Bool → Shared → Prop} (R : Mem w knd.hash s.heap a L es ep t) (g : Own1 knd L) (hkey : knd.is k x = true) (hsc : x.scannable = true) (few : L.length + 1 < scanBound)
    (hQ : ∀ b h' L' es' ep' t', Heap.SameBut a s.heap h' → Mem w knd.hash h' a L' es' ep' t' → (k ∈ L.map (·.1) → L' = L) → (k ∉ L.map (·.1) → L'.Perm ((k, x) :: L)) → Q b { s with heap := h' }) :
    wpAny (model P w) A (setAddHashed a x (knd.hash k)) Q E s := by
  obtain ⟨o, ho, hex, hd⟩ := R.ob
  have hel := g.elems R.rows
  have hn := R.size
  unfold setAddHashed setAddHashedIn
  refine wpAny_holding (wpAny_bind (wpAny_setState_of ho hd R.fit ?_))
  dsimp only
  rw [byScan_of hsc (by omega) hel]
  simp only [↓reduceIte]
  unfold setAddByScan
  refine wpAny_bind (wpAny_bind (wpAny_rule (wpAny_bind (wpAny_setScan_of hkey ho hd R.fit hel ?_))))
  cases hfi : List.findIdx? (fun e => knd.is k e.2) es.toList with
  | some j =>
    dsimp only
    obtain ⟨hj, pj, _⟩ := List.findIdx?_eq_some_iff_getElem.mp hfi
    have hm : k ∈ L.map (·.1) := by
      have hz : es.toList[j] ∈ L.map (ent knd.hash) := R.rows ▸ List.getElem_mem hj
      obtain ⟨p, hp, e⟩ := List.mem_map.mp hz
      rw [← e] at pj
      exact List.mem_map.mpr ⟨p, hp, knd.inj _ _ _ (g p hp).1 pj⟩
    exact wpAny_pure (wpAny_pure (hQ false s.heap L es ep t (Heap.SameBut.refl a s.heap) R (fun _ => rfl) fun z => absurd hm z))
  | none =>
    dsimp only
    have hm : k ∉ L.map (·.1) := fun z => by
      obtain ⟨p, hp, e⟩ := List.mem_map.mp z
      have c := List.findIdx?_eq_none_iff.mp hfi (ent knd.hash p) (R.rows ▸ List.mem_map.mpr ⟨p, hp, rfl⟩)
      have c' : knd.is k p.2 = false := c
      rw [← e, (g p hp).1] at c'
      cases c'
    have gone : ∀ (b : Bool) (s₁ : Shared) (Q' : Unit → Shared → Prop), Q' () s₁ → wpAny (model P w) A (match b with | true => rule "set.scan.the-table-gave-way" | false => pure ()) Q' E s₁ := by
      intro b s₁ Q' q
      cases b
      · exact wpAny_pure q
      · exact wpAny_rule q
    have p1 := layNew_perm t es (knd.hash k) x
    have f1 := layNew_fits t es (knd.hash k) x
    have u1 := layNew_ris t es (knd.hash k) x R.up
    have l1 := layNew_led t es (knd.hash k) x
    generalize layNew t es (knd.hash k) x = Y at p1 f1 u1 l1 ⊢
    obtain ⟨es1, t1, wasDummy, gave⟩ := Y
    dsimp only at p1 f1 u1 l1 ⊢
    rw [Array.toList_push] at p1
    have p2 : es1.toList.Perm (((k, x) :: L).map (ent knd.hash)) := by
      rw [List.map_cons, ← R.rows]
      exact p1.trans (List.perm_append_singleton _ _)
    obtain ⟨L1, pL, eL⟩ := perm_map_of (ent knd.hash) p2 _ rfl
    have nd1 : (L1.map (·.1)).Nodup := (pL.map (·.1)).nodup_iff.mpr (List.nodup_cons.mpr ⟨hm, R.nd⟩)
    have few1 : L1.length < scanBound := by rw [pL.length_eq]; exact few
    have tl : ∀ b, Tells w (if b = true then t1 else { t1 with plain := false }) := fun b => R.tells.imp id fun z => by cases b <;> exact l1.trans z
    refine wpAny_bind (gone _ _ _ ?_)
    have fin : ∀ h' L' es' ep' t', Heap.SameBut a s.heap h' → Mem w knd.hash h' a L' es' ep' t' → L'.Perm L1 → wpAny (model P w) A (pure true) Q E { s with heap := h' } := fun h' L' es' ep' t' sb m p =>
      wpAny_pure (hQ true h' L' es' ep' t' sb m (fun z => absurd z hm) fun _ => p.trans pL)
    split
    · refine wpAny_bind ?_
      rw [hashByValue_scannable 8 hsc]
      refine wpAny_pure (scan_tail gone ho hex hd few1 eL ?_ ?_ (tl _) nd1 fun h' L' es' ep' t' sb m p => ?_)
      · split
        · exact f1
        · exact SetTable.fits_plain_off f1
      · split <;> exact u1
      · exact fin h' L' es' ep' t' sb m p
    · refine wpAny_bind (wpAny_pure ?_)
      simp only [↓reduceIte]
      exact scan_tail gone ho hex hd few1 eL f1 u1 (tl true) nd1 fun h' L' es' ep' t' sb m p => fin h' L' es' ep' t' sb m p
end
end Xia

set_option Elab.async false
set_option linter.all false
set_option maxRecDepth 100000
set_option maxHeartbeats 4000000
/-! Own: adding to sets of tuples of ints and texts, up to 1,227 members. -/
namespace Xia
open PySem PySem.Spec PyProof.Rows L2

section
variable {P : Program} {w : World} {A : Around} {E : Value → Shared → Prop} {s : Shared}
/-- the tuple at b is the key k -/
abbrev IsP (P : Program) (w : World) (h : Heap) (k : List Key) (b : Addr) : Prop := IsTupleKey (mixKind P w) h k b
abbrev hashP (P : Program) (w : World) (k : List Key) : Int := tupleKeyHash (mixKind P w) k
theorem mix_shape {k : Key} {v : Value} (h : (mixKind P w).is k v = true) : v.scannable = true ∧ ∀ a, v ≠ .ref a := by
  rcases keyIs_shape h with ⟨i, t, rfl, rfl⟩ | ⟨x, t, rfl, rfl⟩
  · exact ⟨rfl, fun a e => nomatch e⟩
  · exact ⟨rfl, fun a e => nomatch e⟩
theorem items_shape {k : List Key} {vs : List Value} (h : ItemsAre (mixKind P w) k vs) : ∀ v ∈ vs, v.scannable = true ∧ ∀ a, v ≠ .ref a := by
  induction h with
  | nil => exact fun v hv => nomatch hv
  | cons h1 _ ih =>
    intro v hv
    rcases List.mem_cons.mp hv with rfl | hv
    · exact mix_shape h1
    · exact ih v hv
theorem class_no (n : Nat) {v : Value} (h : ∀ a, v ≠ .ref a) : ofAClassStatement n v = pure false := by
  cases v with
  | ref a => exact absurd rfl (h a)
  | _ => cases n <;> rfl
/-- a row of checks over the items of a tuple, each of which is quiet -/
theorem row_quiet {vs : List Value} (body : Value → Option Bool × PUnit → Sem (ForInStep (Option Bool × PUnit)))
    (hb : ∀ v ∈ vs, ∀ r : Option Bool × PUnit, r.1 = none → ∀ s' (Z : ForInStep (Option Bool × PUnit) → Shared → Prop), (∀ r' : Option Bool × PUnit, r'.1 = none → Z (.yield r') s') → wpAny (model P w) A (body v r) Z E s')
    {Y : Option Bool × PUnit → Shared → Prop} (hY : ∀ r : Option Bool × PUnit, r.1 = none → Y r s) (r0 : Option Bool × PUnit) (h0 : r0.1 = none) : wpAny (model P w) A (forIn vs r0 body) Y E s := by
  refine wpAny_forIn_list _ (fun rest r s' => r.1 = none ∧ s' = s ∧ ∀ v ∈ rest, v ∈ vs) _ ?_ ?_ _ _ ⟨h0, rfl, fun v hv => hv⟩
  · rintro v rest r s' ⟨hr, rfl, hv⟩
    exact hb v (hv v List.mem_cons_self) r hr s' _ fun r' h' => ⟨h', rfl, fun u hu => hv u (List.mem_cons_of_mem _ hu)⟩
  · rintro r s' ⟨hr, rfl, _⟩
    exact hY r hr
theorem class_tup {k : List Key} {b : Addr} {Q : Bool → Shared → Prop} (hk : IsP P w s.heap k b) (h : Q false s) : wpAny (model P w) A (ofAClassStatement 8 (.ref b)) Q E s := by
  have hT := hk.typeIs
  obtain ⟨o, items, n, ho, _, hd, hi⟩ := hk
  unfold ofAClassStatement
  refine wpAny_bind (wpAny_typeOf hT ?_)
  dsimp only
  simp only [show (("tuple" : String) == "tuple") = true from by decide, if_true]
  try refine wpAny_bind (wpAny_pure ?_)
  simp only [Bool.not_true, Bool.false_eq_true, if_false]
  show wpAny _ _ (seqItems? (.ref b) >>= _) _ _ s
  refine wpAny_bind (wpAny_seqItems ho hd ?_)
  dsimp only
  refine wpAny_bind ?_
  show wpAny _ _ (forIn items _ _) _ _ s
  rw [← Array.forIn_toList]
  refine row_quiet _ (fun v hv r hr s' Z hZ => ?_) (fun r hr => ?_) _ ?_
  · rw [class_no _ (items_shape hi v hv).2]
    refine wpAny_bind (wpAny_pure ?_)
    simp only [Bool.false_eq_true, if_false]
    exact wpAny_pure (hZ _ rfl)
  · obtain ⟨r1, r2⟩ := r
    cases (show r1 = none from hr)
    exact wpAny_pure h
  · rfl
theorem value_tup {k : List Key} {b : Addr} {Q : Bool → Shared → Prop} (hk : IsP P w s.heap k b) (h : ∀ q, Q q s) : wpAny (model P w) A (hashByValue 8 (.ref b)) Q E s := by
  have hT := hk.typeIs
  obtain ⟨o, items, n, ho, _, hd, hi⟩ := hk
  unfold hashByValue
  refine wpAny_bind (wpAny_specialOf hT F.slot_tuple_hash.lookup ?_)
  show wpAny _ _ (seqItems? (.ref b) >>= _) _ _ s
  refine wpAny_bind (wpAny_seqItems ho hd (wpAny_bind ?_))
  show wpAny _ _ (forIn items _ _) _ _ s
  rw [← Array.forIn_toList]
  refine wpAny_forIn_list _ (fun rest r s' => s' = s ∧ ∀ v ∈ rest, v ∈ items.toList) _ ?_ ?_ _ _ ⟨rfl, fun v hv => hv⟩
  · rintro v rest r s' ⟨rfl, hv⟩
    rw [hashByValue_scannable _ (items_shape hi v (hv v List.mem_cons_self)).1]
    refine wpAny_bind (wpAny_pure ?_)
    cases plainKind v
    · exact wpAny_pure (by first | exact ⟨_, h false⟩ | exact h false | exact wpAny_pure (h false))
    · exact wpAny_pure ⟨rfl, fun u hu => hv u (List.mem_cons_of_mem _ hu)⟩
  · rintro ⟨r1, r2⟩ s' ⟨rfl, _⟩
    cases r1 with
    | none => exact wpAny_pure (h _)
    | some q => exact wpAny_pure (h q)
theorem seen_no {k : List Key} {b : Addr} {Q : Bool → Shared → Prop} (hk : IsP P w s.heap k b) {ys : List Value} (hy : ∀ y ∈ ys, ∃ k' c, y = Value.ref c ∧ IsP P w s.heap k' c) (h : Q false s) :
    wpAny (model P w) A (searchCouldBeSeen (.ref b) ys) Q E s := by
  unfold searchCouldBeSeen
  refine wpAny_bind ?_
  refine wpAny_forIn_list _ (fun rest r s' => r.1 = none ∧ s' = s ∧ ∀ y ∈ rest, y ∈ ys) _ ?_ ?_ _ _ ⟨rfl, rfl, fun y hy => hy⟩
  · rintro v rest r s' ⟨hr, rfl, hall⟩
    obtain ⟨k', c, rfl, hc⟩ := hy v (hall _ List.mem_cons_self)
    dsimp only
    by_cases hv : (b == c || (carriedByValue (.ref b) && carriedByValue (.ref c))) = true
    · refine wp_if_pos hv (wpAny_pure ⟨rfl, rfl, fun u hu => hall u (List.mem_cons_of_mem _ hu)⟩)
    · refine wp_if_neg hv (wpAny_bind (wpAny_eqIsQuiet_tuple hk ?_))
      simp only [Bool.not_true, Bool.false_eq_true, if_false]
      refine wpAny_bind (wpAny_eqIsQuiet_tuple hc ?_)
      simp only [Bool.not_true, Bool.false_eq_true, if_false]
      refine wpAny_bind (class_tup hk ?_)
      simp only [Bool.false_eq_true, if_false]
      refine wpAny_bind (class_tup hc ?_)
      simp only [Bool.false_eq_true, if_false]
      exact wpAny_pure ⟨rfl, rfl, fun u hu => hall u (List.mem_cons_of_mem _ hu)⟩
  · rintro ⟨r1, r2⟩ s' ⟨hr, rfl, _⟩
    cases (show r1 = none from hr)
    exact wpAny_pure h
end
end Xia

set_option Elab.async false
set_option linter.all false
set_option maxRecDepth 100000
set_option maxHeartbeats 4000000
/-! Own: the search for a tuple in a set, and adding it. -/
namespace Xia
open PySem PySem.Spec PyProof.Rows L2

/-- the search's state behind c steps -/
abbrev stAt (m : Nat) (h : Int) (c : Nat) : SetTable.Probe := nth m (runAt m (SetTable.bits h % (m + 1)) (SetTable.bits h)) c
theorem stAt_add (m : Nat) (h : Int) (c q : Nat) : nth m (stAt m h c) q = stAt m h (c + q) := (nth_add m c _ q).symm
theorem nth_clean (m : Nat) : ∀ (c : Nat) (p : SetTable.Probe), p.dummy = none → (nth m p c).dummy = none
  | 0, _, e => e
  | c + 1, p, e => nth_clean m c (adv m p) (by unfold adv; split <;> exact e)
theorem probe_from {t : SetTable} {hs : List Int} (T : TabX t hs) {h : Int} {K c : Nat} (G : Gap t h K) (hK : K < 10 * SetTable.turns t.mask) (hc : c ≤ K) (at_ : Nat → Int) :
    (∃ q i, c ≤ q ∧ q < K ∧ t.place.toList[i]? = some (way t.mask h q) ∧ (∀ q' i', c ≤ q' → q' < q → t.place.toList[i']? = some (way t.mask h q') → at_ i' ≠ h) ∧ t.probe at_ h (stAt t.mask h c) = some (.candidate (way t.mask h q) i (stAt t.mask h (q + 1)))) ∨
    ((∀ q' i', c ≤ q' → q' < K → t.place.toList[i']? = some (way t.mask h q') → at_ i' ≠ h) ∧ t.probe at_ h (stAt t.mask h c) = some (.empty (way t.mask h K) none)) := by
  have j : ∀ q, (nth t.mask (stAt t.mask h c) q).j = way t.mask h (c + q) := fun q => congrArg SetTable.Probe.j (stAt_add t.mask h c q)
  have e : c + (K - c) = K := Nat.add_sub_cancel' hc
  have back : ∀ {q' i' : Nat}, c ≤ q' → t.place.toList[i']? = some (way t.mask h q') → t.place.toList[i']? = some (nth t.mask (stAt t.mask h c) (q' - c)).j := fun {q' i'} l z => by rw [j, Nat.add_sub_cancel' l]; exact z
  rcases go_spec t T.up T.nod at_ h (10 * SetTable.turns t.mask) (K - c) (stAt t.mask h c) (nth_clean _ c _ rfl) (by omega) (fun q hq => by rw [j]; exact G.ins _ (by omega)) (by rw [j, e]; exact G.out) with ⟨q, i, a1, a2, _, a4, a5⟩ | ⟨a1, a2⟩
  · refine .inl ⟨c + q, i, Nat.le_add_right _ _, by omega, by rw [← j]; exact a2, fun q' i' l1 l2 z => a4 (q' - c) i' (by omega) (back l1 z), ?_⟩
    have a5' : t.probe at_ h (stAt t.mask h c) = some (.candidate (nth t.mask (stAt t.mask h c) q).j i (nth t.mask (stAt t.mask h c) (q + 1))) := a5
    rw [a5', j, stAt_add]
    rfl
  · refine .inr ⟨fun q' i' l1 l2 z => a1 (q' - c) i' (by omega) (back l1 z), ?_⟩
    have a2' : t.probe at_ h (stAt t.mask h c) = some (.empty (nth t.mask (stAt t.mask h c) (K - c)).j none) := a2
    rw [a2', j, e]

/-- a set of tuples: its members, and where they are found -/
structure TSet (P : Program) (w : World) (h : Heap) (a : Addr) (L : List (List Key × Value)) (es : Array (Int × Value)) (ep : Nat) (t : SetTable) : Prop where
  mem : Mem w (hashP P w) h a L es ep t
  tab : TabX t (L.map fun p => hashP P w p.1)
  room : L.length * 5 < t.mask * 3
/-- the members are the tuples that they are said to be -/
def TIs (P : Program) (w : World) (h : Heap) (L : List (List Key × Value)) : Prop := ∀ p ∈ L, ∃ b, p.2 = .ref b ∧ IsP P w h p.1 b

section
variable {P : Program} {w : World} {A : Around} {E : Value → Shared → Prop} {s : Shared} {a : Addr} {L : List (List Key × Value)} {es : Array (Int × Value)} {ep : Nat} {t : SetTable}
theorem mask_gw {t : SetTable} (h : Mk t.mask) : ¬ t.gaveWay = true := by
  unfold SetTable.gaveWay
  rcases h.cases with e | e | e | e | e <;> rw [e] <;> decide
theorem state_of {Q : Array (Int × Value) × Nat × SetTable → Shared → Prop} {κ : Type} {hash : κ → Int} {L : List (κ × Value)} (R : Mem w hash s.heap a L es ep t) (h : Q (es, ep, t) s) : wpAny (model P w) A (setState a) Q E s :=
  let ⟨_, ho, _, hd⟩ := R.ob
  wpAny_setState_of ho hd R.fit h
theorem search_on (R : TSet P w s.heap a L es ep t) (Z : TIs P w s.heap L) {x : Addr} {k : List Key} (hx : IsP P w s.heap k x) (hu : A.units < cLine) {K : Nat} (hK : K < 10 * SetTable.turns t.mask) (G : Gap t (hashP P w k) K) {Q : SetFound → Shared → Prop}
    (yes : k ∈ L.map (·.1) → Q (.there none) s) (no : k ∉ L.map (·.1) → Q (.free (way t.mask (hashP P w k) K) false) s) :
    ∀ (f c : Nat) (stand : Option SetTable.Probe), stand.getD (t.probeStart (hashP P w k)) = stAt t.mask (hashP P w k) c → c ≤ K → K < c + f →
      (∀ (i : Nat) (p : List Key × Value), L[i]? = some p → p.1 = k → ∃ q, c ≤ q ∧ q < K ∧ t.place.toList[i]? = some (way t.mask (hashP P w k) q)) → wpAny (model P w) A (setSearchFrom a (.ref x) (hashP P w k) true f stand) Q E s := by
  intro f
  induction f with
  | zero => intro c _ _ h1 h2; omega
  | succ f ih =>
    intro c stand es0 hc hf left
    obtain ⟨o, ho, hex, hd⟩ := R.mem.ob
    have at_ : ∀ (i : Nat) (p : List Key × Value), L[i]? = some p → (es[i]?.map (·.1)).getD 0 = hashP P w p.1 := fun i p e => by rw [R.mem.entry, e]; rfl
    rw [setSearchFrom_succ]
    refine wpAny_bind (state_of R.mem ?_)
    dsimp only
    refine wp_if_neg (mask_gw R.tab.msk) ?_
    try refine wpAny_bind (wpAny_pure ?_)
    rw [es0]
    rcases probe_from R.tab G hK hc (fun i => (es[i]?.map (·.1)).getD 0) with ⟨q, i, l1, l2, hi, hno, e⟩ | ⟨hno, e⟩
    · rw [e]
      dsimp only
      have il : i < L.length := by
        have u := (List.getElem?_eq_some_iff.mp hi).1
        have v := R.tab.len
        rw [List.length_map] at v
        omega
      obtain ⟨p, hp⟩ : ∃ p, L[i]? = some p := ⟨_, List.getElem?_eq_getElem il⟩
      have pm : p ∈ L := List.mem_of_getElem? hp
      obtain ⟨b, eb, hb⟩ := Z p pm
      have ent_i : es[i]? = some (hashP P w p.1, .ref b) := by rw [R.mem.entry, hp, ← eb]; rfl
      have sl := slot_live R.tab.up hi
      have rest : wpAny (model P w) A (searchRest a (.ref x) (hashP P w k) true f es t (way t.mask (hashP P w k) q) i (stAt t.mask (hashP P w k) (q + 1))) Q E s := by
        unfold searchRest
        rw [ent_i]
        dsimp only
        refine wpAny_bind (wpAny_holding (wpAny_eqBool_tuple hu hb hx (wpAny_bind (state_of R.mem ?_))))
        dsimp only
        by_cases kk : p.1 = k
        · exact wp_if_pos (by simp [kk]) (wpAny_pure (yes (List.mem_map.mpr ⟨p, pm, kk⟩)))
        · refine wp_if_neg (by simp [kk]) ?_
          try refine wpAny_bind (wpAny_pure ?_)
          rw [sameMem]
          dsimp only
          simp only [if_true, sl, ent_i]
          refine wpAny_bind (wpAny_isSame_ref_self (wpAny_bind (wpAny_pure ?_)))
          simp only [if_true]
          refine wp_if_neg (by simp [kk]) (ih (q + 1) _ rfl l2 (by omega) fun i0 p0 h0 k0 => ?_)
          obtain ⟨c', a1, a2, a3⟩ := left i0 p0 h0 k0
          refine ⟨c', ?_, a2, a3⟩
          rcases Nat.lt_trichotomy c' q with z | rfl | z
          · exact absurd ((at_ i0 p0 h0).trans (congrArg (hashP P w) k0)) (hno c' i0 a1 z a3)
          · have s0 := slot_live R.tab.up a3
            rw [sl] at s0
            injection s0 with s0
            rw [← s0, hp] at h0
            cases h0
            exact absurd k0 kk
          · exact z
      by_cases hl : t.led = true
      · refine wp_if_neg (by simp [hl]) ?_
        try refine wpAny_bind (wpAny_pure ?_)
        exact rest
      · refine wp_if_pos (by simp [hl]) (wpAny_bind (seen_no hx (fun y hy => ?_) ?_))
        · obtain ⟨e1, h1, rfl⟩ := List.mem_map.mp hy
          have h2 : e1 ∈ es.toList := by
            have h3 : e1 ∈ es ∧ e1.1 = hashP P w k := by simpa using h1
            simpa using h3.1
          rw [R.mem.rows] at h2
          obtain ⟨p2, hp2, rfl⟩ := List.mem_map.mp h2
          obtain ⟨b2, e2, hb2⟩ := Z p2 hp2
          exact ⟨p2.1, b2, e2, hb2⟩
        · refine wp_if_neg (by decide) ?_
          try refine wpAny_bind (wpAny_pure ?_)
          exact rest
    · rw [e]
      dsimp only
      refine wpAny_pure (no fun hm => ?_)
      obtain ⟨p0, h0, k0⟩ := List.mem_map.mp hm
      obtain ⟨i0, hi0, e0⟩ := List.getElem_of_mem h0
      have g0 : L[i0]? = some p0 := by rw [List.getElem?_eq_getElem hi0, e0]
      obtain ⟨c', a1, a2, a3⟩ := left i0 p0 g0 k0
      exact hno c' i0 a1 a2 a3 ((at_ i0 p0 g0).trans (congrArg (hashP P w) k0))
theorem search_all (R : TSet P w s.heap a L es ep t) (Z : TIs P w s.heap L) {x : Addr} {k : List Key} (hx : IsP P w s.heap k x) (hu : A.units < cLine) {Q : SetFound → Shared → Prop} (yes : k ∈ L.map (·.1) → Q (.there none) s)
    (no : ∀ K, k ∉ L.map (·.1) → Gap t (hashP P w k) K → Q (.free (way t.mask (hashP P w k) K) false) s) : wpAny (model P w) A (setSearch a (.ref x) (hashP P w k) true) Q E s := by
  have rm := R.room
  obtain ⟨K, hK, G⟩ := R.tab.gap (by rw [List.length_map]; omega) (hashP P w k)
  have tu : 10 * SetTable.turns t.mask < 100000 := by
    unfold SetTable.turns
    rcases R.tab.msk.cases with e | e | e | e | e <;> omega
  unfold setSearch
  refine search_on R Z hx hu hK G yes (fun n => no K n G) 100000 0 none rfl (Nat.zero_le _) (by omega) fun i p hp hk => ?_
  have hi : (L.map fun p => hashP P w p.1)[i]? = some (hashP P w k) := by rw [List.getElem?_map, hp, ← hk]; rfl
  have il : i < t.place.toList.length := by rw [R.tab.len]; exact (List.getElem?_eq_some_iff.mp hi).1
  obtain ⟨c, hc, e⟩ := R.tab.ahead G hi (List.getElem?_eq_getElem il)
  exact ⟨c, Nat.zero_le _, hc, by rw [e]; exact List.getElem?_eq_getElem il⟩
end
end Xia

set_option Elab.async false
set_option linter.all false
set_option maxRecDepth 100000
set_option maxHeartbeats 4000000
/-! Own: a tuple put into a set. -/
namespace Xia
open PySem PySem.Spec PyProof.Rows L2
section
variable {P : Program} {w : World} {A : Around} {E : Value → Shared → Prop} {s : Shared} {a : Addr} {L : List (List Key × Value)} {es : Array (Int × Value)} {ep : Nat} {t : SetTable}
/-- reading all entries in another order -/
theorem picked (f : List Key × Value → Int × Value) {L : List (List Key × Value)} {es : Array (Int × Value)} (e : es.toList = L.map f) {ix : List Nat} (p : ix.Perm (List.range L.length)) :
    ∃ L' : List (List Key × Value), L'.Perm L ∧ ix.filterMap (es[·]?) = L'.map f ∧ L'.map (fun q => (f q).1) = ix.map fun i => (es.map (·.1)).getD i 0 := by
  have at_ : ∀ i, es[i]? = (L[i]?).map f := fun i => by rw [← Array.getElem?_toList, e, List.getElem?_map]
  have one : ∀ ix : List Nat, (∀ i ∈ ix, i < L.length) → ix.filterMap (es[·]?) = (ix.filterMap (L[·]?)).map f ∧ (ix.filterMap (L[·]?)).map (fun q => (f q).1) = ix.map fun i => (es.map (·.1)).getD i 0 := by
    intro ix
    induction ix with
    | nil => intro _; exact ⟨rfl, rfl⟩
    | cons i ix ih =>
      intro h
      obtain ⟨q, hq⟩ : ∃ q, L[i]? = some q := ⟨_, List.getElem?_eq_getElem (h i List.mem_cons_self)⟩
      have hes : es[i]? = some (f q) := by rw [at_, hq]; rfl
      obtain ⟨i1, i2⟩ := ih fun j hj => h j (List.mem_cons_of_mem _ hj)
      refine ⟨by rw [List.filterMap_cons_some hq, List.filterMap_cons_some hes, i1]; rfl, ?_⟩
      rw [List.filterMap_cons_some hq, List.map_cons, List.map_cons, i2]
      congr 1
      rw [Array.getD_eq_getD_getElem?, Array.getElem?_map, hes]
      rfl
  have all : ∀ n, n ≤ L.length → (List.range n).filterMap (L[·]?) = L.take n := by
    intro n
    induction n with
    | zero => intro _; rfl
    | succ n ih =>
      intro hn
      rw [List.range_succ, List.filterMap_append, ih (by omega), List.take_succ]
      rw [List.getElem?_eq_getElem hn, List.filterMap_cons_some (List.getElem?_eq_getElem hn)]
      rfl
  obtain ⟨o1, o2⟩ := one ix fun i hi => List.mem_range.mp (p.mem_iff.mp hi)
  refine ⟨ix.filterMap (L[·]?), ?_, o1, o2⟩
  have q := p.filterMap fun i => L[i]?
  rw [all _ (Nat.le_refl _), List.take_length] at q
  exact q
theorem grows {n m : Nat} (hm : Mk m) (h1 : n * 5 < m * 3) (h2 : (n + 1) * 5 ≥ m * 3) (few : n < 1227) : ∃ M, SetTable.sizeAbove (SetTable.grown (n + 1)) = M + 1 ∧ Mk M ∧ (n + 1) * 5 < M * 3 ∧ M ≤ 2047 := by
  rcases hm.cases with rfl | rfl | rfl | rfl | rfl
  · obtain rfl : n = 4 := by omega
    exact ⟨31, grow5, by unfold Mk; decide, by omega, by omega⟩
  · obtain rfl : n = 18 := by omega
    exact ⟨127, grow19, by unfold Mk; decide, by omega, by omega⟩
  · obtain rfl : n = 76 := by omega
    exact ⟨511, grow77, by unfold Mk; decide, by omega, by omega⟩
  · obtain rfl : n = 306 := by omega
    exact ⟨2047, grow307, by unfold Mk; decide, by omega, by omega⟩
  · omega
theorem relay_big {o : Obj} (ho : s.heap.get? a = some o) (hex : o.ExactSet) (hd : o.data = .set es ep t) (rows : es.toList = L.map (ent (hashP P w))) (T : TabX t (L.map fun p => hashP P w p.1)) (tl : Tells w t) (nd : (L.map (·.1)).Nodup) {wanted M : Nat} (hf : L.length ≤ t.mask)
    (hw : SetTable.sizeAbove wanted = M + 1) (hM : Mk M) (top : M ≤ 2047) (rm : L.length * 5 < M * 3) {Q : Unit → Shared → Prop}
    (hQ : ∀ h' L' es' ep' t', Heap.SameBut a s.heap h' → TSet P w h' a L' es' ep' t' → L'.Perm L → Q () { s with heap := h' }) : wpAny (model P w) A (setRelay a wanted) Q E s := by
  have n1 : es.size = L.length := by
    have := congrArg List.length rows
    rwa [List.length_map, Array.length_toList] at this
  have pz : t.place.size = L.length := by
    have := T.len
    rwa [List.length_map, Array.length_toList] at this
  have fit : ∀ {t' : SetTable} {n : Nat}, t'.place.size = n → t'.dummies = #[] → n ≤ t'.mask → t'.fits n = true := fun {t' n} e1 e2 e3 => by
    unfold SetTable.fits SetTable.fill
    rw [e1, e2]
    simp [e3]
  obtain ⟨t', order, e, hp, T', em, el, _⟩ := relaid_new t (hs := es.map (·.1)) hw hM (by rw [Array.size_map, n1]; omega)
  rw [Array.size_map, n1] at hp
  obtain ⟨L', pL, r1, r2⟩ := picked (ent (hashP P w)) rows hp
  rw [← r2] at T'
  have r1' : (order.filterMap (es[·]?)).toList = L'.map (ent (hashP P w)) := by rw [← r1]; simp
  have n2 : (order.filterMap (es[·]?)).size = L.length := by
    have := congrArg List.length r1'
    rwa [List.length_map, Array.length_toList, pL.length_eq] at this
  have pz' : t'.place.size = L.length := by
    have := T'.len
    rwa [List.length_map, Array.length_toList, pL.length_eq] at this
  rw [setRelay_eq]
  refine wpAny_bind (wpAny_setState_of ho hd (fit (pz.trans n1.symm) T.nod (by omega)) ?_)
  dsimp only
  refine wp_if_neg (by rw [hw, sizeLine_eq]; omega) ?_
  try refine wpAny_bind (wpAny_pure ?_)
  rw [e]
  dsimp only
  refine wpAny_bind (wp_if_neg (by rw [n2, n1]; simp) ?_)
  try refine wpAny_bind (wpAny_pure ?_)
  refine wpAny_pure ?_
  dsimp only
  refine wpAny_storeSet_of ho hd ?_ (by rw [n2, sizeLine_eq]; omega)
  refine hQ _ L' (order.filterMap (es[·]?)) (ep + 1) t' (Heap.SameBut.update ..) ⟨⟨⟨_, store_at ho hd, hex, rfl⟩, r1', fit (pz'.trans n2.symm) T'.nod (by rw [n2, em]; omega), T'.up, tl.imp id fun z => el.trans z, (pL.map (·.1)).nodup_iff.mpr nd⟩, T', by rw [pL.length_eq, em]; exact rm⟩ pL
theorem tup_add (R : TSet P w s.heap a L es ep t) (Z : TIs P w s.heap L) {x : Addr} {k : List Key} (hx : IsP P w s.heap k x) (hu : A.units < cLine) (few : L.length < 1227) {Q : Bool → Shared → Prop}
    (hQ : ∀ b h' L' es' ep' t', Heap.SameBut a s.heap h' → TSet P w h' a L' es' ep' t' → (k ∈ L.map (·.1) → L' = L) → (k ∉ L.map (·.1) → L'.Perm ((k, .ref x) :: L)) → Q b { s with heap := h' }) :
    wpAny (model P w) A (setAddHashed a (.ref x) (hashP P w k)) Q E s := by
  obtain ⟨o, ho, hex, hd⟩ := R.mem.ob
  have n1 := R.mem.size
  have rm := R.room
  unfold setAddHashed
  refine wpAny_holding ?_
  rw [show (100000 : Nat) = 99999 + 1 from rfl, setAddHashedIn_succ]
  refine wpAny_bind (state_of R.mem ?_)
  dsimp only
  refine wp_if_neg (by simp [byScan, Value.scannable]) ?_
  try refine wpAny_bind (wpAny_pure ?_)
  refine wpAny_bind (search_all R Z hx hu (fun hm => ?_) fun K hm G => ?_)
  · dsimp only
    exact wpAny_pure (hQ false s.heap L es ep t (Heap.SameBut.refl a s.heap) R (fun _ => rfl) fun z => absurd hm z)
  · dsimp only
    refine wpAny_bind (state_of R.mem ?_)
    dsimp only
    obtain ⟨p, t1, e, pl, T1, m1, l1, _, z1, f1⟩ := R.tab.put G
    rw [List.length_map] at pl z1 f1
    rw [e]
    dsimp only
    have rows1 : (SetTable.insertAt es p (hashP P w k, Value.ref x)).toList = (L.take p ++ (k, Value.ref x) :: L.drop p).map (ent (hashP P w)) := by
      rw [SetTable.toList_insertAt, R.mem.rows, List.map_append, List.map_cons, List.map_take, List.map_drop]
      rfl
    have hs1 : (L.take p ++ (k, Value.ref x) :: L.drop p).map (fun q => hashP P w q.1) = (L.map fun q => hashP P w q.1).take p ++ hashP P w k :: (L.map fun q => hashP P w q.1).drop p := by
      rw [List.map_append, List.map_cons, List.map_take, List.map_drop]
    rw [← hs1] at T1
    have pm := put_perm L p (k, Value.ref x)
    generalize L.take p ++ (k, Value.ref x) :: L.drop p = L1 at rows1 T1 pm
    have n2 : L1.length = L.length + 1 := pm.length_eq
    have n3 : (SetTable.insertAt es p (hashP P w k, Value.ref x)).size = L.length + 1 := by
      have := congrArg List.length rows1
      rwa [List.length_map, Array.length_toList, n2] at this
    generalize SetTable.insertAt es p (hashP P w k, Value.ref x) = es1 at rows1 n3 ⊢
    have nd1 : (L1.map (·.1)).Nodup := (pm.map (·.1)).nodup_iff.mpr (List.nodup_cons.mpr ⟨hm, R.mem.nd⟩)
    have tl1 : ∀ b : Bool, Tells w { t1 with plain := b } := fun b => R.mem.tells.imp id fun z => l1.trans z
    have T2 : ∀ b : Bool, TabX { t1 with plain := b } (L1.map fun q => hashP P w q.1) := fun b => ⟨T1.up, T1.nod, T1.len, T1.msk, T1.low, T1.back⟩
    -- whatever the mark of plainness is
    have fin : ∀ b : Bool, wpAny (model P w) A (storeSet a es1 { t1 with plain := b } >>= fun _ => if (!false && SetTable.tooFull { t1 with plain := b }) = true then (setRelay a (SetTable.grown (es.size + 1)) >>= fun _ => pure true) else pure true) Q E s := fun b => by
      refine wpAny_bind (wpAny_storeSet_of ho hd ?_ (by rw [n3, sizeLine_eq]; omega))
      have at1 := store_at (es' := es1) (t' := { t1 with plain := b }) ho hd
      have sb := Heap.SameBut.update s.heap a (Obj.putSet es1 { t1 with plain := b })
      have tf : SetTable.tooFull { t1 with plain := b } = decide ((L.length + 1) * 5 ≥ t1.mask * 3) := by
        show decide (t1.fill * 5 ≥ t1.mask * 3) = _
        rw [f1]
      by_cases hf : (L.length + 1) * 5 ≥ t1.mask * 3
      · refine wp_if_pos (by rw [tf, decide_eq_true hf]; rfl) (wpAny_bind ?_)
        obtain ⟨M, g1, g2, g3, g4⟩ := grows R.tab.msk rm (m1 ▸ hf) few
        rw [n1]
        refine relay_big (s := { s with heap := s.heap.update a (Obj.putSet es1 { t1 with plain := b }) }) at1 hex rfl rows1 (T2 b) (tl1 b) nd1 (show L1.length ≤ t1.mask by rw [n2, m1]; omega) g1 g2 g4 (by rw [n2]; exact g3) fun h' L' es' ep' t' sb' R' p' => ?_
        exact wpAny_pure (hQ true h' L' es' ep' t' (sb.trans sb') R' (fun z => absurd z hm) fun _ => p'.trans pm)
      · refine wp_if_neg (by rw [tf, decide_eq_false hf]; decide) (wpAny_pure (hQ true _ L1 es1 (ep + 1) _ sb ⟨⟨⟨_, at1, hex, rfl⟩, rows1, ?_, T1.up, tl1 b, nd1⟩, T2 b, ?_⟩ (fun z => absurd z hm) fun _ => pm))
        · show ((t1.place.size == es1.size) && decide (t1.fill ≤ t1.mask)) = true
          rw [z1, n3, f1]
          simp
          omega
        · show L1.length * 5 < t1.mask * 3
          rw [n2]
          omega
    by_cases hp : t1.plain = true
    · refine wp_if_pos hp (wpAny_bind (value_tup hx fun q => ?_))
      cases q
      · exact fin false
      · exact fin t1.plain
    · exact wp_if_neg hp (wpAny_bind (wpAny_pure (fin t1.plain)))
end
end Xia

set_option Elab.async false
set_option linter.all false
set_option maxRecDepth 100000
set_option maxHeartbeats 4000000
/-! Own: set(xs), xs a list or a tuple of things that a kind of set takes. -/
namespace Xia
open PySem PySem.Spec PyProof.Rows L2

/-- a new set's object -/
abbrev newSetObj (w : World) : Obj := { cls := .type "set", dict := none, data := .set #[] 0 (.fresh 0 0 (!w.params.followText "set-order")) }
/-- a kind of sets that can be put together thing by thing -/
structure Grow (P : Program) (w : World) (κ : Type) where
  Is : Heap → κ → Value → Prop
  R : Heap → Addr → List (κ × Value) → Prop
  cap : Nat
  isKeep : ∀ {h h' : Heap} {k v}, Is h k v → (∀ b o, h.get? b = some o → h'.get? b = some o) → Is h' k v
  keep : ∀ {h h' : Heap} {a L}, R h a L → (∀ o, h.get? a = some o → h'.get? a = some o) → R h' a L
  fresh : ∀ {h : Heap} {a}, h.get? a = some (newSetObj w) → R h a []
  nd : ∀ {h : Heap} {a L}, R h a L → (L.map (·.1)).Nodup
  sees : ∀ {h : Heap} {a L}, R h a L → ∃ es ep t, SetAt h a es ep t ∧ t.fits es.size = true ∧ es.size < scanBound ∧ Ris t.place.toList ∧ Tells w t ∧ es.toList.map (·.2) = L.map (·.2)
  add : ∀ {A : Around} {E : Value → Shared → Prop} {s : Shared} {a L k v} {Q : Bool → Shared → Prop}, A.units < cLine → R s.heap a L → (∀ p ∈ L, Is s.heap p.1 p.2) → Is s.heap k v → L.length < cap →
    (∀ b h' L' tk, s.toks ≤ tk → Heap.SameBut a s.heap h' → R h' a L' → (k ∈ L.map (·.1) → L' = L) → (k ∉ L.map (·.1) → L'.Perm ((k, v) :: L)) → Q b { s with heap := h', toks := tk }) → wpAny (model P w) A (setAdd a v) Q E s
/-- what stands in a set behind the first i things -/
structure Has {κ : Type} (ks : List (κ × Value)) (i : Nat) (L : List (κ × Value)) : Prop where
  from_ : ∀ p ∈ L, p ∈ ks.take i
  all : ∀ p ∈ ks.take i, p.1 ∈ L.map (·.1)
  len : L.length ≤ i
theorem Has.next {κ : Type} {ks L L' : List (κ × Value)} {i : Nat} {x : κ × Value} (g : Has ks i L) (h : ks[i]? = some x) (c1 : x.1 ∈ L.map (·.1) → L' = L) (c2 : x.1 ∉ L.map (·.1) → L'.Perm (x :: L)) : Has ks (i + 1) L' := by
  have e : ks.take (i + 1) = ks.take i ++ [x] := by rw [List.take_succ, h]; rfl
  by_cases c : x.1 ∈ L.map (·.1)
  · rw [c1 c]
    refine ⟨fun p hp => e ▸ List.mem_append_left _ (g.from_ p hp), fun p hp => ?_, Nat.le_succ_of_le g.len⟩
    rw [e] at hp
    rcases List.mem_append.mp hp with z | z
    · exact g.all p z
    · exact List.mem_singleton.mp z ▸ c
  · have pm := c2 c
    refine ⟨fun p hp => ?_, fun p hp => ?_, by rw [pm.length_eq]; exact Nat.succ_le_succ g.len⟩
    · rw [e]
      rcases List.mem_cons.mp (pm.mem_iff.mp hp) with rfl | z
      · exact List.mem_append_right _ List.mem_cons_self
      · exact List.mem_append_left _ (g.from_ p z)
    · rw [(pm.map (·.1)).mem_iff]
      rw [e] at hp
      rcases List.mem_append.mp hp with z | z
      · exact List.mem_cons_of_mem _ (g.all p z)
      · exact List.mem_singleton.mp z ▸ List.mem_cons_self
section
variable {P : Program} {w : World} {κ : Type} (Z : Grow P w κ) {A : Around} {E : Value → Shared → Prop} {s : Shared}
theorem grow_loop {I : Addr} {fp wr : List Addr} {G : Array GenState → Array GenState → Prop} {n : Nat} {Pv : Nat → Value → Prop} {St : Nat → Shared → Prop} {Y : Result → Shared → Prop} (W : WalksS P w A.in1 I fp wr G n Pv St) (S : Addr) (Sfp : S ∉ fp) (ks : List (κ × Value)) (hn : n = ks.length)
    (cap : n ≤ Z.cap) (val : ∀ i v, Pv i v → ∃ p, ks[i]? = some p ∧ v = p.2) (h0 : Heap) (is0 : ∀ p ∈ ks, Z.Is h0 p.1 p.2) (S0 : h0.get? S = none) (wr0 : ∀ b ∈ wr, h0.get? b = none) (hu : A.in1.units < cLine) : ∀ (m i : Nat) (s : Shared) (L : List (κ × Value)), i + m = n → St i s →
      (∀ b o, h0.get? b = some o → s.heap.get? b = some o) → Z.R s.heap S L → Has ks i L → (∀ s' L', Moved (S :: wr) G s s' → Z.R s'.heap S L' → Has ks n L' → (∀ b o, h0.get? b = some o → s'.heap.get? b = some o) → Y (.ok (.ret .none)) s') →
      codeAny (model P w) A (.builtin "set.update.loop" ⟨[.ref S, .ref I], []⟩) Y s := by
  have Swr : S ∉ wr := fun z => Sfp (W.sub _ z)
  have wrS : ∀ b ∈ wr, b ∈ S :: wr := fun b z => List.mem_cons_of_mem _ z
  have on : ∀ {s s' : Shared}, Moved wr G s s' → (∀ b o, h0.get? b = some o → s.heap.get? b = some o) → ∀ b o, h0.get? b = some o → s'.heap.get? b = some o := fun mv k b o e =>
    mv.heap b o (fun z => by rw [wr0 b z] at e; cases e) (k b o e)
  intro m
  induction m with
  | zero =>
    intro i s L hi hst k0 hR g hY
    obtain rfl : i = n := by omega
    refine codeAny_builtin F.entry_set_update_loop ?_
    rw [Around.under_plainId F.plain_set_update_loop _]
    show wpAny _ A.in1 (pyNext (.ref I) >>= _) _ _ s
    exact wpAny_bind (W.done s _ _ hst fun s' mv => wpAny_pure (hY s' L (mv.mono wrS) (Z.keep hR fun o e => mv.heap S o Swr e) g (on mv k0)))
  | succ m ih =>
    intro i s L hi hst k0 hR g hY
    refine codeAny_builtin F.entry_set_update_loop ?_
    rw [Around.under_plainId F.plain_set_update_loop _]
    show wpAny _ A.in1 (pyNext (.ref I) >>= _) _ _ s
    refine wpAny_bind (W.item i s _ _ (by omega) hst fun v s' hP hst' mv => ?_)
    obtain ⟨p, hp, rfl⟩ := val i v hP
    have k1 := on mv k0
    have all1 : ∀ q ∈ ks, Z.Is s'.heap q.1 q.2 := fun q hq => Z.isKeep (is0 q hq) k1
    show wpAny _ A.in1 (holding [p.2] (setAdd S p.2) >>= _) _ _ s'
    refine wpAny_bind (wpAny_holding (Z.add hu (Z.keep hR fun o e => mv.heap S o Swr e) (fun q hq => all1 q (List.mem_of_mem_take (g.from_ q hq))) (all1 p (List.mem_of_getElem? hp)) (by have := g.len; omega) fun b h' L' tk tk0 sb R1 c1 c2 => ?_))
    have k2 : ∀ b o, h0.get? b = some o → h'.get? b = some o := fun b o e => (sb.2 b fun z => by rw [z, S0] at e; cases e).trans (k1 b o e)
    refine wpAny_pure ⟨plainId_quiet F.plain_set_update_loop _, ih (i + 1) _ L' (by omega) (W.frame _ s' _ _ hst' tk0 fun b hb o e => (sb.2 b fun z => Sfp (z ▸ hb)).trans e) k2 R1 (g.next hp c1 c2) fun s'' L2 mv2 R2 g2 k3 => ?_⟩
    exact hY s'' L2 (Moved.trans W.gtrans ((mv.mono wrS).then_heap tk0 fun b o hb e => (sb.2 b fun z => hb (z ▸ List.mem_cons_self)).trans e) mv2) R2 g2 k3
set_option maxRecDepth 100000 in
set_option maxHeartbeats 3200000 in
theorem grow_set_list {l : Addr} {items : Array Value} (ks : List (κ × Value)) {Q : Value → Shared → Prop} (hh : A.handled = none) (hl : s.heap.IsList l items) (its : items.toList = ks.map (·.2)) (is0 : ∀ p ∈ ks, Z.Is s.heap p.1 p.2) (cap : ks.length ≤ Z.cap) (hu : A.units + 3 < cLine)
    (hQ : ∀ h' tk L, Z.R h' s.heap.objs.size L → Has ks ks.length L → (∀ b o, s.heap.get? b = some o → h'.get? b = some o) → Q (.ref s.heap.objs.size) { s with heap := h', toks := tk }) : wpAny (model P w) A (call (.type "set") [.ref l]) Q E s := by
  have size : items.size = ks.length := by
    have q := congrArg List.length its
    rwa [List.length_map, Array.length_toList] at q
  have none_from : ∀ b, s.heap.objs.size ≤ b → s.heap.get? b = none := fun b hb => by
    cases q : s.heap.get? b with
    | none => rfl
    | some o => exact absurd (Heap.lt_size q) (Nat.not_lt.mpr hb)
  obtain ⟨c, tl, mro⟩ := F.called_set.mro
  have made := F.called_set.made
  have sub := F.called_set.sub
  refine wpAny_call (codeAny_of_tree (show wpAny _ _ (callAny (.type "set") _) _ _ _ from ?_))
  refine wpAny_pure ⟨Code.quiet_builtin _ (by decide +kernel), codeAny_builtin F.entry_type_call ?_⟩
  rw [Around.under_plain (weight_type_call_type "set" [.ref l] []) rfl]
  have t1 := F.called_set.notType
  have t2 := F.called_set.canCreate
  have t3 := F.typeCall_set_1 (.ref l)
  repeat (any_goals (first | assumption | wp_step))
  refine codeAny_mono (code_set_led1 (.ref l) (E := E) (Q₁ := fun obj s₁ => obj = .ref s.heap.objs.size ∧ s₁ = { s with heap := s.heap.push (newSetObj w) }) ⟨rfl, rfl⟩) fun r s₁ hr => ?_
  match r, hr with
  | .error e, hr => exact hr
  | .ok .next, hr => exact hr.elim
  | .ok .brk, hr => exact hr.elim
  | .ok .cont, hr => exact hr.elim
  | .ok (.ret obj), hr =>
    obtain ⟨rfl, rfl⟩ := hr
    have atS : (s.heap.push (newSetObj w)).get? s.heap.objs.size = some (newSetObj w) := Heap.get?_push_size _ rfl
    have tyS : Shared.TypeIs { s with heap := s.heap.push (newSetObj w) } (.ref s.heap.objs.size) "set" := ⟨_, atS, rfl⟩
    have i1 := F.called_set.init.lookup
    have i2 := F.called_set.init.bind (.ref s.heap.objs.size)
    repeat (any_goals (first | assumption | wp_step))
    refine codeAny_mono (codeAny_call_builtin (R := wants (fun r s₂ => r = .none ∧ ∃ h' tk L, s₂ = { s with heap := h', toks := tk } ∧ Z.R h' s.heap.objs.size L ∧ Has ks ks.length L ∧ ∀ b o, s.heap.get? b = some o → h'.get? b = some o) E) F.called_set.init.plain F.entry_set_init (check_set_init_1 tyS ?_)) fun r₂ s₂ hr₂ => ?_
    · obtain ⟨⟨ocls, odict, odata, oslots⟩, hol, hcl, nl, hdl⟩ := hl
      simp only at hcl hdl
      subst hcl hdl
      have atl : (s.heap.push (newSetObj w)).get? l = some { cls := .type "list", dict := odict, data := .seq items nl, slots := oslots } := Heap.get?_push_of_some _ hol
      have isl : (s.heap.push (newSetObj w)).IsList l items := ⟨_, atl, rfl, nl, rfl⟩
      have u1 := F.sub_list_set
      have u2 := F.sub_list_frozenset
      have u3 : (Value.type "list" == Value.type "dict") = false := by decide
      unfold Builtin.«set.__init__» noKeywords Builtin.Frozenset.updateFrom
      generalize hy : pyIter = PI
      wp_walk
      subst hy
      refine wpAny_pyIter_list isl (wpAny_bind (wpAny_runValue ?_))
      have lS : l < s.heap.objs.size := Heap.lt_size hol
      have h3 : A.in1.in1.in1.handled = none := by simp [hh]
      have sz : (s.heap.push (newSetObj w)).objs.size = s.heap.objs.size + 1 := Heap.size_push ..
      have lI : l ≠ (s.heap.push (newSetObj w)).objs.size := by rw [sz]; exact Nat.ne_of_lt (Nat.lt_succ_of_lt lS)
      have Sf : s.heap.objs.size ∉ [(s.heap.push (newSetObj w)).objs.size, l] := by
        rw [sz]
        intro z
        rcases List.mem_cons.mp z with z | z
        · exact Nat.ne_of_lt (Nat.lt_succ_self _) z
        · exact Nat.ne_of_gt lS (List.mem_singleton.mp z)
      refine grow_loop Z ((Walks.list h3 _ l lI items).toS) s.heap.objs.size Sf ks size (by omega) (fun i v hv => ?_) s.heap is0 (none_from _ (Nat.le_refl _)) (fun b hb => none_from b (by rw [List.mem_singleton.mp hb, sz]; exact Nat.le_succ _)) hu items.size 0 _ [] (by omega) ?_
        (fun b o e => Heap.get?_push_of_some _ (Heap.get?_push_of_some _ e)) (Z.fresh (Heap.get?_push_of_some _ atS)) ⟨(fun p hp => nomatch hp), (fun p hp => nomatch (show p ∈ [] from hp)), Nat.le_refl _⟩ fun s' L mv R g k => ?_
      · have q : items.toList[i]? = some v := by rw [Array.getElem?_toList]; exact hv
        rw [its, List.getElem?_map] at q
        obtain ⟨p, e, rfl⟩ := Option.map_eq_some_iff.mp q
        exact ⟨p, e, rfl⟩
      · exact ⟨⟨_, Heap.get?_push_size _ rfl, rfl, rfl⟩, isl.push _⟩
      · obtain ⟨h', g2, d', tk', os'⟩ := s'
        cases (show g2 = s.gens from mv.gens)
        cases (show d' = s.drawn from mv.drawn)
        cases (show os' = s.os from mv.os)
        rw [size] at g
        show wpAny _ _ _ _ _ _
        exact wpAny_pure (show wpAny _ _ (ret Value.none) _ _ _ from wpAny_pure ⟨rfl, h', tk', L, rfl, R, g, k⟩)
    · match r₂, hr₂ with
      | .error e, hr => exact hr
      | .ok .next, hr => exact hr.elim
      | .ok .brk, hr => exact hr.elim
      | .ok .cont, hr => exact hr.elim
      | .ok (.ret r), hr =>
        obtain ⟨rfl, h', tk, L, rfl, R, g, k⟩ := hr
        repeat (any_goals (first | assumption | wp_step))
        exact hQ h' tk L R g k
set_option maxRecDepth 100000 in
set_option maxHeartbeats 3200000 in
theorem grow_set_tuple {l : Addr} {items : Array Value} (ks : List (κ × Value)) {Q : Value → Shared → Prop} (hh : A.handled = none) (hl : s.heap.IsTuple l items) (its : items.toList = ks.map (·.2)) (is0 : ∀ p ∈ ks, Z.Is s.heap p.1 p.2) (cap : ks.length ≤ Z.cap) (hu : A.units + 3 < cLine)
    (hQ : ∀ h' tk L, Z.R h' s.heap.objs.size L → Has ks ks.length L → (∀ b o, s.heap.get? b = some o → h'.get? b = some o) → Q (.ref s.heap.objs.size) { s with heap := h', toks := tk }) : wpAny (model P w) A (call (.type "set") [.ref l]) Q E s := by
  have size : items.size = ks.length := by
    have q := congrArg List.length its
    rwa [List.length_map, Array.length_toList] at q
  have none_from : ∀ b, s.heap.objs.size ≤ b → s.heap.get? b = none := fun b hb => by
    cases q : s.heap.get? b with
    | none => rfl
    | some o => exact absurd (Heap.lt_size q) (Nat.not_lt.mpr hb)
  obtain ⟨c, tl, mro⟩ := F.called_set.mro
  have made := F.called_set.made
  have sub := F.called_set.sub
  refine wpAny_call (codeAny_of_tree (show wpAny _ _ (callAny (.type "set") _) _ _ _ from ?_))
  refine wpAny_pure ⟨Code.quiet_builtin _ (by decide +kernel), codeAny_builtin F.entry_type_call ?_⟩
  rw [Around.under_plain (weight_type_call_type "set" [.ref l] []) rfl]
  have t1 := F.called_set.notType
  have t2 := F.called_set.canCreate
  have t3 := F.typeCall_set_1 (.ref l)
  repeat (any_goals (first | assumption | wp_step))
  refine codeAny_mono (code_set_led1 (.ref l) (E := E) (Q₁ := fun obj s₁ => obj = .ref s.heap.objs.size ∧ s₁ = { s with heap := s.heap.push (newSetObj w) }) ⟨rfl, rfl⟩) fun r s₁ hr => ?_
  match r, hr with
  | .error e, hr => exact hr
  | .ok .next, hr => exact hr.elim
  | .ok .brk, hr => exact hr.elim
  | .ok .cont, hr => exact hr.elim
  | .ok (.ret obj), hr =>
    obtain ⟨rfl, rfl⟩ := hr
    have atS : (s.heap.push (newSetObj w)).get? s.heap.objs.size = some (newSetObj w) := Heap.get?_push_size _ rfl
    have tyS : Shared.TypeIs { s with heap := s.heap.push (newSetObj w) } (.ref s.heap.objs.size) "set" := ⟨_, atS, rfl⟩
    have i1 := F.called_set.init.lookup
    have i2 := F.called_set.init.bind (.ref s.heap.objs.size)
    repeat (any_goals (first | assumption | wp_step))
    refine codeAny_mono (codeAny_call_builtin (R := wants (fun r s₂ => r = .none ∧ ∃ h' tk L, s₂ = { s with heap := h', toks := tk } ∧ Z.R h' s.heap.objs.size L ∧ Has ks ks.length L ∧ ∀ b o, s.heap.get? b = some o → h'.get? b = some o) E) F.called_set.init.plain F.entry_set_init (check_set_init_1 tyS ?_)) fun r₂ s₂ hr₂ => ?_
    · obtain ⟨⟨ocls, odict, odata, oslots⟩, hol, hcl, nl, hdl⟩ := hl
      simp only at hcl hdl
      subst hcl hdl
      have atl : (s.heap.push (newSetObj w)).get? l = some { cls := .type "tuple", dict := odict, data := .seq items nl, slots := oslots } := Heap.get?_push_of_some _ hol
      have isl : (s.heap.push (newSetObj w)).IsTuple l items := ⟨_, atl, rfl, nl, rfl⟩
      have u1 := F.sub_tuple_set
      have u2 := F.sub_tuple_frozenset
      have u3 : (Value.type "tuple" == Value.type "dict") = false := by decide
      unfold Builtin.«set.__init__» noKeywords Builtin.Frozenset.updateFrom
      generalize hy : pyIter = PI
      wp_walk
      subst hy
      refine wpAny_pyIter_tuple isl (wpAny_bind (wpAny_runValue ?_))
      have lS : l < s.heap.objs.size := Heap.lt_size hol
      have h3 : A.in1.in1.in1.handled = none := by simp [hh]
      have sz : (s.heap.push (newSetObj w)).objs.size = s.heap.objs.size + 1 := Heap.size_push ..
      have lI : l ≠ (s.heap.push (newSetObj w)).objs.size := by rw [sz]; exact Nat.ne_of_lt (Nat.lt_succ_of_lt lS)
      have Sf : s.heap.objs.size ∉ [(s.heap.push (newSetObj w)).objs.size, l] := by
        rw [sz]
        intro z
        rcases List.mem_cons.mp z with z | z
        · exact Nat.ne_of_lt (Nat.lt_succ_self _) z
        · exact Nat.ne_of_gt lS (List.mem_singleton.mp z)
      refine grow_loop Z ((Walks.tuple h3 _ l lI items).toS) s.heap.objs.size Sf ks size (by omega) (fun i v hv => ?_) s.heap is0 (none_from _ (Nat.le_refl _)) (fun b hb => none_from b (by rw [List.mem_singleton.mp hb, sz]; exact Nat.le_succ _)) hu items.size 0 _ [] (by omega) ?_
        (fun b o e => Heap.get?_push_of_some _ (Heap.get?_push_of_some _ e)) (Z.fresh (Heap.get?_push_of_some _ atS)) ⟨(fun p hp => nomatch hp), (fun p hp => nomatch (show p ∈ [] from hp)), Nat.le_refl _⟩ fun s' L mv R g k => ?_
      · have q : items.toList[i]? = some v := by rw [Array.getElem?_toList]; exact hv
        rw [its, List.getElem?_map] at q
        obtain ⟨p, e, rfl⟩ := Option.map_eq_some_iff.mp q
        exact ⟨p, e, rfl⟩
      · exact ⟨⟨_, Heap.get?_push_size _ rfl, rfl, rfl⟩, isl.push _⟩
      · obtain ⟨h', g2, d', tk', os'⟩ := s'
        cases (show g2 = s.gens from mv.gens)
        cases (show d' = s.drawn from mv.drawn)
        cases (show os' = s.os from mv.os)
        rw [size] at g
        show wpAny _ _ _ _ _ _
        exact wpAny_pure (show wpAny _ _ (ret Value.none) _ _ _ from wpAny_pure ⟨rfl, h', tk', L, rfl, R, g, k⟩)
    · match r₂, hr₂ with
      | .error e, hr => exact hr
      | .ok .next, hr => exact hr.elim
      | .ok .brk, hr => exact hr.elim
      | .ok .cont, hr => exact hr.elim
      | .ok (.ret r), hr =>
        obtain ⟨rfl, h', tk, L, rfl, R, g, k⟩ := hr
        repeat (any_goals (first | assumption | wp_step))
        exact hQ h' tk L R g k
end
end Xia

set_option Elab.async false
set_option linter.all false
set_option maxRecDepth 100000
set_option maxHeartbeats 4000000
/-! Own: the two kinds of sets (texts; tuples of ints and texts), and the rules: set(xs), x in s, sorted(s). -/
namespace Xia
open PySem PySem.Spec PyProof.Rows L2 SX
theorem Mem.fresh {κ : Type} {w : World} {hash : κ → Int} {h : Heap} {a : Addr} (e : h.get? a = some (newSetObj w)) : Mem w hash h a [] #[] 0 (.fresh 0 0 (!w.params.followText "set-order")) :=
  ⟨⟨_, e, ⟨rfl, rfl, rfl⟩, rfl⟩, rfl, rfl, List.Pairwise.nil, by
    show _ ∨ (!w.params.followText "set-order") = true
    cases w.params.followText "set-order"
    · exact .inr rfl
    · exact .inl rfl, List.nodup_nil⟩
theorem Mem.sees {κ : Type} {w : World} {hash : κ → Int} {h : Heap} {a : Addr} {L : List (κ × Value)} {es : Array (Int × Value)} {ep : Nat} {t : SetTable} (R : Mem w hash h a L es ep t) (few : L.length < scanBound) :
    ∃ es ep t, SetAt h a es ep t ∧ t.fits es.size = true ∧ es.size < scanBound ∧ Ris t.place.toList ∧ Tells w t ∧ es.toList.map (·.2) = L.map (·.2) :=
  let ⟨o, ho, hx, hd⟩ := R.ob
  ⟨es, ep, t, ⟨o, ho, hx.1, hd⟩, R.fit, by rw [R.size]; exact few, R.up, R.tells, R.vals⟩
/-- sets of texts -/
def txtSet (P : Program) (w : World) : Grow P w Str where
  Is := fun _ k v => (strKind P w).is k v = true
  R := fun h a L => (∃ es ep t, Mem w (strKind P w).hash h a L es ep t) ∧ Own1 (strKind P w) L ∧ L.length < scanBound
  cap := 4000
  isKeep := fun x _ => x
  keep := fun ⟨⟨es, ep, t, R⟩, g⟩ k => ⟨⟨es, ep, t, R.keep k⟩, g⟩
  fresh := fun e => ⟨⟨_, _, _, Mem.fresh e⟩, (fun p hp => nomatch hp), by decide⟩
  nd := fun ⟨⟨_, _, _, R⟩, _⟩ => R.nd
  sees := fun ⟨⟨_, _, _, R⟩, _, few⟩ => R.sees few
  add := fun {A E s a L k v Q} hu hR hL hv cap hQ => by
    obtain ⟨⟨es, ep, t, R⟩, g, few⟩ := hR
    have sc : v.scannable = true := by obtain ⟨tk, rfl⟩ := Value.isStrOf_shape hv; rfl
    have few1 : L.length + 1 < scanBound := by unfold scanBound; omega
    unfold setAdd
    refine wpAny_holding (wpAny_bind ((strKind P w).pyHash hv (scan_add (s := { s with toks := s.toks + 1 }) R g hv sc few1 fun b h' L' es' ep' t' sb R' c1 c2 => ?_)))
    refine hQ b h' L' (s.toks + 1) (Nat.le_succ _) sb ⟨⟨es', ep', t', R'⟩, ?_, ?_⟩ c1 c2
    · by_cases c : k ∈ L.map (·.1)
      · rw [c1 c]; exact g
      · intro p hp
        rcases List.mem_cons.mp ((c2 c).mem_iff.mp hp) with rfl | hp
        · exact ⟨hv, sc⟩
        · exact g p hp
    · by_cases c : k ∈ L.map (·.1)
      · rw [c1 c]; exact few
      · rw [(c2 c).length_eq]; exact few1
/-- sets of tuples of ints and texts -/
def tupSet (P : Program) (w : World) : Grow P w (List Key) where
  Is := fun h k v => ∃ b, v = .ref b ∧ IsP P w h k b
  R := fun h a L => (∃ es ep t, TSet P w h a L es ep t) ∧ L.length ≤ 1227
  cap := 1227
  isKeep := fun ⟨b, e, o, items, n, ho, r⟩ k => ⟨b, e, o, items, n, k b o ho, r⟩
  keep := fun ⟨⟨es, ep, t, R⟩, g⟩ k => ⟨⟨es, ep, t, R.mem.keep k, R.tab, R.room⟩, g⟩
  fresh := fun e => ⟨⟨_, _, _, Mem.fresh e, ⟨List.Pairwise.nil, rfl, rfl, (by show Mk 7; unfold Mk; decide), (fun x hx => nomatch hx), fun i h j hi => by simp at hi⟩, by show 0 * 5 < 7 * 3; decide⟩, Nat.zero_le _⟩
  nd := fun ⟨⟨_, _, _, R⟩, _⟩ => R.mem.nd
  sees := fun ⟨⟨_, _, _, R⟩, few⟩ => R.mem.sees (by unfold scanBound; omega)
  add := fun {A E s a L k v Q} hu hR hL hv cap hQ => by
    obtain ⟨⟨es, ep, t, R⟩, few⟩ := hR
    obtain ⟨b, rfl, hb⟩ := hv
    unfold setAdd
    refine wpAny_holding (wpAny_bind (wpAny_pyHash_tuple hu hb (tup_add (s := { s with toks := s.toks + (k.length + 1) }) R hL hb hu cap fun q h' L' es' ep' t' sb R' c1 c2 => ?_)))
    refine hQ q h' L' _ (Nat.le_add_right _ _) sb ⟨⟨es', ep', t', R'⟩, ?_⟩ c1 c2
    by_cases c : k ∈ L.map (·.1)
    · rw [c1 c]; exact few
    · rw [(c2 c).length_eq]; exact cap

/-- the set at a has the things of B, each with its key -/
def SetG {P : Program} {w : World} {κ : Type} (Z : Grow P w κ) (a : Addr) (B : List (κ × V)) : HO := .ext fun h => ∃ L, Z.R h a L ∧ L.map (·.1) = B.map (·.1) ∧ Vals (B.map (·.2)) (L.map (·.2))
section
variable {P : Program} {w : World} {κ : Type} {Z : Grow P w κ}
theorem setG_new {H : Hp} {h : Heap} {a : Addr} {B : List (κ × V)} {L : List (κ × Value)} (R : Z.R h a L) (e : L.map (·.1) = B.map (·.1)) (r : Vals (B.map (·.2)) (L.map (·.2))) : ObjOk P w H h a (SetG Z a B) := by
  refine ⟨⟨L, R, e, r⟩, ?_, fun h1 h2 p k => ?_⟩
  · obtain ⟨_, _, _, ⟨o, ho, _⟩, _⟩ := Z.sees R
    exact ⟨o, ho⟩
  · obtain ⟨L, R, e⟩ := p
    exact ⟨L, Z.keep R k, e⟩
theorem zip_keys {B : List (κ × V)} {us : List Value} (r : Vals (B.map (·.2)) us) : ∃ ks : List (κ × Value), us = ks.map (·.2) ∧ ks.map (·.1) = B.map (·.1) ∧ ∀ q ∈ ks, ∃ b ∈ B, b.1 = q.1 ∧ RelV b.2 q.2 := by
  induction B generalizing us with
  | nil => cases r; exact ⟨[], rfl, rfl, (fun q hq => nomatch hq)⟩
  | cons b B ih =>
    cases r with
    | @cons _ u _ us r rs =>
      obtain ⟨ks, rfl, e, h⟩ := ih rs
      refine ⟨(b.1, u) :: ks, rfl, by rw [List.map_cons, List.map_cons, e], fun q hq => ?_⟩
      rcases List.mem_cons.mp hq with rfl | hq
      · exact ⟨b, List.mem_cons_self, rfl, r⟩
      · obtain ⟨b', hb, z⟩ := h q hq
        exact ⟨b', List.mem_cons_of_mem _ hb, z⟩
theorem pick_back {B : List (κ × V)} : ∀ L : List (κ × Value), (∀ q ∈ L, ∃ b ∈ B, b.1 = q.1 ∧ RelV b.2 q.2) → ∃ B' : List (κ × V), (∀ b ∈ B', b ∈ B) ∧ L.map (·.1) = B'.map (·.1) ∧ Vals (B'.map (·.2)) (L.map (·.2))
  | [], _ => ⟨[], (fun b hb => nomatch hb), rfl, .nil⟩
  | q :: L, h => by
    obtain ⟨b, hb, e, r⟩ := h q List.mem_cons_self
    obtain ⟨B', h1, h2, h3⟩ := pick_back L fun q' hq => h q' (List.mem_cons_of_mem _ hq)
    refine ⟨b :: B', fun x hx => ?_, by rw [List.map_cons, List.map_cons, h2, e], .cons r h3⟩
    rcases List.mem_cons.mp hx with rfl | hx
    · exact hb
    · exact h1 x hx
end
section
variable {X : Cx}
/-- set(xs): B0 the things with their keys -/
def rSetG {P : Program} {w : World} {κ : Type} (K : PySem.W.Frag) (Z : Grow P w κ) (IsV : Hp → κ → V → Prop) : List V → Hp → VK → Prop := fun xs H Q => ∃ (l : Addr) (B0 : List (κ × V)), xs = [.ref l] ∧ (SqL K H l (B0.map (·.2)) ∨ SqT K H l (B0.map (·.2))) ∧ (∀ b ∈ B0, IsV H b.1 b.2) ∧ B0.length ≤ Z.cap ∧
  ∀ a B, H a = none → (B.map (·.1)).Nodup → (∀ b ∈ B, b ∈ B0) → (∀ b ∈ B0, b.1 ∈ B.map (·.1)) → Q (.ref a) (upd H a (SetG Z a B))
theorem cSetG {K : PySem.W.Frag} {κ : Type} {Z : Grow X.prog X.w κ} {IsV : Hp → κ → V → Prop} (is_of : ∀ {pins σ H s k v u}, Inv X pins σ H s → IsV H k v → RelV v u → Z.Is s.heap k u) (hu : X.A.units + 64 < cLine) (hc : X.calm = true := by rfl) (hK : X.K = K := by rfl) : CallR X (.type "set") (rSetG K Z IsV) := by
  subst hK
  intro pins s σ H xs us Q I r h
  obtain ⟨l, B0, rfl, hl, hB, cap, q⟩ := h
  rw [Vals.ref1 r]
  have fin : ∀ us : List Value, Vals (B0.map (·.2)) us → ∀ {sd : (ks : List (κ × Value)) → us = ks.map (·.2) → (∀ p ∈ ks, Z.Is s.heap p.1 p.2) → ks.length ≤ Z.cap →
      (∀ h' tk L, Z.R h' s.heap.objs.size L → Has ks ks.length L → (∀ b o, s.heap.get? b = some o → h'.get? b = some o) → ∃ v H', Inv X pins σ H' { s with heap := h', toks := tk } ∧ RelV v (.ref s.heap.objs.size) ∧ Q v H') → wpAny (model X.prog X.w) X.A (call (.type "set") [.ref l]) (fun u s' => ∃ v H', Inv X pins σ H' s' ∧ RelV v u ∧ Q v H') X.xe s},
      wpAny (model X.prog X.w) X.A (call (.type "set") [.ref l]) (fun u s' => ∃ v H', Inv X pins σ H' s' ∧ RelV v u ∧ Q v H') X.xe s := fun us rv sd => by
    obtain ⟨ks, e, k1, kb⟩ := zip_keys rv
    have kl : ks.length = B0.length := by
      have := congrArg List.length k1
      rwa [List.length_map, List.length_map] at this
    refine sd ks e (fun p hp => ?_) (by omega) fun h' tk L R g k => ?_
    · obtain ⟨b, hb, e1, e2⟩ := kb p hp
      rw [← e1]
      exact is_of I (hB b hb) e2
    · have nm := Z.nd R
      obtain ⟨B, h1, h2, h3⟩ := pick_back (B := B0) L fun p hp => kb p (List.mem_of_mem_take (g.from_ p hp))
      refine ⟨.ref s.heap.objs.size, upd H s.heap.objs.size (SetG Z s.heap.objs.size B), I.laid (t' := tk) k (Nat.le_refl _) (setG_new R h2 h3), rfl, q _ B (I.hok.fresh (Nat.le_refl _)) (h2 ▸ nm) h1 fun b hb => ?_⟩
      have : b.1 ∈ ks.map (·.1) := by rw [k1]; exact List.mem_map.mpr ⟨b, hb, rfl⟩
      obtain ⟨p, hp, e1⟩ := List.mem_map.mp this
      rw [← h2, ← e1]
      exact g.all p (by rw [List.take_length]; exact hp)
  rcases hl with hl | hl
  · obtain ⟨its, rv, pl, hz⟩ := I.list hl
    exact fin its rv (sd := fun ks e is0 c hQ => grow_set_list Z ks (I.ok.hd hc) pl.isList (by simpa using e) is0 c (by omega) hQ)
  · obtain ⟨its, rv, pl, hz⟩ := I.tuple hl
    exact fin its rv (sd := fun ks e is0 c hQ => grow_set_tuple Z ks (I.ok.hd hc) pl (by simpa using e) is0 c (by omega) hQ)
def IsTxt : Hp → Str → V → Prop := fun _ k v => v = .str k
theorem txt_of {pins : List (Addr × Obj)} {σ : L2.St} {H : Hp} {s : Shared} {k : Str} {v : V} {u : Value} (I : Inv X pins σ H s) (h : IsTxt H k v) (r : RelV v u) : (txtSet X.prog X.w).Is s.heap k u := by
  cases (show v = .str k from h)
  obtain ⟨t, rfl⟩ := r
  exact strKind_is _ _ _ _
def IsTup (K : PySem.W.Frag) : Hp → List Key → V → Prop := fun H k v => ∃ b, v = .ref b ∧ SqT K H b (k.map kV)
theorem items_kV {P : Program} {w : World} : ∀ {k : List Key} {us : List Value}, Vals (k.map kV) us → ItemsAre (mixKind P w) k us
  | [], _, .nil => .nil
  | _ :: _, _, .cons r t => .cons (kV_is r) (items_kV t)
theorem tup_of {pins : List (Addr × Obj)} {σ : L2.St} {H : Hp} {s : Shared} {k : List Key} {v : V} {u : Value} (I : Inv X pins σ H s) (h : Xia.IsTup X.K H k v) (r : RelV v u) : (tupSet X.prog X.w).Is s.heap k u := by
  obtain ⟨b, rfl, hb⟩ := h
  cases (show u = .ref b from r)
  obtain ⟨its, rv, ⟨o, ho, hc, n, hd⟩, _⟩ := I.tuple hb
  exact ⟨b, rfl, o, its.toArray, n, ho, hc, hd, by simpa using items_kV rv⟩
/-- x in s, s a set of texts -/
def rInTxt (P : Program) (w : World) (neg : Bool) : R2 := fun x y H Q => match x, y with
  | .str z, .ref a => ∃ B, H a = some (SetG (txtSet P w) a B) ∧ Q (.bl (neg != decide (z ∈ B.map (·.1)))) H
  | _, _ => False
theorem txt_setOf {P : Program} {w : World} {h : Heap} {a : Addr} {L : List (Str × Value)} (R : (txtSet P w).R h a L) : h.SetOf (strKind P w) a (fun k => decide (k ∈ L.map (·.1))) L.length := by
  obtain ⟨⟨es, ep, t, m⟩, g, few⟩ := R
  obtain ⟨o, ho, hx, hd⟩ := m.ob
  refine ⟨o, es, ep, t, ho, hx, hd, g.elems m.rows, fun k => ?_, by rw [m.size]; exact few, m.fit, m.size⟩
  rw [decide_eq_true_eq, m.rows, List.mem_map]
  constructor
  · rintro ⟨p, hp, rfl⟩
    exact ⟨ent _ p, List.mem_map.mpr ⟨p, hp, rfl⟩, (g p hp).1⟩
  · rintro ⟨e, he, z⟩
    obtain ⟨p, hp, rfl⟩ := List.mem_map.mp he
    exact ⟨p, hp, (strKind P w).inj _ _ _ (g p hp).1 z⟩
theorem oInTxt {P : Program} {w : World} (hP : X.prog = P := by rfl) (hw : X.w = w := by rfl) : OpR X (compareOp .In) (rInTxt P w false) := by
  subst hP hw
  intro pins s σ H x y v u Q I rx ry h
  unfold rInTxt at h
  split at h
  · obtain ⟨B, hB, q⟩ := h
    obtain ⟨L, R, e, _⟩ := (I.hok _ _ hB).1
    cases ry
    obtain ⟨t, rfl⟩ := rx
    refine wpAny_inSet_of (strKind_is _ _ _ _) rfl (txt_setOf R) ⟨.bl _, H, I.tok _, rfl, ?_⟩
    rw [e]
    simpa using q
  · exact h.elim
theorem oNotInTxt {P : Program} {w : World} (hP : X.prog = P := by rfl) (hw : X.w = w := by rfl) : OpR X (compareOp .NotIn) (rInTxt P w true) := by
  subst hP hw
  intro pins s σ H x y v u Q I rx ry h
  unfold rInTxt at h
  split at h
  · obtain ⟨B, hB, q⟩ := h
    obtain ⟨L, R, e, _⟩ := (I.hok _ _ hB).1
    cases ry
    obtain ⟨t, rfl⟩ := rx
    refine wpAny_notInSet_of (strKind_is _ _ _ _) rfl (txt_setOf R) ⟨.bl _, H, I.tok _, rfl, ?_⟩
    rw [e]
    simpa using q
  · exact h.elim
/-- sorted(s): enc the data that a thing of the set stands for -/
def rSortG {P : Program} {w : World} {κ : Type} (K : PySem.W.Frag) (Z : Grow P w κ) : List V → Hp → VK → Prop := fun vs H Q => ∃ (a : Addr) (B : List (κ × V)) (enc : κ → PyData), vs = [.ref a] ∧ H a = some (SetG Z a B) ∧ (∀ b ∈ B, Dp K H b.2 (enc b.1) ∧ (enc b.1).depth ≤ 50) ∧ PySem.W.AllAlike (B.map fun b => enc b.1) ∧ PySem.W.Sortable (B.map fun b => enc b.1) ∧
  ∀ (p : Addr) (B' : List (κ × V)), B'.Perm B → (B'.map (·.1)).Nodup → H p = none → Q (.ref p) (upd H p (.lst ((B'.mergeSort (PySem.W.dataLe false fun b => enc b.1)).map (·.2))))
theorem perm_vals {κ : Type} {B : List (κ × V)} {L : List (κ × Value)} (e : L.map (·.1) = B.map (·.1)) (r : Vals (B.map (·.2)) (L.map (·.2))) {vs : List Value} (p : vs.Perm (L.map (·.2))) : ∃ B' : List (κ × V), B'.Perm B ∧ Vals (B'.map (·.2)) vs := by
  have key : ∀ {us vs : List Value}, vs.Perm us → ∀ B : List (κ × V), Vals (B.map (·.2)) us → ∃ B' : List (κ × V), B'.Perm B ∧ Vals (B'.map (·.2)) vs := by
    intro us vs p
    induction p with
    | nil => intro B r; exact ⟨B, .refl _, r⟩
    | cons x _ ih =>
      intro B r
      match B, r with
      | b :: B, .cons r1 rs =>
        obtain ⟨B', p', r'⟩ := ih B rs
        exact ⟨b :: B', p'.cons b, .cons r1 r'⟩
    | swap x y l =>
      intro B r
      match B, r with
      | b :: c :: B, .cons r1 (.cons r2 rs) => exact ⟨c :: b :: B, .swap b c B, .cons r2 (.cons r1 rs)⟩
    | trans _ _ ih1 ih2 =>
      intro B r
      obtain ⟨B1, p1, r1⟩ := ih2 B r
      obtain ⟨B2, p2, r2⟩ := ih1 B1 r1
      exact ⟨B2, p2.trans p1, r2⟩
  exact key p B r
mutual
theorem reads_there {h : Heap} : ∀ {v : Value} {d : PyData} {as : List Addr}, Reads h v d as → ∀ b ∈ as, b < h.objs.size
  | _, _, _, .none, _, hb => nomatch hb
  | _, _, _, .bool _, _, hb => nomatch hb
  | _, _, _, .int _ _, _, hb => nomatch hb
  | _, _, _, .str _ _, _, hb => nomatch hb
  | _, _, _, .list h1 _ _ r, b, hb => by
    rcases List.mem_cons.mp hb with rfl | hb
    · exact Heap.lt_size h1
    · exact readsAll_there r b hb
  | _, _, _, .tuple _ _ _ r, b, hb => readsAll_there r b hb
  | _, _, _, .dict h1 _ _ r1 r2, b, hb => by
    rcases List.mem_append.mp hb with hb | hb
    · rcases List.mem_cons.mp hb with rfl | hb
      · exact Heap.lt_size h1
      · exact readsAll_there r1 b hb
    · exact readsAll_there r2 b hb
theorem readsAll_there {h : Heap} : ∀ {vs : List Value} {ds : List PyData} {as : List Addr}, ReadsAll h vs ds as → ∀ b ∈ as, b < h.objs.size
  | _, _, _, .nil, _, hb => nomatch hb
  | _, _, _, .cons r rs, b, hb => by
    rcases List.mem_append.mp hb with hb | hb
    · exact reads_there r b hb
    · exact readsAll_there rs b hb
end
theorem cSortG {K : PySem.W.Frag} {κ : Type} {Z : Grow X.prog X.w κ} (hu : X.A.units + 64 < cLine) (hc : X.calm = true := by rfl) (hK : X.K = K := by rfl) : CallR X (.builtin "sorted") (rSortG K Z) := by
  subst hK
  intro pins s σ H vs us Q I r h
  obtain ⟨a, B, enc, rfl, ha, hd, hal, hk, q⟩ := h
  obtain ⟨L, R, eL, rL⟩ := (I.hok _ _ ha).1
  have ndL := Z.nd R
  rw [Vals.ref1 r]
  obtain ⟨es, ep, t, sa, fit, few, up, tl, vals⟩ := Z.sees R
  refine Calls.call_function_entry kind_sorted plain_sorted entry_sorted (args_sorted1 _) ?_
  unfold Builtin.«sorted»
  refine wpAny_bind (m := checkCount "sorted" 1 1 _) (wpAny_pure (wpAny_bind (collect_set (A := X.A.in1) (I.ok.hd hc) sa fit few up tl fun s1 us k1 hz g1 o1 pm => ?_)))
  rw [vals] at pm
  obtain ⟨B', pB, rB⟩ := perm_vals eL rL pm
  have lenB : B'.length = es.size := by
    have e1 := congrArg List.length eL
    have e2 := congrArg List.length vals
    rw [List.length_map, List.length_map] at e1 e2
    rw [pB.length_eq, ← e1, ← e2, Array.length_toList]
  have lenU : us.length = es.size := by
    have := rB.length
    rw [List.length_map] at this
    omega
  have small : es.size ≤ sizeLine := fits_of_scanBound few
  refine wpAny_bind (wpAny_newList ?_ (by omega))
  have hoL : (s1.heap.push (seqObj "list" us.toArray 0)).get? s1.heap.objs.size = some (seqObj "list" us.toArray 0) := Heap.get?_push_size _ rfl
  have keep1 : ∀ b o, s.heap.get? b = some o → (s1.heap.push (seqObj "list" us.toArray 0)).get? b = some o := fun b o e => Heap.get?_push_of_some _ (k1 b o e)
  have e := (each_vals (bs := B'.map fun b => (b.2, enc b.1)) (us := us) (by rw [List.map_map]; exact rB))
  have er : PySem.W.EachIs (fun u (b : V × PyData) => ∃ as, Reads (s1.heap.push (seqObj "list" us.toArray 0)) u b.2 as ∧ s1.heap.objs.size ∉ as) us (B'.map fun b => (b.2, enc b.1)) := each_and e fun u b hb hr => by
    obtain ⟨c, hc, rfl⟩ := List.mem_map.mp hb
    obtain ⟨as, ra⟩ := Dp.reads I _ _ u (hd c (pB.mem_iff.mp hc)).1 hr
    exact ⟨as, PyProof.Rows.Reads.keeps keep1 ra, fun z => absurd (reads_there ra _ z) (Nat.not_lt.mpr hz)⟩
  have map2 : ∀ f : PyData → PyData, (B'.map fun b => (b.2, enc b.1)).map (fun b : V × PyData => b.2) = B'.map fun b => enc b.1 := fun _ => by rw [List.map_map]; rfl
  have hal' : PySem.W.AllAlike ((B'.map fun b => (b.2, enc b.1)).map fun b : V × PyData => b.2) := by
    rw [map2 id]
    intro d h1 d' h2
    exact hal d ((pB.map _).mem_iff.mp h1) d' ((pB.map _).mem_iff.mp h2)
  have hk' : PySem.W.Sortable ((B'.map fun b => (b.2, enc b.1)).map fun b : V × PyData => b.2) := by
    rw [map2 id]
    rcases hk with hk | hk
    · exact .inl fun d h1 => hk d ((pB.map _).mem_iff.mp h1)
    · exact .inr fun d h1 => hk d ((pB.map _).mem_iff.mp h1)
  refine wpAny_bind (wpAny_holding (PySem.W.list_sort_data (s := { s1 with heap := s1.heap.push (seqObj "list" us.toArray 0) }) (enc := fun b : V × PyData => b.2) (R := fun u (b : V × PyData) => RelV b.1 u) hoL e er hal' hk' (by rw [List.length_map]; omega)
    (fun b hb => by obtain ⟨c, hc, rfl⟩ := List.mem_map.mp hb; have := (hd c (pB.mem_iff.mp hc)).2; show _ + 1 + (enc c.1).depth < cLine; simp only [Around.in1_units]; omega) fun out lo eo => ?_))
  have me : (B'.map fun b => (b.2, enc b.1)).mergeSort (PySem.W.dataLe false fun b : V × PyData => b.2) = (B'.mergeSort (PySem.W.dataLe false fun b => enc b.1)).map fun b => (b.2, enc b.1) := (List.map_mergeSort (f := fun b : κ × V => (b.2, enc b.1)) (r := PySem.W.dataLe false fun b => enc b.1) (s := PySem.W.dataLe false fun b : V × PyData => b.2) (l := B') fun x _ y _ => rfl).symm
  rw [me] at eo
  have rv2 := vals_each eo
  rw [List.map_map] at rv2
  have rv3 : Vals ((B'.mergeSort (PySem.W.dataLe false fun b => enc b.1)).map (·.2)) out := rv2
  have len2 : ((B'.mergeSort (PySem.W.dataLe false fun b => enc b.1)).map (·.2)).length ≤ sizeLine := by rw [List.length_map, List.length_mergeSort]; omega
  obtain ⟨c, hat⟩ := sortedHeap_at (vs := us) (out := out.toArray) hoL
  have old : ∀ b o, s.heap.get? b = some o → (sortedHeap (s1.heap.push (seqObj "list" us.toArray 0)) s1.heap.objs.size us out.toArray).get? b = some o := fun b o e => by
    have q := k1 b o e
    have lt := Heap.lt_size q
    rw [sortedHeap_old (Nat.ne_of_lt lt) (by rw [size_push']; exact Nat.lt_succ_of_lt lt)]
    exact Heap.get?_push_of_some _ q
  have hn : H s1.heap.objs.size = none := I.hok.fresh hz
  have J : Inv X pins σ (upd H s1.heap.objs.size (.lst ((B'.mergeSort (PySem.W.dataLe false fun b => enc b.1)).map (·.2)))) { s1 with heap := sortedHeap (s1.heap.push (seqObj "list" us.toArray 0)) s1.heap.objs.size us out.toArray } :=
    I.call' (ch := []) o1 (Un.laid old hz hn) (I.hok.laid old hz ⟨len2, out, c, rv3, hat⟩) (by rw [g1]; exact I.bare) (fun _ z => nomatch z)
  exact wpAny_pure ⟨_, rfl, .ref s1.heap.objs.size, _, J, rfl, q _ B' pB ((pB.map (·.1)).nodup_iff.mpr (eL ▸ ndL)) hn⟩
end
end Xia

set_option Elab.async false
set_option linter.all false
set_option maxRecDepth 100000
set_option maxHeartbeats 4000000
/-! Own: sorted(xs, key=len), xs a list of texts. -/
namespace Xia
open PySem PySem.Spec PyProof.Rows L2 SX
section
variable {X : Cx}
/-- all objects but those of the base and that at L -/
noncomputable def others (h₀ h : Heap) (L : Addr) : List (Addr × Obj) :=
  (List.range h.objs.size).filterMap fun b => if b = L then none else match h₀.get? b with | some _ => none | none => (h.get? b).map (b, ·)
theorem mem_others {h₀ h : Heap} {L : Addr} {p : Addr × Obj} : p ∈ others h₀ h L ↔ p.1 ≠ L ∧ h₀.get? p.1 = none ∧ h.get? p.1 = some p.2 := by
  obtain ⟨b, o⟩ := p
  unfold others
  rw [List.mem_filterMap]
  constructor
  · rintro ⟨c, hc, e⟩
    by_cases z : c = L
    · rw [if_pos z] at e; cases e
    · rw [if_neg z] at e
      cases q : h₀.get? c with
      | some _ => rw [q] at e; cases e
      | none =>
        rw [q] at e
        obtain ⟨o', h1, h2⟩ := Option.map_eq_some_iff.mp e
        cases h2
        exact ⟨z, q, h1⟩
  · rintro ⟨z, q, e⟩
    refine ⟨b, List.mem_range.mpr (Heap.lt_size e), ?_⟩
    show (if b = L then none else match h₀.get? b with | some _ => none | none => (h.get? b).map (b, ·)) = some (b, o)
    rw [if_neg z]
    show (match h₀.get? b with | some _ => none | none => (h.get? b).map (b, ·)) = some (b, o)
    rw [show h₀.get? b = none from q, show h.get? b = some o from e]
    rfl
/-- all tracked and untracked objects stand but the frame's own, which still has its names -/
theorem Inv.frames {pins : List (Addr × Obj)} {σ : L2.St} {H : Hp} {s : Shared} {h' : Heap} {t' : Nat} {D : Addr} {o : HO} (I : Inv X pins σ H s) (k : ∀ b u, b ≠ X.env.locals → s.heap.get? b = some u → h'.get? b = some u)
    (ns : ∀ m, s.heap.Ns X.env.locals m → h'.Ns X.env.locals m) (hp : s.heap.get? D = none) (hn : H D = none) (new : ObjOk X.prog X.w (upd H D o) h' D o) : Inv X pins σ (upd H D o) { s with heap := h', toks := t' } := by
  have nD : ∀ b u, H b = some u → b ≠ D := fun b u e z => by rw [z, hn] at e; cases e
  have nd : ∀ b u, s.heap.get? b = some u → b ≠ D := fun b u e z => by rw [z, hp] at e; cases e
  have nL : ∀ b u, H b = some u → b ≠ X.env.locals := fun b u e z => by rw [z, I.free] at e; cases e
  refine I.step (g' := s.gens) (d' := s.drawn) (ch := []) (fun _ z => nomatch z) (fun b u l _ _ e _ => k b u l e) (fun b u l _ _ e _ => ⟨u.slots, k b u l e⟩) (fun b u _ e n => by rw [upd_ne (nd b u e)]; exact n)
    (fun b u _ e => ?_) (fun b xs e => by rw [upd_ne (nD b _ e)]; exact e) (fun b u v e => by rw [upd_ne (nD b _ e)]; exact e) (fun b ps e => ⟨#[], by rw [upd_ne (nD b _ e), e]; simp⟩) ns ?_ I.bare
  · by_cases z : b = X.env.locals
    · obtain ⟨m, hm, _⟩ := I.loc
      obtain ⟨o', _, _, e', _⟩ := ns m hm
      exact ⟨o', z ▸ e'⟩
    · exact ⟨u, k b u z e⟩
  · intro b u e
    by_cases z : b = D
    · subst z
      rw [upd_same] at e
      cases e
      exact new
    · rw [upd_ne z] at e
      refine (I.hok b u e).stay (fun c v hc q => k c v ?_ q) (fun c q => (upd_ne (nD c _ q)).trans q) fun c u q => (upd_ne (nD c _ q)).trans q
      rcases hc with rfl | hc
      · exact nL _ _ e
      · exact nL _ _ hc
/-- sorted(xs, key=len) of texts -/
def rSortLen (K : PySem.W.Frag) : List V → Hp → VK → Prop := fun vs H Q => ∃ (a : Addr) (zs : List Str), vs = [.ref a] ∧ SqL K H a (zs.map V.str) ∧ (∀ z ∈ zs, z.length ≤ sizeLine) ∧
  ∀ p, H p = none → Q (.ref p) (upd H p (.lst ((zs.mergeSort fun x y => decide ((x.length : Int) ≤ y.length)).map V.str)))
theorem len_turn {h₀ : Heap} {L : Addr} {m : Str → Option Value} {A : Around} {s : Shared} {news : List (Addr × Obj)} (v : Value) (z : Str) (hv : ∃ t, v = .str z t) (hz : z.length ≤ sizeLine) (h : Heap) (tk : Nat) (own : List (Addr × Obj)) (F : Fr h₀ L h m) (N : News h₀ L h (news ++ own)) :
    wpAny (model X.prog X.w) A (call (.builtin "len") [v]) (PySem.W.KeyEnd h₀ L m (news ++ own) (.int z.length) { s with heap := h, toks := tk }) (fun _ _ => False) { s with heap := h, toks := tk } := by
  obtain ⟨t, rfl⟩ := hv
  have hn := line63
  exact len_str (by omega) ⟨h, _, [], rfl, PySem.W.KeyIs.int _ _, (fun p hp => nomatch hp), F, by rw [List.append_nil]; exact N⟩
theorem each_txt {zs : List Str} : ∀ {us : List Value}, Vals (zs.map V.str) us → PySem.W.EachIs (fun u (z : Str) => ∃ t, u = Value.str z t) us zs := by
  induction zs with
  | nil => intro us h; cases h; exact .nil
  | cons b bs ih =>
    intro us h
    cases h with
    | cons r rs => exact .cons r (ih rs)
theorem txt_each {zs : List Str} : ∀ {us : List Value}, PySem.W.EachIs (fun u (z : Str) => ∃ t, u = Value.str z t) us zs → Vals (zs.map V.str) us := by
  induction zs with
  | nil => intro us h; cases h; exact .nil
  | cons b bs ih =>
    intro us h
    cases h with
    | cons r rs => exact .cons r (ih rs)
theorem run_sortLen {pins : List (Addr × Obj)} {σ : L2.St} {H : Hp} {s : Shared} {vs : List V} {us : List Value} {Q : VK} (hu : X.A.units + 64 < cLine) (I : Inv X pins σ H s) (r : Vals vs us) (h : rSortLen X.K vs H Q) :
    wpAny (model X.prog X.w) X.A (call (.builtin "sorted") us [(Str.ofString "key", .builtin "len")]) (EP X pins σ Q) X.xe s := by
  obtain ⟨a, zs, rfl, hs, hz, q⟩ := h
  obtain ⟨its, rv, hl, hlen⟩ := I.list hs
  rw [List.length_map] at hlen
  rw [Vals.ref1 r]
  obtain ⟨m, hm, _⟩ := id I.loc
  have F : Fr X.base X.env.locals s.heap m := ⟨hm, I.bk, Nat.le_trans I.ok.bsz I.ok.above⟩
  have N : News X.base X.env.locals s.heap (others X.base s.heap X.env.locals) := fun p hp => let ⟨a, b, c⟩ := mem_others.mp hp; ⟨c, a, b⟩
  refine PySem.W.sorted_key_data_frame (b := false) (fun z : Str => .int z.length) F N hl.isList (each_txt rv) (PySem.W.AllAlike.of fun _ _ => rfl) (PySem.W.Sortable.others fun _ => ⟨(fun e => nomatch e), fun _ e => nomatch e⟩) hlen (fun z _ => ?_) (PyProof.Rows.ksk_s1 _ _) (fun _ => PyProof.Rows.ksk_l1 _ _) (fun _ => rfl)
    (fun v z hv hm h tk own F N => len_turn v z hv (hz z hm) h tk own F N) fun D out c h' tk F' N' fresh lo eo => ?_
  · show X.A.units + 2 + 0 < cLine
    omega
  have hD : s.heap.get? D = none := by
    cases e : s.heap.get? D with
    | none => rfl
    | some o =>
      exfalso
      have n1 := (N' _ List.mem_cons_self).2
      exact absurd (fresh (D, o) (mem_others.mpr ⟨n1.1, n1.2, e⟩)) (Nat.lt_irrefl _)
  have hn : H D = none := I.hok.gone hD
  have keep : ∀ b u, b ≠ X.env.locals → s.heap.get? b = some u → h'.get? b = some u := fun b u z e => by
    cases q : X.base.get? b with
    | some u' =>
      have e1 := F.keep b u' q
      rw [e] at e1
      cases e1
      exact F'.keep b u q
    | none => exact (N' (b, u) (List.mem_cons_of_mem _ (mem_others.mpr ⟨z, q, e⟩))).1
  have ns : ∀ m', s.heap.Ns X.env.locals m' → h'.Ns X.env.locals m' := fun m' ⟨o, es, ep, e1, e2, e3, e4⟩ => by
    obtain ⟨o1, es1, ep1, f1, f2, f3, f4⟩ := hm
    rw [e1] at f1
    cases f1
    rw [e2] at f2
    cases f2
    have : m' = m := funext fun x => (e4 x).symm.trans (f4 x)
    rw [this]
    exact F'.ns
  have rv2 := txt_each eo
  have e0 : (PySem.W.dataLe false fun z : Str => PyData.int z.length) = fun x y => decide ((x.length : Int) ≤ y.length) := PySem.W.dataLe_int fun z : Str => (z.length : Int)
  rw [e0] at rv2
  have len2 : ((zs.mergeSort fun x y => decide ((x.length : Int) ≤ y.length)).map V.str).length ≤ sizeLine := by rw [List.length_map, List.length_mergeSort]; exact hlen
  exact ⟨.ref D, upd H D (.lst ((zs.mergeSort fun x y => decide ((x.length : Int) ≤ y.length)).map V.str)), Xia.Inv.frames I keep ns hD hn ⟨len2, out, c, rv2, (N' _ List.mem_cons_self).1⟩, rfl, q D hn⟩
def tSortLen (K : PySem.W.Frag) (t : TA) : TE := fun σ H Q => t σ H fun vs H1 => rSortLen K vs H1 Q
theorem pSortLen {K : PySem.W.Frag} {e : Expr} {t : TA} {p pos kpos lpos : Pos} (hu : X.A.units + 64 < cLine) (ha : PA X [e] t) (hm : X.mg "sorted" = none) (hl : X.mg "len" = none) (hg : Gl X "sorted" := by rfl) (hgl : Gl X "len" := by rfl)
    (he : backTo pos (starEach [e] X.env) = (false, eval e X.env) :: backTo pos (starEach [] X.env) := by rfl) (hpl : (backTo pos (starEach [e] X.env)).any (·.1) = false := by rfl) (hK : X.K = K := by rfl) :
    PE X (.Call (.Name "sorted" p) [e] [⟨some (Str.ofString "key"), .Name "len" lpos, kpos⟩] pos) (tSortLen K t) := by
  subst hK
  refine ⟨fun pins s σ H Q I h => ?_⟩
  refine wpAny_Call_Name_kw (ld_blt I hg hm PyProof.Rows.boot_sorted ?_)
  refine PyProof.Rows.callWith_kw (thn (ha.run pos pins s σ H _ I h) fun us s1 ⟨vs, H1, I1, r1, q1⟩ => ?_) he hpl rfl rfl
  refine PyProof.Rows.kws_cons (ld_blt I1 hgl hl PySem.boot_len (PyProof.Rows.kws_nil ?_))
  exact run_sortLen hu I1 r1 q1
end
end Xia

set_option Elab.async false
set_option linter.all false
set_option maxRecDepth 100000
set_option maxHeartbeats 4000000
/-! Own: texts ordered by length, then as strings: the one ascending list of them. -/
namespace Xia
open PySem PySem.Spec PyProof.Rows L2 SX

/-- the order of places -/
def leS (x y : Str) : Prop := x.length < y.length ∨ (x.length = y.length ∧ x.cps.toList ≤ y.cps.toList)
theorem str_ext {x y : Str} (h : x.cps.toList = y.cps.toList) : x = y := by
  obtain ⟨⟨x⟩⟩ := x
  obtain ⟨⟨y⟩⟩ := y
  cases h
  rfl
theorem leS_anti {x y : Str} (h1 : leS x y) (h2 : leS y x) : x = y := by
  rcases h1 with h1 | ⟨e1, h1⟩
  · rcases h2 with h2 | ⟨e2, h2⟩ <;> omega
  · rcases h2 with h2 | ⟨e2, h2⟩
    · omega
    · exact str_ext (List.le_antisymm h1 h2)
theorem leS_total (x y : Str) : leS x y ∨ leS y x := by
  rcases Nat.lt_trichotomy x.length y.length with h | h | h
  · exact .inl (.inl h)
  · rcases List.le_total x.cps.toList y.cps.toList with c | c
    · exact .inl (.inr ⟨h, c⟩)
    · exact .inr (.inr ⟨h.symm, c⟩)
  · exact .inr (.inl h)
theorem leS_trans {x y z : Str} (h1 : leS x y) (h2 : leS y z) : leS x z := by
  rcases h1 with h1 | ⟨e1, h1⟩
  · rcases h2 with h2 | ⟨e2, h2⟩
    · exact .inl (by omega)
    · exact .inl (by omega)
  · rcases h2 with h2 | ⟨e2, h2⟩
    · exact .inl (by omega)
    · exact .inr ⟨by omega, List.le_trans h1 h2⟩
instance (x y : Str) : Decidable (leS x y) := by unfold leS; infer_instance
/-- each thing once -/
def once : List Str → List Str
  | [] => []
  | a :: l => if a ∈ once l then once l else a :: once l
theorem mem_once {x : Str} : ∀ l : List Str, x ∈ once l ↔ x ∈ l
  | [] => Iff.rfl
  | a :: l => by
    unfold once
    split
    · rename_i h
      rw [mem_once l, List.mem_cons]
      refine ⟨.inr, fun z => z.elim (fun e => ?_) id⟩
      rw [e]
      exact (mem_once l).mp h
    · rw [List.mem_cons, List.mem_cons, mem_once l]
theorem once_nodup : ∀ l : List Str, (once l).Nodup
  | [] => List.nodup_nil
  | a :: l => by
    unfold once
    split
    · exact once_nodup l
    · rename_i h
      exact List.nodup_cons.mpr ⟨h, once_nodup l⟩
theorem once_len : ∀ l : List Str, (once l).length ≤ l.length
  | [] => Nat.le_refl _
  | a :: l => by
    have := once_len l
    unfold once
    split
    · rw [List.length_cons]; omega
    · rw [List.length_cons, List.length_cons]; omega
/-- the ascending list of some texts, each once -/
def ordS (l : List Str) : List Str := (once l).mergeSort fun x y => decide (leS x y)
theorem mem_ordS {x : Str} {l : List Str} : x ∈ ordS l ↔ x ∈ l := by
  unfold ordS
  rw [(List.mergeSort_perm _ _).mem_iff, mem_once]
theorem ordS_nodup (l : List Str) : (ordS l).Nodup := (List.mergeSort_perm _ _).nodup_iff.mpr (once_nodup l)
theorem ordS_len (l : List Str) : (ordS l).length ≤ l.length := by
  unfold ordS
  rw [List.length_mergeSort]
  exact once_len l
theorem ordS_asc (l : List Str) : (ordS l).Pairwise leS := by
  refine (List.pairwise_mergeSort (le := fun x y => decide (leS x y)) (fun a b c h1 h2 => ?_) (fun a b => ?_) (once l)).imp fun h => of_decide_eq_true h
  · exact decide_eq_true (leS_trans (of_decide_eq_true h1) (of_decide_eq_true h2))
  · rcases leS_total a b with h | h
    · rw [decide_eq_true h]; rfl
    · rw [decide_eq_true h, Bool.or_true]
theorem asc_unique : ∀ {l m : List Str}, l.Nodup → m.Nodup → l.Pairwise leS → m.Pairwise leS → (∀ x, x ∈ l ↔ x ∈ m) → l = m
  | [], [], _, _, _, _, _ => rfl
  | [], b :: m, _, _, _, _, h => absurd ((h b).mpr List.mem_cons_self) (fun z => nomatch z)
  | a :: l, [], _, _, _, _, h => absurd ((h a).mp List.mem_cons_self) (fun z => nomatch z)
  | a :: l, b :: m, n1, n2, p1, p2, h => by
    obtain ⟨n1a, n1'⟩ := List.nodup_cons.mp n1
    obtain ⟨n2a, n2'⟩ := List.nodup_cons.mp n2
    obtain ⟨p1a, p1'⟩ := List.pairwise_cons.mp p1
    obtain ⟨p2a, p2'⟩ := List.pairwise_cons.mp p2
    have e : a = b := by
      rcases List.mem_cons.mp ((h a).mp List.mem_cons_self) with e | h1
      · exact e
      · rcases List.mem_cons.mp ((h b).mpr List.mem_cons_self) with e | h2
        · exact e.symm
        · exact leS_anti (p1a b h2) (p2a a h1)
    subst e
    have r : l = m := asc_unique n1' n2' p1' p2' fun x => by
      constructor
      · intro hx
        rcases List.mem_cons.mp ((h x).mp (List.mem_cons_of_mem _ hx)) with e | z
        · exact absurd (e ▸ hx) n1a
        · exact z
      · intro hx
        rcases List.mem_cons.mp ((h x).mpr (List.mem_cons_of_mem _ hx)) with e | z
        · exact absurd (e ▸ hx) n2a
        · exact z
    rw [r]
theorem ordS_of {l m : List Str} (nd : m.Nodup) (asc : m.Pairwise leS) (h : ∀ x, x ∈ m ↔ x ∈ l) : m = ordS l :=
  asc_unique nd (ordS_nodup l) asc (ordS_asc l) fun x => (h x).trans mem_ordS.symm
theorem ordS_congr {l m : List Str} (h : ∀ x, x ∈ l ↔ x ∈ m) : ordS l = ordS m :=
  ordS_of (ordS_nodup l) (ordS_asc l) fun x => mem_ordS.trans (h x)
theorem ordS_id {l : List Str} (nd : l.Nodup) (asc : l.Pairwise leS) : ordS l = l := (ordS_of nd asc fun _ => Iff.rfl).symm

/-! ### sorted by strings, then by length -/
theorem sub_two {α : Type} {a b : α} (ne : a ≠ b) : ∀ {l : List α}, a ∈ l → b ∈ l → [a, b].Sublist l ∨ [b, a].Sublist l
  | c :: l, ha, hb => by
    rcases List.mem_cons.mp ha with rfl | ha'
    · rcases List.mem_cons.mp hb with rfl | hb'
      · exact absurd rfl ne
      · exact .inl (List.Sublist.cons₂ _ (List.singleton_sublist.mpr hb'))
    · rcases List.mem_cons.mp hb with rfl | hb'
      · exact .inr (List.Sublist.cons₂ _ (List.singleton_sublist.mpr ha'))
      · rcases sub_two ne ha' hb' with h | h
        · exact .inl (h.cons c)
        · exact .inr (h.cons c)
theorem sub_both {α : Type} {a b : α} : ∀ {l : List α}, l.Nodup → [a, b].Sublist l → [b, a].Sublist l → False
  | c :: l, nd, h1, h2 => by
    obtain ⟨nc, nd⟩ := List.nodup_cons.mp nd
    cases h1 with
    | cons _ h1 =>
      cases h2 with
      | cons _ h2 => exact sub_both nd h1 h2
      | cons_cons _ h2 => exact nc (h1.subset (List.mem_cons_of_mem _ List.mem_cons_self))
    | cons_cons _ h1 =>
      cases h2 with
      | cons _ h2 => exact nc (h2.subset (List.mem_cons_of_mem _ List.mem_cons_self))
      | cons_cons _ h2 => exact nc (List.singleton_sublist.mp h1)
/-- texts in the order of strings, sorted by length: the ascending list -/
theorem two_sorts {m : List Str} (nd : m.Nodup) : (m.mergeSort fun x y => decide (x.cps.toList ≤ y.cps.toList)).mergeSort (fun x y => decide ((x.length : Int) ≤ y.length)) = ordS m := by
  have n1 : (m.mergeSort fun x y => decide (x.cps.toList ≤ y.cps.toList)).Nodup := (List.mergeSort_perm _ _).nodup_iff.mpr nd
  have s1 : (m.mergeSort fun x y => decide (x.cps.toList ≤ y.cps.toList)).Pairwise fun x y => x.cps.toList ≤ y.cps.toList := by
    refine (List.pairwise_mergeSort (fun a b c h1 h2 => ?_) (fun a b => ?_) m).imp fun h => of_decide_eq_true h
    · exact decide_eq_true (List.le_trans (of_decide_eq_true h1) (of_decide_eq_true h2))
    · rcases List.le_total a.cps.toList b.cps.toList with h | h
      · rw [decide_eq_true h]; rfl
      · rw [decide_eq_true h, Bool.or_true]
  have m1 : ∀ x, x ∈ (m.mergeSort fun x y => decide (x.cps.toList ≤ y.cps.toList)) ↔ x ∈ m := fun x => (List.mergeSort_perm _ _).mem_iff
  generalize (m.mergeSort fun x y => decide (x.cps.toList ≤ y.cps.toList)) = l at n1 s1 m1 ⊢
  have tr : ∀ a b c : Str, decide ((a.length : Int) ≤ b.length) = true → decide ((b.length : Int) ≤ c.length) = true → decide ((a.length : Int) ≤ c.length) = true := fun a b c h1 h2 => by
    have := of_decide_eq_true h1
    have := of_decide_eq_true h2
    exact decide_eq_true (by omega)
  have to : ∀ a b : Str, (decide ((a.length : Int) ≤ b.length) || decide ((b.length : Int) ≤ a.length)) = true := fun a b => by
    rcases Nat.le_total a.length b.length with h | h
    · rw [decide_eq_true (by omega)]; rfl
    · rw [decide_eq_true (p := (b.length : Int) ≤ a.length) (by omega), Bool.or_true]
  have n2 : (l.mergeSort fun x y => decide ((x.length : Int) ≤ y.length)).Nodup := (List.mergeSort_perm _ _).nodup_iff.mpr n1
  have s2 := List.pairwise_mergeSort (le := fun x y : Str => decide ((x.length : Int) ≤ y.length)) tr to l
  have m2 : ∀ x, x ∈ (l.mergeSort fun x y => decide ((x.length : Int) ≤ y.length)) ↔ x ∈ l := fun x => (List.mergeSort_perm _ _).mem_iff
  refine ordS_of n2 (List.pairwise_iff_forall_sublist.mpr fun {a b} hab => ?_) fun x => (m2 x).trans (m1 x)
  have le1 := of_decide_eq_true (List.pairwise_iff_forall_sublist.mp s2 hab)
  by_cases e : a.length = b.length
  · refine .inr ⟨e, ?_⟩
    have ne : a ≠ b := by
      have := n2.sublist hab
      exact fun z => (List.nodup_cons.mp this).1 (z ▸ List.mem_cons_self)
    have ha := (m2 a).mp (hab.subset List.mem_cons_self)
    have hb := (m2 b).mp (hab.subset (List.mem_cons_of_mem _ List.mem_cons_self))
    rcases sub_two ne ha hb with h | h
    · exact List.pairwise_iff_forall_sublist.mp s1 h
    · exact (sub_both n2 hab (List.pair_sublist_mergeSort tr to (decide_eq_true (by omega)) h)).elim
  · exact .inl (by omega)

/-! ### sorted by pairs -/
def pairD (k : List Key) : PyData := .tuple (k.map fun x => match x with | .inl i => .int i | .inr z => .str z)
theorem eqv_int (x y : Int) : PyData.eqv (.int x) (.int y) = decide (x = y) := by rfl
theorem eqv_str (x y : Str) : PyData.eqv (.str x) (.str y) = (x == y) := by rfl
theorem lt_int (x y : Int) : PySem.W.dataLt (.int x) (.int y) = decide (x < y) := by
  have h := congrFun (congrFun (PySem.W.dataLe_int (β := Int) fun b => b) y) x
  rw [PySem.W.dataLe_eq] at h
  have h' : (!PySem.W.dataLt (.int x) (.int y)) = decide (y ≤ x) := h
  by_cases c : x < y
  · rw [decide_eq_true c]
    rw [decide_eq_false (by omega)] at h'
    simpa using h'
  · rw [decide_eq_false c]
    rw [decide_eq_true (by omega)] at h'
    simpa using h'
theorem lt_str (x y : Str) : (!PySem.W.dataLt (.str x) (.str y)) = decide (y.cps.toList ≤ x.cps.toList) := by
  have h := congrFun (congrFun (PySem.W.dataLe_str (β := Str) fun b => b) y) x
  rw [PySem.W.dataLe_eq] at h
  exact h
/-- the key of a text in the law's order -/
def lenKey (z : Str) : List Key := [.inl z.length, .inr z]
theorem pair_le (x y : Str) : (!PySem.W.dataLt (pairD (lenKey y)) (pairD (lenKey x))) = decide (leS x y) := by
  have h : PySem.W.dataLt (pairD (lenKey y)) (pairD (lenKey x)) = _ := PySem.W.dataLt_pair (x := .int y.length) (y := .str y) (x' := .int x.length) (y' := .str x) rfl rfl
  rw [h, eqv_int, eqv_str, lt_int]
  by_cases e : (y.length : Int) = x.length
  · rw [if_pos (decide_eq_true e)]
    by_cases z : y = x
    · subst z
      rw [if_pos (beq_self_eq_true _)]
      exact (decide_eq_true (.inr ⟨rfl, List.le_refl _⟩)).symm
    · rw [if_neg (by simpa using z), lt_str]
      have : (x.cps.toList ≤ y.cps.toList) ↔ leS x y := ⟨fun h => .inr ⟨by omega, h⟩, fun h => by
        rcases h with h | ⟨_, h⟩
        · omega
        · exact h⟩
      exact decide_eq_decide.mpr this
  · rw [if_neg (by simpa using e)]
    by_cases c : (y.length : Int) < x.length
    · rw [decide_eq_true c]
      refine (decide_eq_false fun h => ?_).symm
      rcases h with h | ⟨h, _⟩ <;> omega
    · rw [decide_eq_false c]
      exact (decide_eq_true (.inl (by omega))).symm
end Xia

set_option Elab.async false
set_option linter.all false
set_option maxRecDepth 100000
set_option maxHeartbeats 4000000
/-! Own: what a walk along a word treads, and treads as data. -/
namespace Xia
open PySem PySem.Spec PyProof.Rows L2 SX

/-- where the beginnings of a word lead -/
def trodL (u : List Nat) : List (List Nat) := (List.range (u.length + 1)).map fun i => fol [] (u.take i)
theorem trodL_nil : trodL [] = [[]] := rfl
theorem trodL_snoc (u : List Nat) (c : Nat) : trodL (u ++ [c]) = trodL u ++ [fol [] (u ++ [c])] := by
  unfold trodL
  rw [List.length_append, List.length_singleton, List.range_succ, List.map_append]
  congr 1
  · refine List.map_congr_left fun i hi => ?_
    have := List.mem_range.mp hi
    rw [List.take_append_of_le_length (by omega)]
  · show [fol [] ((u ++ [c]).take (u.length + 1))] = _
    rw [List.take_of_length_le (by rw [List.length_append]; exact Nat.le_refl _)]
theorem trodL_len (u : List Nat) : (trodL u).length = u.length + 1 := by unfold trodL; rw [List.length_map, List.length_range]
theorem trodL_end (u : List Nat) : fol [] u ∈ trodL u := List.mem_map.mpr ⟨u.length, List.mem_range.mpr (Nat.lt_succ_self _), by rw [List.take_length]⟩
theorem trodL_start (u : List Nat) : [] ∈ trodL u := List.mem_map.mpr ⟨0, List.mem_range.mpr (Nat.succ_pos _), rfl⟩
theorem snoc_ind {α : Type} {P : List α → Prop} (h0 : P []) (h1 : ∀ u c, P u → P (u ++ [c])) : ∀ u, P u := fun u => by
  have : ∀ v : List α, P v.reverse := fun v => by
    induction v with
    | nil => exact h0
    | cons c v ih => rw [List.reverse_cons]; exact h1 _ _ ih
  have h := this u.reverse
  rwa [List.reverse_reverse] at h
/-- each place of a walk but the empty one stands beside the one without its last letter -/
theorem trodL_closed : ∀ u w, w ∈ trodL u → w.dropLast ∈ trodL u := by
  refine snoc_ind (fun w hw => ?_) fun u c ih w hw => ?_
  · rw [List.mem_singleton.mp hw]
    exact List.mem_cons_self
  · rw [trodL_snoc] at hw ⊢
    rcases List.mem_append.mp hw with hw | hw
    · exact List.mem_append_left _ (ih w hw)
    · rw [List.mem_singleton.mp hw, fol_app]
      refine List.mem_append_left _ ?_
      show (stp (fol [] u) c).dropLast ∈ trodL u
      unfold stp
      split
      · exact ih _ (ih _ (trodL_end u))
      · rw [List.dropLast_concat]
        exact trodL_end u
theorem trodL_mem {u w : List Nat} (h : w ∈ trodL u) : ∃ i, i ≤ u.length ∧ w = fol [] (u.take i) := by
  obtain ⟨i, hi, rfl⟩ := List.mem_map.mp h
  exact ⟨i, Nat.lt_succ_iff.mp (List.mem_range.mp hi), rfl⟩
theorem trodL_is {u w : List Nat} (hu : IsL u) (h : w ∈ trodL u) : IsL w ∧ isP w = true ∧ w.length ≤ u.length := by
  obtain ⟨i, hi, rfl⟩ := trodL_mem h
  have l1 := fol_len (p := []) (w := u.take i)
  rw [List.length_nil, List.length_take] at l1
  exact ⟨IsL.fol .nil (hu.take i), isP_fol .nil (hu.take i) rfl, by omega⟩
def trod (u : List Nat) : List Str := (trodL u).map S
/-- the places of the tread of a word -/
def plc (u : List Nat) : List Str := ordS (trod u)
theorem mem_plc {u : List Nat} {z : Str} : z ∈ plc u ↔ ∃ w ∈ trodL u, S w = z := by
  unfold plc trod
  rw [mem_ordS, List.mem_map]
theorem plc_len (u : List Nat) : 1 ≤ (plc u).length ∧ (plc u).length ≤ u.length + 1 := by
  refine ⟨List.length_pos_of_mem (mem_plc.mpr ⟨_, trodL_start u, rfl⟩), ?_⟩
  have h := ordS_len (trod u)
  unfold trod at h
  rw [List.length_map, trodL_len] at h
  exact h
/-- of a word that is a place: its beginnings, as they stand -/
theorem plc_place {u : List Nat} (hu : IsL u) (hp : isP u = true) : plc u = (List.range (u.length + 1)).map fun i => S (u.take i) := by
  have e : trod u = (List.range (u.length + 1)).map fun i => S (u.take i) := by
    unfold trod trodL
    rw [List.map_map]
    exact List.map_congr_left fun i _ => congrArg S (fol_nil (hu.take i) (isP_take hp i))
  unfold plc
  rw [e]
  have asc : ((List.range (u.length + 1)).map fun i => S (u.take i)).Pairwise fun x y => x.length < y.length := by
    rw [List.pairwise_map]
    refine List.Pairwise.imp_of_mem (fun {i j} hi hj h => ?_) List.pairwise_lt_range
    have := List.mem_range.mp hj
    rw [S_len, S_len, List.length_take, List.length_take]
    omega
  exact ordS_id (asc.imp fun h e => by rw [e] at h; exact absurd h (Nat.lt_irrefl _)) (asc.imp fun h => .inl h)

/-! ### treads as data -/
def treadD (zs : List Str) (e : Str) : PyData := .tuple [.tuple (zs.map .str), .str e]
def TreadAt (K : PySem.W.Frag) (H : Hp) (t : Addr) (zs : List Str) (e : Str) : Prop := ∃ p, SqT K H t [.ref p, .str e] ∧ SqT K H p (zs.map V.str)
theorem TreadAt.same {K : PySem.W.Frag} {H H' : Hp} {t : Addr} {zs : List Str} {e : Str} (h : TreadAt K H t zs e) (s : Same H H') : TreadAt K H' t zs e :=
  let ⟨p, h1, h2⟩ := h
  ⟨p, s.tup h1, s.tup h2⟩
theorem dp_strs {K : PySem.W.Frag} {H : Hp} : ∀ zs : List Str, DpAll K H (zs.map V.str) (zs.map PyData.str)
  | [] => .nil
  | z :: r => .cons (.str _) (dp_strs r)
theorem TreadAt.dp {K : PySem.W.Frag} {H : Hp} {t : Addr} {zs : List Str} {e : Str} (h : TreadAt K H t zs e) : Dp K H (.ref t) (treadD zs e) := by
  obtain ⟨p, h1, h2⟩ := h
  exact .tup h1 (.cons (.tup h2 (dp_strs zs)) (.cons (.str e) .nil))
theorem eqvAll_strs : ∀ zs ys : List Str, PyData.eqvAll (zs.map .str) (ys.map .str) = decide (zs = ys)
  | [], [] => rfl
  | [], y :: ys => rfl
  | z :: zs, [] => rfl
  | z :: zs, y :: ys => by
    show ((z == y) && PyData.eqvAll (zs.map .str) (ys.map .str)) = _
    rw [eqvAll_strs zs ys]
    by_cases h : z = y
    · subst h
      rw [beq_self_eq_true, Bool.true_and]
      by_cases k : zs = ys
      · rw [decide_eq_true k, decide_eq_true (by rw [k])]
      · rw [decide_eq_false k, decide_eq_false fun e => k (List.cons.inj e).2]
    · rw [beq_eq_false_iff_ne.mpr h, Bool.false_and, decide_eq_false fun e => h (List.cons.inj e).1]
theorem eqv_tread (zs ys : List Str) (e f : Str) : PyData.eqv (treadD zs e) (treadD ys f) = decide (zs = ys ∧ e = f) := by
  show (PyData.eqvAll (zs.map .str) (ys.map .str) && ((e == f) && true)) = _
  rw [eqvAll_strs, Bool.and_true]
  by_cases h : zs = ys
  · rw [decide_eq_true h, Bool.true_and]
    by_cases k : e = f
    · rw [decide_eq_true ⟨h, k⟩, beq_iff_eq.mpr k]
    · rw [decide_eq_false fun z => k z.2, beq_eq_false_iff_ne.mpr k]
  · rw [decide_eq_false h, Bool.false_and, decide_eq_false fun z => h z.1]
/-- texts of letters -/
def Ls (n : Nat) (z : Str) : Prop := ∃ u, z = S u ∧ IsL u ∧ u.length ≤ n
theorem letC_small {c : Nat} (h : c ∈ letC) : c < 1114112 ∧ c < 16 ^ 8 := by revert c; decide
theorem strOk_S {u : List Nat} (h : IsL u) : PyData.canLay0 (.str (S u)) = true := by
  show (S u).cps.all _ = true
  rw [← Array.all_toList, List.all_eq_true]
  intro c hc
  exact decide_eq_true (letC_small (h c (by simpa using hc))).1
/-- data that can be laid, shown in at most n signs -/
structure Nice (k n : Nat) (d : PyData) : Prop where
  show_ : d.showable = true
  lay : d.canLay0 = true
  dp : d.depth ≤ k
  len : d.shown.length ≤ n
theorem Nice.mono {k n k' n' : Nat} {d : PyData} (h : Nice k n d) (h1 : k ≤ k') (h2 : n ≤ n') : Nice k' n' d := ⟨h.show_, h.lay, Nat.le_trans h.dp h1, Nat.le_trans h.len h2⟩
theorem nice_bool (b : Bool) : Nice 0 5 (.bool b) := by cases b <;> exact ⟨rfl, rfl, Nat.le_refl _, by decide⟩
theorem nice_non : Nice 0 5 .none := ⟨rfl, rfl, Nat.le_refl _, by decide⟩
theorem nice_str {m : Nat} {z : Str} (h : Ls m z) : Nice 0 (10 * m + 2) (.str z) := by
  obtain ⟨u, rfl, hu, hl⟩ := h
  refine ⟨rfl, strOk_S hu, Nat.le_refl _, ?_⟩
  have e := StrLaws.reprText_len (S u) fun c hc => (letC_small (hu c (by simpa using hc))).2
  have e0 : (S u).length = u.length := S_len u
  show (reprText (S u)).length ≤ _
  rw [← str_len]
  refine Nat.le_trans e ?_
  rw [e0]
  omega
theorem nice_all {k n : Nat} : ∀ {ds : List PyData}, (∀ d ∈ ds, Nice k n d) → PyData.showableAll ds = true ∧ PyData.canLayAll0 ds = true ∧ PyData.depthAll ds ≤ k ∧ ((PyData.shownAll ds).map fun t => t.length + 2).sum ≤ ds.length * (n + 2) ∧ (PyData.shownAll ds).length = ds.length
  | [], _ => ⟨rfl, rfl, Nat.zero_le _, Nat.zero_le _, rfl⟩
  | d :: ds, h => by
    obtain ⟨h1, h2, h3, h4, h5⟩ := nice_all fun x hx => h x (List.mem_cons_of_mem _ hx)
    obtain ⟨g1, g2, g3, g4⟩ := h d List.mem_cons_self
    refine ⟨?_, ?_, ?_, ?_, ?_⟩
    · show (d.showable && PyData.showableAll ds) = true
      rw [g1, h1]; rfl
    · show (d.canLay0 && PyData.canLayAll0 ds) = true
      rw [g2, h2]; rfl
    · show max d.depth (PyData.depthAll ds) ≤ k
      omega
    · show (d.shown.length + 2) + ((PyData.shownAll ds).map fun t => t.length + 2).sum ≤ (ds.length + 1) * (n + 2)
      rw [Nat.succ_mul]
      omega
    · show (PyData.shownAll ds).length + 1 = ds.length + 1
      rw [h5]
theorem nice_list {k n m : Nat} {ds : List PyData} (h : ∀ d ∈ ds, Nice k n d) (hl : ds.length ≤ m) : Nice (k + 1) (m * (n + 2) + 4) (.list ds) := by
  obtain ⟨h1, h2, h3, h4, h5⟩ := nice_all h
  refine ⟨h1, h2, Nat.succ_le_succ h3, ?_⟩
  show (listText (PyData.shownAll ds)).length ≤ _
  unfold listText
  rw [len_cat]
  have e := textFrom_le (PyData.shownAll ds) 0 "["
  have e1 : (("[" : String) : Str).length = 1 := by decide
  have e2 : (("]" : String) : Str).length = 1 := by decide
  have e3 : ds.length * (n + 2) ≤ m * (n + 2) := Nat.mul_le_mul_right _ hl
  omega
theorem join_le : ∀ ts : List Str, (Str.join ", " ts).length ≤ (ts.map fun t => t.length + 2).sum
  | [] => Nat.le_of_eq rfl
  | t :: ts => by
    have e := join_length_add (t :: ts) (by simp)
    have e' : (Str.join ", " (t :: ts)).length + 2 = ((t :: ts).map fun t => t.length + 2).sum := e
    omega
theorem nice_tuple {k n m : Nat} {ds : List PyData} (h : ∀ d ∈ ds, Nice k n d) (hl : ds.length ≤ m) : Nice (k + 1) (m * (n + 2) + 4) (.tuple ds) := by
  obtain ⟨h1, h2, h3, h4, h5⟩ := nice_all h
  refine ⟨h1, h2, Nat.succ_le_succ h3, ?_⟩
  show (tupleText (PyData.shownAll ds)).length ≤ _
  unfold tupleText
  rw [len_cat, len_cat]
  have e := join_le (PyData.shownAll ds)
  have e1 : (("(" : String) : Str).length = 1 := by decide
  have e2 : ((if (PyData.shownAll ds).length == 1 then ",)" else ")" : String) : Str).length ≤ 2 := by
    split <;> decide
  have e3 : ds.length * (n + 2) ≤ m * (n + 2) := Nat.mul_le_mul_right _ hl
  omega
theorem Nice.shows {k n : Nat} {d : PyData} (h : Nice k n d) (hk : k ≤ 60) (hn : n ≤ 16777216) : Shows d := ⟨h.show_, Nat.le_trans h.dp hk, by rw [sizeLine_eq]; exact Nat.le_trans h.len hn⟩
theorem Nice.shaped {k n : Nat} {d : PyData} (h : Nice k n d) (hk : k ≤ 64) : SeqAt.shaped d = true := by
  unfold SeqAt.shaped
  rw [h.lay, decide_eq_true (Nat.le_trans h.dp hk)]
  rfl
theorem nice_tread {m n : Nat} {zs : List Str} {e : Str} (h : ∀ z ∈ zs, Ls n z) (hl : zs.length ≤ m) (he : Ls n e) : Nice 2 (2 * (m * (10 * n + 4) + 10 * n + 20)) (treadD zs e) := by
  have h1 : Nice 1 (m * (10 * n + 2 + 2) + 4) (.tuple (zs.map .str)) := nice_tuple (fun d hd => by
    obtain ⟨z, hz, rfl⟩ := List.mem_map.mp hd
    exact nice_str (h z hz)) (by rw [List.length_map]; exact hl)
  have h2 := nice_tuple (k := 1) (n := m * (10 * n + 4) + 10 * n + 10) (m := 2) (ds := [.tuple (zs.map .str), .str e]) (fun d hd => by
    simp only [List.mem_cons, List.not_mem_nil, or_false] at hd
    rcases hd with rfl | rfl
    · exact h1.mono (Nat.le_refl _) (by show m * (10 * n + 4) + 4 ≤ _; omega)
    · exact (nice_str he).mono (by omega) (by omega)) (Nat.le_refl _)
  exact h2.mono (Nat.le_refl _) (by omega)
theorem plc_Ls {u : List Nat} (hu : IsL u) : ∀ z ∈ plc u, Ls u.length z := fun z hz => by
  obtain ⟨w, hw, rfl⟩ := mem_plc.mp hz
  obtain ⟨h1, _, h2⟩ := trodL_is hu hw
  exact ⟨w, rfl, h1, h2⟩
theorem fol_Ls {u : List Nat} (hu : IsL u) : Ls u.length (S (fol [] u)) := ⟨_, rfl, IsL.fol .nil hu, by have := fol_len (p := []) (w := u); simpa using this⟩
theorem nice_walk {u : List Nat} {n : Nat} (hu : IsL u) (hl : u.length ≤ n) : Nice 2 (2 * ((n + 1) * (10 * n + 4) + 10 * n + 20)) (treadD (plc u) (S (fol [] u))) :=
  nice_tread (m := n + 1) (n := n) (fun z hz => let ⟨w, a, b, c⟩ := plc_Ls hu z hz; ⟨w, a, b, Nat.le_trans c hl⟩) (Nat.le_trans (plc_len u).2 (by omega)) (let ⟨w, a, b, c⟩ := fol_Ls hu; ⟨w, a, b, Nat.le_trans c hl⟩)
end Xia

set_option Elab.async false
set_option linter.all false
set_option maxRecDepth 100000
set_option maxHeartbeats 4000000
/-! Own: tuple(xs), x in a row of texts; both ways to the ascending tuple of texts. -/
namespace Xia
open PySem PySem.Spec PyProof.Rows L2 SX
section
variable {X : Cx}
def mTupOf (K : PySem.W.Frag) : List V → Hp → VK → Prop := fun xs H Q => match xs with
  | [.ref p] => ∃ ys, SqL K H p ys ∧ ∀ l, H l = none → Q (.ref l) (upd H l (.tup ys))
  | _ => False
theorem cTupOf {K : PySem.W.Frag} (hK : X.K = K := by rfl) : CallR X (.type "tuple") (mTupOf K) := by
  subst hK
  intro pins s σ H xs us Q I r h
  unfold mTupOf at h
  split at h
  · obtain ⟨ys, h1, h2⟩ := h
    exact call_tuple_of pins s σ H _ us Q I r ⟨_, ys, rfl, .inl ⟨h1, h2⟩⟩
  · exact h.elim
theorem pg_tupK {K : PySem.W.Frag} {es : List Expr} {k : Nat} {t : TGs} {n : Nat} {pos : Pos} (hc : X.calm = true) (h : PGs X es t) (hn : (assignEach es X.env).length = n := by rfl) (hst : (assignEach es X.env).findIdx? (·.1) = none := by rfl) (hK : X.K = K := by rfl) : PG X (.Tuple es k pos) (gTup K n t) := by
  subst hK
  exact pg_tup hc h hn hst
/-- x in a list or tuple of texts -/
def rInRow (K : PySem.W.Frag) (neg : Bool) : R2 := fun x y H Q => match x, y with
  | .str z, .ref p => ∃ zs : List Str, (SqL K H p (zs.map V.str) ∨ SqT K H p (zs.map V.str)) ∧ Q (.bl (neg != decide (z ∈ zs))) H
  | _, _ => False
theorem inV_strs (z : Str) : ∀ zs : List Str, inV (.str z) (zs.map V.str) = decide (z ∈ zs)
  | [] => rfl
  | y :: ys => by
    have ih := inV_strs z ys
    unfold inV at ih ⊢
    rw [List.map_cons, List.any_cons, ih]
    have e : eqV (.str y) (.str z) = decide (y = z) := by first | rfl | (unfold eqV; rfl) | (unfold eqV; simp)
    rw [e]
    by_cases h : y = z
    · subst h
      rw [decide_eq_true rfl, Bool.true_or, decide_eq_true List.mem_cons_self]
    · rw [decide_eq_false h, Bool.false_or]
      refine decide_eq_decide.mpr ⟨List.mem_cons_of_mem _, fun k => ?_⟩
      rcases List.mem_cons.mp k with k | k
      · exact absurd k.symm h
      · exact k
theorem oInRow {K : PySem.W.Frag} (hK : X.K = K := by rfl) : OpR X (compareOp .In) (rInRow K false) := by
  subst hK
  intro pins s σ H x y v u Q I rx ry h
  unfold rInRow at h
  split at h
  · rename_i z p
    obtain ⟨zs, h1, h2⟩ := h
    refine op_in_seq pins s σ H _ _ v u Q I rx ry ⟨p, _, rfl, h1, rfl, by rw [List.all_map]; exact List.all_eq_true.mpr fun _ _ => rfl, ?_⟩
    rw [inV_strs]
    simpa using h2
  · exact h.elim
theorem oNotInRow {K : PySem.W.Frag} (hK : X.K = K := by rfl) : OpR X (compareOp .NotIn) (rInRow K true) := by
  subst hK
  intro pins s σ H x y v u Q I rx ry h
  unfold rInRow at h
  split at h
  · rename_i z p
    obtain ⟨zs, h1, h2⟩ := h
    refine op_notIn_seq pins s σ H _ _ v u Q I rx ry ⟨p, _, rfl, h1, rfl, by rw [List.all_map]; exact List.all_eq_true.mpr fun _ _ => rfl, ?_⟩
    rw [inV_strs]
    simpa using h2
  · exact h.elim
end
theorem txt_sorted {B : List (Str × V)} (h : ∀ b ∈ B, b.2 = V.str b.1) : (B.mergeSort (PySem.W.dataLe false fun b => PyData.str b.1)).map (·.2) = ((B.map (·.1)).mergeSort fun x y => decide (x.cps.toList ≤ y.cps.toList)).map V.str := by
  rw [PySem.W.dataLe_str (β := Str × V) fun b => b.1]
  have e := List.map_mergeSort (f := fun b : Str × V => b.1) (r := fun a b : Str × V => decide (a.1.cps.toList ≤ b.1.cps.toList)) (s := fun x y : Str => decide (x.cps.toList ≤ y.cps.toList)) (l := B) fun x _ y _ => rfl
  rw [← e, List.map_map]
  refine List.map_congr_left fun b hb => ?_
  exact h b ((List.mergeSort_perm _ _).mem_iff.mp hb)
/-- set, sorted, sorted by length: the ascending row -/
theorem txt_ord {zs : List Str} {B B' : List (Str × V)} (p : B'.Perm B) (nd : (B'.map (·.1)).Nodup) (sub : ∀ b ∈ B, b ∈ zs.map fun z => (z, V.str z)) (all : ∀ b ∈ (zs.map fun z => (z, V.str z)), b.1 ∈ B.map (·.1)) :
    ∃ m : List Str, (B'.mergeSort (PySem.W.dataLe false fun b => PyData.str b.1)).map (·.2) = m.map V.str ∧ (∀ z ∈ m, z ∈ zs) ∧ (m.mergeSort fun x y => decide ((x.length : Int) ≤ y.length)) = ordS zs := by
  have hB : ∀ b ∈ B', b.2 = V.str b.1 ∧ b.1 ∈ zs := fun b hb => by
    obtain ⟨z, hz, rfl⟩ := List.mem_map.mp (sub b (p.mem_iff.mp hb))
    exact ⟨rfl, hz⟩
  refine ⟨_, txt_sorted fun b hb => (hB b hb).1, fun z hz => ?_, ?_⟩
  · obtain ⟨b, hb, rfl⟩ := List.mem_map.mp ((List.mergeSort_perm _ _).mem_iff.mp hz)
    exact (hB b hb).2
  · rw [two_sorts nd]
    refine ordS_congr fun z => ⟨fun hz => ?_, fun hz => ?_⟩
    · obtain ⟨b, hb, rfl⟩ := List.mem_map.mp hz
      exact (hB b hb).2
    · have := all (z, V.str z) (List.mem_map.mpr ⟨z, hz, rfl⟩)
      exact (p.map (·.1)).mem_iff.mpr this
/-- the text of a key -/
def txtOf : List Key → Str
  | [_, .inr z] => z
  | _ => ""
theorem txtOf_len (z : Str) : txtOf (lenKey z) = z := rfl
/-- the law's own way: pairs of length and text, sorted -/
theorem pair_ord {zs : List Str} {B B' B0 : List (List Key × V)} (h0 : B0.map (·.1) = zs.map lenKey) (p : B'.Perm B) (nd : (B'.map (·.1)).Nodup) (sub : ∀ b ∈ B, b ∈ B0) (all : ∀ b ∈ B0, b.1 ∈ B.map (·.1)) :
    (B'.mergeSort (PySem.W.dataLe false fun b => pairD b.1)).map (fun b => txtOf b.1) = ordS zs ∧ ∀ b ∈ B'.mergeSort (PySem.W.dataLe false fun b => pairD b.1), b ∈ B0 ∧ ∃ z ∈ zs, b.1 = lenKey z := by
  have hB0 : ∀ b ∈ B0, ∃ z ∈ zs, b.1 = lenKey z := fun b hb => by
    have : b.1 ∈ zs.map lenKey := h0 ▸ List.mem_map.mpr ⟨b, hb, rfl⟩
    obtain ⟨z, hz, e⟩ := List.mem_map.mp this
    exact ⟨z, hz, e.symm⟩
  have hB : ∀ b ∈ B', b ∈ B0 := fun b hb => sub b (p.mem_iff.mp hb)
  refine ⟨?_, fun b hb => ?_⟩
  · have e := List.map_mergeSort (f := fun b : List Key × V => txtOf b.1) (r := PySem.W.dataLe false fun b => pairD b.1) (s := fun x y : Str => decide (leS x y)) (l := B') fun x hx y hy => by
      obtain ⟨a, _, ea⟩ := hB0 x (hB x hx)
      obtain ⟨b, _, eb⟩ := hB0 y (hB y hy)
      rw [PySem.W.dataLe_eq]
      show (!PySem.W.dataLt (pairD y.1) (pairD x.1)) = decide (leS (txtOf x.1) (txtOf y.1))
      rw [ea, eb, pair_le]
      rfl
    rw [e]
    have keyed : ∀ b ∈ B', b.1 = lenKey (txtOf b.1) := fun b hb => by
      obtain ⟨z, _, ez⟩ := hB0 b (hB b hb)
      rw [ez]
      rfl
    have nd2 : (B'.map fun b => txtOf b.1).Nodup := by
      rw [List.nodup_iff_pairwise_ne] at nd ⊢
      rw [List.pairwise_map] at nd ⊢
      refine List.Pairwise.imp_of_mem (fun {a b} ha hb h e => h ?_) nd
      rw [keyed a ha, keyed b hb, e]
    refine ordS_of ((List.mergeSort_perm _ _).nodup_iff.mpr nd2) ?_ fun z => ?_
    · refine (List.pairwise_mergeSort (le := fun x y => decide (leS x y)) (fun a b c h1 h2 => ?_) (fun a b => ?_) _).imp fun h => of_decide_eq_true h
      · exact decide_eq_true (leS_trans (of_decide_eq_true h1) (of_decide_eq_true h2))
      · rcases leS_total a b with h | h
        · rw [decide_eq_true h]; rfl
        · rw [decide_eq_true h, Bool.or_true]
    · rw [(List.mergeSort_perm _ _).mem_iff, List.mem_map]
      constructor
      · rintro ⟨b, hb, rfl⟩
        obtain ⟨y, hy, ey⟩ := hB0 b (hB b hb)
        rw [ey]
        exact hy
      · intro hz
        have : lenKey z ∈ B0.map (·.1) := h0 ▸ List.mem_map.mpr ⟨z, hz, rfl⟩
        obtain ⟨b, hb, eb⟩ := List.mem_map.mp this
        obtain ⟨b', hb', eb'⟩ := List.mem_map.mp (all b hb)
        exact ⟨b', p.mem_iff.mpr hb', by rw [eb', eb]; rfl⟩
  · have := hB b ((List.mergeSort_perm _ _).mem_iff.mp hb)
    exact ⟨this, hB0 b this⟩
end Xia

set_option Elab.async false
set_option linter.all false
set_option maxRecDepth 100000
set_option maxHeartbeats 4000000
/-! Own: walks from a place, treads put together and turned back. -/
namespace Xia
open PySem PySem.Spec PyProof.Rows L2 SX
theorem mir_mir {w : List Nat} (h : IsL w) : mir (mir w) = w := by
  unfold mir
  rw [List.map_reverse, List.reverse_reverse, List.map_map]
  have : ∀ v : List Nat, IsL v → v.map (oth ∘ oth) = v := fun v => by
    induction v with
    | nil => intro _; rfl
    | cons c v ih =>
      intro hv
      rw [List.map_cons, ih fun d hd => hv d (List.mem_cons_of_mem _ hd)]
      show oth (oth c) :: v = _
      rw [oth_oth (hv c List.mem_cons_self)]
  exact this w h
/-- a walk by a word is the walk by the place that the word leads to -/
theorem fol_fol {p : List Nat} (hp : IsL p) (pp : isP p = true) : ∀ w, IsL w → fol p (fol [] w) = fol p w := by
  refine snoc_ind (fun _ => rfl) fun u c ih hw => ?_
  have hu : IsL u := hw.sub fun d hd => List.mem_append_left _ hd
  have hc : c ∈ letC := hw c (by simp)
  have e := ih hu
  rw [fol_app p, fol_app []]
  show fol p (stp (fol [] u) c) = stp (fol p u) c
  have r1 : IsL (fol [] u) := IsL.fol .nil hu
  have r2 : isP (fol [] u) = true := isP_fol .nil hu rfl
  rw [← e]
  generalize fol [] u = r at r1 r2 e
  by_cases z : r.getLast? = some (oth c)
  · obtain ⟨r', rfl⟩ : ∃ r', r = r' ++ [oth c] := by
      exact List.getLast?_eq_some_iff.mp z
    have h1 : stp (r' ++ [oth c]) c = r' := by
      unfold stp
      rw [if_pos z, List.dropLast_concat]
    have r'1 : IsL r' := r1.sub fun d hd => List.mem_append_left _ hd
    rw [h1, fol_app]
    show fol p r' = stp (stp (fol p r') (oth c)) c
    have := stp_stp (p := fol p r') (c := oth c) (IsL.fol hp r'1) (isP_fol hp r'1 pp) (oth_mem hc)
    rw [oth_oth hc] at this
    exact this.symm
  · have h1 : stp r c = r ++ [c] := by
      unfold stp
      rw [if_neg z]
    rw [h1, fol_app]
    rfl
/-- where the beginnings of two words, one behind the other, lead -/
theorem trodL_app {u v w : List Nat} (hu : IsL u) (hv : IsL v) : w ∈ trodL (u ++ v) ↔ w ∈ trodL u ∨ ∃ x ∈ trodL v, w = fol (fol [] u) x := by
  have f1 : IsL (fol [] u) := IsL.fol .nil hu
  have f2 : isP (fol [] u) = true := isP_fol .nil hu rfl
  constructor
  · intro h
    obtain ⟨i, hi, rfl⟩ := trodL_mem h
    rw [List.length_append] at hi
    by_cases c : i ≤ u.length
    · refine .inl ?_
      rw [List.take_append_of_le_length c]
      exact List.mem_map.mpr ⟨i, List.mem_range.mpr (by omega), rfl⟩
    · refine .inr ⟨fol [] (v.take (i - u.length)), List.mem_map.mpr ⟨i - u.length, List.mem_range.mpr (by omega), rfl⟩, ?_⟩
      rw [fol_fol f1 f2 _ (hv.take _), ← fol_app]
      congr 1
      rw [List.take_append, List.take_of_length_le (by omega)]
  · rintro (h | ⟨x, h, rfl⟩)
    · obtain ⟨i, hi, rfl⟩ := trodL_mem h
      refine List.mem_map.mpr ⟨i, List.mem_range.mpr (by rw [List.length_append]; omega), ?_⟩
      rw [List.take_append_of_le_length hi]
    · obtain ⟨i, hi, rfl⟩ := trodL_mem h
      refine List.mem_map.mpr ⟨u.length + i, List.mem_range.mpr (by rw [List.length_append]; omega), ?_⟩
      rw [fol_fol f1 f2 _ (hv.take _), ← fol_app, List.take_append, List.take_of_length_le (by omega), Nat.add_sub_cancel_left]
theorem fol_inj {p q u : List Nat} (hp : IsL p) (pp : isP p = true) (hq : IsL q) (pq : isP q = true) (hu : IsL u) (e : fol p u = fol q u) : p = q := by
  rw [← fol_mir hp pp hu, e, fol_mir hq pq hu]
theorem isP_mir {w : List Nat} (hw : IsL w) (h : isP w = true) : isP (mir w) = true := by
  refine isP_iff.mpr fun i c d e1 e2 e3 => ?_
  unfold mir at e1 e2
  have hl := (List.getElem?_eq_some_iff.mp e2).1
  rw [List.length_reverse, List.length_map] at hl
  rw [List.getElem?_reverse (by rw [List.length_map]; omega), List.getElem?_map, List.length_map] at e1 e2
  obtain ⟨c', h1, rfl⟩ := Option.map_eq_some_iff.mp e1
  obtain ⟨d', h2, rfl⟩ := Option.map_eq_some_iff.mp e2
  have hc := hw c' (List.mem_of_getElem? h1)
  have hd := hw d' (List.mem_of_getElem? h2)
  have e4 : c' = oth d' := by
    rw [oth_oth hc] at e3
    exact e3.symm
  exact isP_iff.mp h (w.length - 1 - (i + 1)) d' c' h2 (by rw [show w.length - 1 - (i + 1) + 1 = w.length - 1 - i by omega]; exact h1) e4
/-- the place of the back of a word is the back of its place -/
theorem fol_back {u : List Nat} (hu : IsL u) : fol [] (mir u) = mir (fol [] u) := by
  have r1 : IsL (fol [] u) := IsL.fol .nil hu
  have r2 : isP (fol [] u) = true := isP_fol .nil hu rfl
  have m1 : IsL (mir (fol [] u)) := r1.mir
  have m2 := isP_mir r1 r2
  refine fol_inj (IsL.fol .nil hu.mir) (isP_fol .nil hu.mir rfl) m1 m2 hu ?_
  have a : fol (fol [] (mir u)) u = [] := by
    have := fol_mir (p := []) (w := mir u) .nil rfl hu.mir
    rwa [mir_mir hu] at this
  have b : fol (mir (fol [] u)) u = [] := by
    rw [← fol_fol m1 m2 u hu]
    have := fol_mir (p := []) (w := mir (fol [] u)) .nil rfl m1
    rwa [mir_mir r1, fol_nil m1 m2] at this
  rw [a, b]
/-- where the beginnings of the back of a word lead -/
theorem trodL_back {u w : List Nat} (hu : IsL u) : w ∈ trodL (mir u) ↔ ∃ x ∈ trodL u, w = fol (mir (fol [] u)) x := by
  have r1 : IsL (fol [] u) := IsL.fol .nil hu
  have r2 : isP (fol [] u) = true := isP_fol .nil hu rfl
  have m1 : IsL (mir (fol [] u)) := r1.mir
  have m2 := isP_mir r1 r2
  have key : ∀ i, i ≤ u.length → fol [] (mir (u.drop i)) = fol (mir (fol [] u)) (fol [] (u.take i)) := fun i hi => by
    have hd : IsL (mir (u.drop i)) := (hu.drop i).mir
    have ht := hu.take i
    rw [fol_fol m1 m2 _ ht, ← fol_back hu]
    have e : mir u = mir (u.drop i) ++ mir (u.take i) := by rw [← mir_app, List.take_append_drop]
    rw [e, fol_app]
    have := fol_mir (p := fol [] (mir (u.drop i))) (w := mir (u.take i)) (IsL.fol .nil hd) (isP_fol .nil hd rfl) ht.mir
    rw [mir_mir ht] at this
    exact this.symm
  have tk : ∀ i, i ≤ u.length → (mir u).take (u.length - i) = mir (u.drop i) := fun i hi => by
    have e : mir u = mir (u.drop i) ++ mir (u.take i) := by rw [← mir_app, List.take_append_drop]
    rw [e, List.take_append_of_le_length (by rw [mir_len, List.length_drop]; exact Nat.le_refl _), List.take_of_length_le (by rw [mir_len, List.length_drop]; exact Nat.le_refl _)]
  constructor
  · intro h
    obtain ⟨i, hi, rfl⟩ := trodL_mem h
    rw [mir_len] at hi
    refine ⟨fol [] (u.take (u.length - i)), List.mem_map.mpr ⟨_, List.mem_range.mpr (by omega), rfl⟩, ?_⟩
    rw [← key _ (by omega), ← tk _ (by omega), show u.length - (u.length - i) = i by omega]
  · rintro ⟨x, h, rfl⟩
    obtain ⟨i, hi, rfl⟩ := trodL_mem h
    refine List.mem_map.mpr ⟨u.length - i, List.mem_range.mpr (by rw [mir_len]; omega), ?_⟩
    rw [tk i hi, key i hi]
/-! ### closed sets of places -/
def Shut (A : List Nat → Prop) : Prop := ∀ w, A w → A w.dropLast
theorem shut_take {A : List Nat → Prop} (h : Shut A) : ∀ (n : Nat) (w : List Nat), w.length = n → A w → ∀ k, A (w.take k) := by
  intro n
  induction n with
  | zero =>
    intro w hl hw k
    rw [List.eq_nil_of_length_eq_zero hl, List.take_nil]
    rwa [List.eq_nil_of_length_eq_zero hl] at hw
  | succ n ih =>
    intro w hl hw k
    by_cases c : w.length ≤ k
    · rw [List.take_of_length_le c]; exact hw
    · have := ih w.dropLast (by rw [List.length_dropLast, hl]; rfl) (h w hw) k
      rw [List.dropLast_eq_take, List.take_take, Nat.min_eq_left (by omega)] at this
      exact this
theorem shut_pre {A : List Nat → Prop} (h : Shut A) {w : List Nat} (hw : A w) (k : Nat) : A (w.take k) := shut_take h _ w rfl hw k
theorem join_shut {A Z : List Nat → Prop} (sA : Shut A) (sZ : Shut Z) {p : List Nat} (hp : A p) : Shut fun w => A w ∨ ∃ x, Z x ∧ w = fol p x := by
  have claim : ∀ x, Z x → ∀ k, A ((fol p x).take k) ∨ ∃ y, Z y ∧ (fol p x).take k = fol p y := by
    refine snoc_ind (fun _ k => .inl (shut_pre sA hp k)) fun x c ih hx k => ?_
    have hx' : Z x := by have := sZ _ hx; rwa [List.dropLast_concat] at this
    have ih := ih hx'
    by_cases c1 : (fol p (x ++ [c])).length ≤ k
    · exact .inr ⟨_, hx, List.take_of_length_le c1⟩
    · have e : ∃ k', (fol p (x ++ [c])).take k = (fol p x).take k' := by
        rw [fol_app] at c1 ⊢
        show ∃ k', (stp (fol p x) c).take k = _
        have c1 : ¬ (stp (fol p x) c).length ≤ k := c1
        unfold stp at c1 ⊢
        split
        · rename_i z
          rw [if_pos z] at c1
          rw [List.dropLast_eq_take, List.take_take]
          exact ⟨_, rfl⟩
        · rename_i z
          rw [if_neg z, List.length_append] at c1
          have : [c].length = 1 := rfl
          exact ⟨k, by rw [List.take_append_of_le_length (by omega)]⟩
      obtain ⟨k', e⟩ := e
      rw [e]
      exact ih k'
  rintro w (h | ⟨x, hx, rfl⟩)
  · exact .inl (sA w h)
  · rw [List.dropLast_eq_take]
    exact claim x hx _
theorem pre_back {e : List Nat} (h1 : IsL e) (h2 : isP e = true) (k : Nat) : ∃ j, (mir e).take k = fol (mir e) (e.take j) := by
  by_cases c : k ≤ e.length
  · refine ⟨e.length - k, ?_⟩
    have ee : mir e = mir (e.drop (e.length - k)) ++ mir (e.take (e.length - k)) := by rw [← mir_app, List.take_append_drop]
    have m1 := h1.mir
    have m2 := isP_mir h1 h2
    have hd : IsL (mir (e.drop (e.length - k))) := (h1.drop _).mir
    have hdp : isP (mir (e.drop (e.length - k))) = true := isP_mir (h1.drop _) (isP_drop h2 _)
    have ht := h1.take (e.length - k)
    have l1 : (mir (e.drop (e.length - k))).length = k := by rw [mir_len, List.length_drop]; omega
    have t1 : (mir e).take k = mir (e.drop (e.length - k)) := by
      rw [ee, List.take_append_of_le_length (by omega), List.take_of_length_le (by omega)]
    have f1 : mir e = fol (mir (e.drop (e.length - k))) (mir (e.take (e.length - k))) := by
      rw [fol_place hd ht.mir (by rw [← ee]; exact m2)]
      exact ee
    rw [t1]
    have := fol_mir hd hdp ht.mir
    rw [mir_mir ht, ← f1] at this
    exact this.symm
  · refine ⟨0, ?_⟩
    rw [List.take_of_length_le (by rw [mir_len]; omega), List.take_zero]
    rfl
theorem turn_shut {Z : List Nat → Prop} (sZ : Shut Z) {e : List Nat} (he : Z e) (h1 : IsL e) (h2 : isP e = true) : Shut fun w => ∃ x, Z x ∧ w = fol (mir e) x := by
  have sA : Shut fun w => ∃ k, w = (mir e).take k := fun w ⟨k, hk⟩ => by
    rw [hk, List.dropLast_eq_take, List.take_take]
    exact ⟨_, rfl⟩
  have sub : ∀ w, (∃ k, w = (mir e).take k) → ∃ x, Z x ∧ w = fol (mir e) x := fun w ⟨k, hk⟩ => by
    obtain ⟨j, hj⟩ := pre_back h1 h2 k
    exact ⟨e.take j, shut_pre sZ he j, hk.trans hj⟩
  have j := join_shut sA sZ (p := mir e) ⟨(mir e).length, (List.take_length).symm⟩
  rintro w hw
  rcases j w (.inr hw) with h | h
  · exact sub _ h
  · exact h

theorem len_sub : ∀ {l m : List Str}, l.Nodup → (∀ z ∈ l, z ∈ m) → l.length ≤ m.length
  | [], _, _, _ => Nat.zero_le _
  | z :: l, m, nd, h => by
    obtain ⟨a, b⟩ := List.nodup_cons.mp nd
    have hz := h z List.mem_cons_self
    have := len_sub (m := m.erase z) b fun y hy => (List.mem_erase_of_ne (fun e : y = z => a (e ▸ hy))).mpr (h y (List.mem_cons_of_mem _ hy))
    rw [List.length_erase_of_mem hz] at this
    have := List.length_pos_of_mem hz
    rw [List.length_cons]
    omega
/-! ### treads -/
structure Trd (zs : List Str) (e : List Nat) : Prop where
  asc : ordS zs = zs
  pl : ∀ z ∈ zs, ∃ w, z = S w ∧ IsL w ∧ isP w = true
  cl : ∀ w, S w ∈ zs → S w.dropLast ∈ zs
  few : zs.length ≤ 201
  en : S e ∈ zs
theorem Trd.word {zs : List Str} {e w : List Nat} (T : Trd zs e) (h : S w ∈ zs) : IsL w ∧ isP w = true ∧ w.length ≤ 200 := by
  obtain ⟨w', e1, h1, h2⟩ := T.pl _ h
  cases S_inj e1
  refine ⟨h1, h2, ?_⟩
  have pre : ∀ k, S (w.take k) ∈ zs := shut_pre (A := fun w => S w ∈ zs) T.cl h
  have nd : ((List.range (w.length + 1)).map fun k => S (w.take k)).Nodup := by
    rw [List.nodup_iff_pairwise_ne, List.pairwise_map]
    refine List.Pairwise.imp_of_mem (fun {i j} hi hj hl e => ?_) List.pairwise_lt_range
    have := congrArg List.length (S_inj e)
    have := List.mem_range.mp hj
    rw [List.length_take, List.length_take] at *
    omega
  have := len_sub (m := zs) nd (fun z hz => by
    obtain ⟨k, _, rfl⟩ := List.mem_map.mp hz
    exact pre k)
  rw [List.length_map, List.length_range] at this
  have := T.few
  omega
theorem Trd.nil_mem {zs : List Str} {e : List Nat} (T : Trd zs e) : S [] ∈ zs := by
  have := shut_pre (A := fun w => S w ∈ zs) T.cl T.en 0
  rwa [List.take_zero] at this
theorem Trd.pos {zs : List Str} {e : List Nat} (T : Trd zs e) : 1 ≤ zs.length := List.length_pos_of_mem T.en
theorem Trd.nodup {zs : List Str} {e : List Nat} (T : Trd zs e) : zs.Nodup := T.asc ▸ ordS_nodup zs
theorem Trd.up {zs : List Str} {e : List Nat} (T : Trd zs e) : zs.Pairwise leS := T.asc ▸ ordS_asc zs
theorem Trd.ended {zs : List Str} {e f : List Nat} (T : Trd zs e) (h : S f ∈ zs) : Trd zs f := ⟨T.asc, T.pl, T.cl, T.few, h⟩
/-- each place stands behind the one without its last letter -/
theorem Trd.behind {zs : List Str} {e w : List Nat} (T : Trd zs e) {i : Nat} (h : zs[i]? = some (S w)) (ne : w ≠ []) : S w.dropLast ∈ zs.take i := by
  have hw : S w ∈ zs := List.mem_of_getElem? h
  obtain ⟨j, hj, ej⟩ := List.getElem_of_mem (T.cl w hw)
  have hi := (List.getElem?_eq_some_iff.mp h).1
  have ei := (List.getElem?_eq_some_iff.mp h).2
  have lt : w.dropLast.length < w.length := by
    rw [List.length_dropLast]
    have := List.length_pos_iff.mpr ne
    omega
  rcases Nat.lt_trichotomy j i with c | c | c
  · rw [← ej]
    exact List.mem_take_iff_getElem.mpr ⟨j, by omega, rfl⟩
  · subst c
    rw [ei] at ej
    rw [← S_inj ej] at lt
    exact absurd lt (Nat.lt_irrefl _)
  · have := List.pairwise_iff_getElem.mp T.up i j hi hj c
    rw [ei, ej] at this
    rcases this with z | ⟨z, _⟩
    · rw [S_len, S_len] at z; omega
    · rw [S_len, S_len] at z; omega
theorem plc_trd {u e : List Nat} (hu : IsL u) (hl : u.length ≤ 200) (he : S e ∈ plc u) : Trd (plc u) e := by
  refine ⟨ordS_id (ordS_nodup _) (ordS_asc _), fun z hz => ?_, fun w hw => ?_, Nat.le_trans (plc_len u).2 (by omega), he⟩
  · obtain ⟨w, hw, rfl⟩ := mem_plc.mp hz
    obtain ⟨a, b, _⟩ := trodL_is hu hw
    exact ⟨w, rfl, a, b⟩
  · obtain ⟨x, hx, ex⟩ := mem_plc.mp hw
    cases S_inj ex
    exact mem_plc.mpr ⟨_, trodL_closed u _ hx, rfl⟩
/-- where places lead from a place -/
def mv (p : List Nat) (zs : List Str) : List Str := zs.map fun z => S (fol p z.cps.toList)
theorem mem_mv {p : List Nat} {zs : List Str} {z : Str} : z ∈ mv p zs ↔ ∃ w, S w ∈ zs ∧ z = S (fol p w) := by
  unfold mv
  rw [List.mem_map]
  constructor
  · rintro ⟨y, hy, rfl⟩
    exact ⟨y.cps.toList, by rw [S_tl]; exact hy, rfl⟩
  · rintro ⟨w, hw, rfl⟩
    exact ⟨S w, hw, rfl⟩
def joinS (zs : List Str) (e : List Nat) (ys : List Str) : List Str := ordS (zs ++ mv e ys)
def turnS (zs : List Str) (e : List Nat) : List Str := ordS (mv (mir e) zs)
theorem mem_joinS {zs ys : List Str} {e : List Nat} {z : Str} : z ∈ joinS zs e ys ↔ z ∈ zs ∨ ∃ w, S w ∈ ys ∧ z = S (fol e w) := by
  unfold joinS
  rw [mem_ordS, List.mem_append, mem_mv]
theorem Trd.join {zs ys : List Str} {e f : List Nat} (T : Trd zs e) (U : Trd ys f) (few : (joinS zs e ys).length ≤ 201) : Trd (joinS zs e ys) (fol e f) := by
  obtain ⟨e1, e2, _⟩ := T.word T.en
  refine ⟨ordS_id (ordS_nodup _) (ordS_asc _), fun z hz => ?_, fun w hw => ?_, few, mem_joinS.mpr (.inr ⟨f, U.en, rfl⟩)⟩
  · rcases mem_joinS.mp hz with h | ⟨w, h, rfl⟩
    · exact T.pl z h
    · obtain ⟨w1, w2, _⟩ := U.word h
      exact ⟨_, rfl, IsL.fol e1 w1, isP_fol e1 w1 e2⟩
  · have sh := join_shut (A := fun w => S w ∈ zs) (Z := fun w => S w ∈ ys) T.cl U.cl T.en
    have hw' : S w ∈ zs ∨ ∃ x, S x ∈ ys ∧ w = fol e x := (mem_joinS.mp hw).imp id fun ⟨x, a, b⟩ => ⟨x, a, S_inj b⟩
    exact mem_joinS.mpr ((sh w hw').imp id fun ⟨x, a, b⟩ => ⟨x, a, congrArg S b⟩)
theorem mem_turnS {zs : List Str} {e : List Nat} {z : Str} : z ∈ turnS zs e ↔ ∃ w, S w ∈ zs ∧ z = S (fol (mir e) w) := by
  unfold turnS
  rw [mem_ordS, mem_mv]
theorem Trd.turn {zs : List Str} {e : List Nat} (T : Trd zs e) : Trd (turnS zs e) (mir e) := by
  obtain ⟨e1, e2, _⟩ := T.word T.en
  refine ⟨ordS_id (ordS_nodup _) (ordS_asc _), fun z hz => ?_, fun w hw => ?_, ?_, mem_turnS.mpr ⟨[], T.nil_mem, rfl⟩⟩
  · obtain ⟨w, h, rfl⟩ := mem_turnS.mp hz
    obtain ⟨w1, w2, _⟩ := T.word h
    exact ⟨_, rfl, IsL.fol e1.mir w1, isP_fol e1.mir w1 (isP_mir e1 e2)⟩
  · obtain ⟨x, hx, ex⟩ := mem_turnS.mp hw
    have sh := turn_shut (Z := fun w => S w ∈ zs) T.cl T.en e1 e2
    obtain ⟨y, a, b⟩ := sh w ⟨x, hx, S_inj ex⟩
    exact mem_turnS.mpr ⟨y, a, congrArg S b⟩
  · refine Nat.le_trans (ordS_len _) ?_
    unfold mv
    rw [List.length_map]
    exact T.few
theorem plc_join {u v : List Nat} (hu : IsL u) (hv : IsL v) : joinS (plc u) (fol [] u) (plc v) = plc (u ++ v) := by
  unfold joinS
  refine ordS_congr (m := trod (u ++ v)) fun z => ?_
  rw [List.mem_append, mem_mv]
  unfold trod
  rw [List.mem_map]
  constructor
  · rintro (h | ⟨w, h, rfl⟩)
    · obtain ⟨w, hw, rfl⟩ := mem_plc.mp h
      exact ⟨w, (trodL_app hu hv).mpr (.inl hw), rfl⟩
    · obtain ⟨x, hx, ex⟩ := mem_plc.mp h
      cases S_inj ex
      exact ⟨_, (trodL_app hu hv).mpr (.inr ⟨_, hx, rfl⟩), rfl⟩
  · rintro ⟨w, hw, rfl⟩
    rcases (trodL_app hu hv).mp hw with h | ⟨x, hx, rfl⟩
    · exact .inl (mem_plc.mpr ⟨w, h, rfl⟩)
    · exact .inr ⟨x, mem_plc.mpr ⟨x, hx, rfl⟩, rfl⟩
theorem plc_turn {u : List Nat} (hu : IsL u) : turnS (plc u) (fol [] u) = plc (mir u) := by
  unfold turnS
  refine ordS_congr (m := trod (mir u)) fun z => ?_
  rw [mem_mv]
  unfold trod
  rw [List.mem_map]
  constructor
  · rintro ⟨w, h, rfl⟩
    obtain ⟨x, hx, ex⟩ := mem_plc.mp h
    cases S_inj ex
    exact ⟨_, (trodL_back hu).mpr ⟨_, hx, rfl⟩, rfl⟩
  · rintro ⟨w, hw, rfl⟩
    obtain ⟨x, hx, rfl⟩ := (trodL_back hu).mp hw
    exact ⟨x, mem_plc.mpr ⟨x, hx, rfl⟩, rfl⟩
end Xia

set_option Elab.async false
set_option linter.all false
set_option maxRecDepth 100000
set_option maxHeartbeats 4000000
/-! Own: d.values() of a dict, and the list of it. -/
namespace Xia
open PySem PySem.Spec PyProof.Rows L2 SX
theorem lt1 {n c : Nat} (h : n + 64 < c) : n + 1 < c := by omega
/-- the view of the values of the dict at a -/
def ViewV (r a : Addr) : HO := .ext fun h => h.IsValuesView r a
theorem view_new {P : Program} {w : World} {H : Hp} {h : Heap} {r a : Addr} (v : h.IsValuesView r a) : ObjOk P w H h r (ViewV r a) :=
  ⟨v, let ⟨o, ho, _⟩ := v; ⟨o, ho⟩, fun h1 h2 ⟨o, ho, x⟩ k => ⟨o, k o ho, x⟩⟩
section
variable {X : Cx} {o : Expr} {apos mpos : Pos} {td : TE}
def tVals (td : TE) : TE := fun σ H Q => td σ H fun x H1 => ∃ a kvs, x = .ref a ∧ H1 a = some (.dK kvs) ∧ ∀ r, H1 r = none → Q (.ref r) (upd H1 r (ViewV r a))
theorem pe_vals (hd : PE X o td) (hbase : attributeBase o "values" X.env (eval o X.env) = eval o X.env := by rfl) (hline : (apos.endLine == mpos.line) = true := by rfl) : PE X (.Call (.Attribute o "values" apos) [] [] mpos) (tVals td) := by
  refine ⟨fun pins s σ H Q I h => ?_⟩
  refine wpAny_Call_method0_late hbase hline (thn (hd.run pins s σ H _ I h) fun v s1 ⟨x, H1, I1, r1, a, kvs, ex, ha, q⟩ => ?_)
  subst ex
  cases (show v = Value.ref a from r1)
  obtain ⟨_, low, vs, rel, dof⟩ := dk_of I1.hok ha
  have ty := dof.typeIs
  obtain ⟨ob, es, ep, ho, ex, _⟩ := id dof
  refine ⟨"dict", "dict.values", F.plainAttrs_dict, F.slot_dict_values, F.type_dict_values, ty, fun b e => ?_, Calls.callWith_builtin rfl (PySem.evalArgs_none ?_)⟩
  · cases e
    exact ⟨ob, ho, ex.2.1⟩
  refine call_meetsIn F.slot_dict_values ty F.entry_dict_values (F.args_dict_values_1 _) (meets_dict_values (mixKind X.prog X.w) a low) ⟨⟨vs, dof⟩, ?_⟩
  exact ⟨.ref s1.heap.objs.size, upd H1 s1.heap.objs.size (ViewV s1.heap.objs.size a), I1.laid (t' := s1.toks) (fun b u e => Heap.get?_push_of_some _ e) (Nat.le_refl _) (view_new ⟨_, Heap.get?_push_size _ rfl, rfl, rfl⟩), rfl, q _ (I1.hok.fresh (Nat.le_refl _))⟩
theorem vals_items {kvs : List (Key × V)} {vs : List (Key × Value)} (r : KV kvs vs) : Vals (kvs.map (·.2)) (vs.map (·.2)) := by
  induction r with
  | nil => exact .nil
  | cons h _ ih => exact .cons h.2 ih
/-- list(v), v such a view -/
def mListV : List V → Hp → VK → Prop := fun xs H Q => match xs with
  | [.ref r] => ∃ a kvs, H r = some (ViewV r a) ∧ H a = some (.dK kvs) ∧ ∀ l, H l = none → Q (.ref l) (upd H l (.lst (kvs.map (·.2))))
  | _ => False
theorem cListV (hc : X.calm = true := by rfl) : CallR X (.type "list") mListV := by
  intro pins s σ H xs us Q I r h
  unfold mListV at h
  split at h
  · rename_i v
    obtain ⟨a, kvs, hv, ha, q⟩ := h
    rw [Vals.ref1 r]
    have view : s.heap.IsValuesView v a := (I.hok _ _ hv).1
    obtain ⟨len, low, vs, rel, dof⟩ := dk_of I.hok ha
    obtain ⟨ep, dat⟩ := dof.dictAt
    have n1 : vs.length ≤ sizeLine := by rw [← KV.length rel]; exact len
    refine PySem.W.kdl_call (PySem.W.kdl_values (knd := mixKind X.prog X.w) (kvs := vs) (ep := ep)) (I.ok.hd hc) ⟨view, dat⟩ n1 fun h' tk acc c k at_ items => ?_
    have e : acc.toList = vs.map (·.2) := PySem.W.kdl_vals_eq acc.toList (by rw [Array.length_toList]; exact items.1) fun j v e => items.2 j v (by rw [← Array.getElem?_toList]; exact e)
    have rv : Vals (kvs.map (·.2)) acc.toList := e ▸ vals_items rel
    exact ⟨.ref s.heap.objs.size, upd H s.heap.objs.size (.lst (kvs.map (·.2))), I.laid (t' := tk) k (Nat.le_refl _) ⟨by rw [List.length_map]; exact len, acc.toList, c, rv, at_⟩, rfl, q _ (I.hok.fresh (Nat.le_refl _))⟩
  · exact h.elim
end
end Xia

set_option Elab.async false
set_option linter.all false
namespace Xia
open PySem PySem.Spec PyProof.Rows L2 SX
/-- the beginnings of a text -/
def begs (u : List Nat) : List Str := (List.range (u.length + 1)).map fun i => S (u.take i)
/-- the places of a way that begins at pl -/
def stepsL (pl ex : List Nat) : List Str := (List.range (ex.length + 1)).map fun i => S (fol pl (ex.take i))
theorem begs_len (u : List Nat) : (begs u).length = u.length + 1 := by unfold begs; rw [List.length_map, List.length_range]
theorem stepsL_len (pl ex : List Nat) : (stepsL pl ex).length = ex.length + 1 := by unfold stepsL; rw [List.length_map, List.length_range]
theorem mv_nil {ys : List Str} {f : List Nat} (U : Trd ys f) : mv [] ys = ys := by
  unfold mv
  have : ∀ z ∈ ys, S (fol [] z.cps.toList) = z := fun z hz => by
    obtain ⟨w, rfl, h1, h2⟩ := U.pl z hz
    show S (fol [] w) = S w
    rw [fol_nil h1 h2]
  rw [List.map_congr_left this, List.map_id']
theorem Trd.union {zs ys : List Str} {e f : List Nat} (T : Trd zs e) (U : Trd ys f) (few : (ordS (zs ++ ys)).length ≤ 201) : Trd (ordS (zs ++ ys)) e := by
  have e1 : joinS zs [] ys = ordS (zs ++ ys) := by unfold joinS; rw [mv_nil U]
  have J := (T.ended T.nil_mem).join (U.ended U.nil_mem) (by rw [e1]; exact few)
  rw [e1] at J
  exact J.ended (mem_ordS.mpr (List.mem_append_left _ T.en))
theorem branch_eq {zs : List Str} {pl ex : List Nat} (h1 : IsL pl) (h2 : isP pl = true) (hx : IsL ex) : ordS (zs ++ stepsL pl ex) = joinS zs pl (plc ex) := by
  unfold joinS
  refine ordS_congr fun z => ?_
  rw [List.mem_append, List.mem_append, mem_mv]
  refine or_congr Iff.rfl ?_
  have ff : ∀ i, fol pl (fol [] (ex.take i)) = fol pl (ex.take i) := fun i => fol_fol h1 h2 _ (hx.take i)
  unfold stepsL
  rw [List.mem_map]
  constructor
  · rintro ⟨i, hi, rfl⟩
    exact ⟨fol [] (ex.take i), mem_plc.mpr ⟨_, List.mem_map.mpr ⟨i, hi, rfl⟩, rfl⟩, by rw [ff]⟩
  · rintro ⟨w, h, rfl⟩
    obtain ⟨w', hw, ew⟩ := mem_plc.mp h
    cases S_inj ew
    obtain ⟨i, hi, rfl⟩ := List.mem_map.mp hw
    exact ⟨i, hi, by rw [ff]⟩
theorem Trd.branch {zs : List Str} {e pl ex : List Nat} (T : Trd zs e) (hp : S pl ∈ zs) (hx : IsL ex) (few : zs.length + ex.length + 1 ≤ 201) : Trd (ordS (zs ++ stepsL pl ex)) e := by
  obtain ⟨p1, p2, _⟩ := T.word hp
  have e1 : ordS (zs ++ stepsL pl ex) = joinS zs pl (plc ex) := branch_eq p1 p2 hx
  have l1 := ordS_len (zs ++ stepsL pl ex)
  rw [List.length_append, stepsL_len] at l1
  have hl : ex.length ≤ 200 := by omega
  have J := (T.ended hp).join (plc_trd hx hl (mem_plc.mpr ⟨_, trodL_end ex, rfl⟩)) (by rw [← e1]; omega)
  rw [← e1] at J
  exact J.ended (mem_ordS.mpr (List.mem_append_left _ T.en))
theorem begs_plc {u : List Nat} (hu : IsL u) (hp : isP u = true) : plc u = begs u := plc_place hu hp
theorem Trd.begs {zs : List Str} {e w : List Nat} (T : Trd zs e) (h : S w ∈ zs) : Trd (begs w) w ∧ ∀ z ∈ begs w, z ∈ zs := by
  obtain ⟨h1, h2, h3⟩ := T.word h
  constructor
  · rw [← begs_plc h1 h2]
    refine plc_trd h1 h3 (mem_plc.mpr ⟨_, trodL_end w, ?_⟩)
    rw [fol_nil h1 h2]
  · intro z hz
    obtain ⟨i, _, rfl⟩ := List.mem_map.mp hz
    exact shut_pre (A := fun w => S w ∈ zs) T.cl h i
theorem Trd.two {zs : List Str} {e pl : List Nat} (T : Trd zs e) (h : S pl ∈ zs) : Trd (ordS (Xia.begs e ++ Xia.begs pl)) e := by
  obtain ⟨A1, A2⟩ := T.begs T.en
  obtain ⟨B1, B2⟩ := T.begs h
  refine A1.union B1 (Nat.le_trans (len_sub (ordS_nodup _) fun z hz => ?_) T.few)
  rcases List.mem_append.mp (mem_ordS.mp hz) with h | h
  · exact A2 z h
  · exact B2 z h
theorem Trd.spur {zs : List Str} {e ex : List Nat} (T : Trd zs e) (hx : IsL ex) (few : zs.length + ex.length + 1 ≤ 201) : Trd (ordS (Xia.begs e ++ plc ex)) e := by
  obtain ⟨A1, A2⟩ := T.begs T.en
  have B := plc_trd hx (by omega) (mem_plc.mpr ⟨_, trodL_end ex, rfl⟩)
  refine A1.union B (Nat.le_trans (len_sub (m := zs ++ plc ex) (ordS_nodup _) fun z hz => ?_) ?_)
  · rcases List.mem_append.mp (mem_ordS.mp hz) with h | h
    · exact List.mem_append_left _ (A2 z h)
    · exact List.mem_append_right _ h
  · rw [List.length_append]
    have := (plc_len ex).2
    omega
end Xia

set_option Elab.async false
set_option linter.all false
set_option maxRecDepth 100000
set_option maxHeartbeats 4000000
/-! Own: walks put together in threes; no row of places is seen alike from two of its places. -/
namespace Xia
open PySem PySem.Spec PyProof.Rows L2 SX
theorem fol_assoc {p q x : List Nat} (hp : IsL p) (pp : isP p = true) (hq : IsL q) (pq : isP q = true) (hx : IsL x) : fol p (fol q x) = fol (fol p q) x := by
  have e : fol q x = fol [] (q ++ x) := by rw [fol_app, fol_nil hq pq]
  rw [e, fol_fol hp pp _ (hq.app hx), fol_app]
/-- a place that is no empty one, taken apart: gone out, around, home -/
theorem cyc : ∀ (n : Nat) (g : List Nat), g.length ≤ n → IsL g → isP g = true → g ≠ [] → ∃ u c, g = u ++ (c ++ mir u) ∧ c ≠ [] ∧ isP (c ++ c) = true := by
  intro n
  induction n with
  | zero =>
    intro g hl _ _ ne
    exact absurd (List.eq_nil_of_length_eq_zero (by omega)) ne
  | succ n ih =>
    intro g hl hg pg ne
    cases h : isP (g ++ g) with
    | true => exact ⟨[], g, by show g = g ++ []; rw [List.append_nil], ne, h⟩
    | false =>
      obtain ⟨d, g1, rfl⟩ : ∃ d g1, g = d :: g1 := by
        cases g with
        | nil => exact absurd rfl ne
        | cons d g1 => exact ⟨d, g1, rfl⟩
      have hd : d ∈ letC := hg d (List.mem_cons_self ..)
      have hne1 : g1 ≠ [] := fun z => by
        subst z
        have : isP ([d] ++ [d]) = true := isP_app rfl rfl fun c e h1 h2 => by
          cases h1; cases h2
          exact (by decide : ∀ c ∈ letC, c ≠ oth c) _ hd
        rw [this] at h
        cases h
      obtain ⟨m, c, rfl⟩ : ∃ m c, g1 = m ++ [c] := ⟨g1.dropLast, g1.getLast hne1, (List.dropLast_concat_getLast hne1).symm⟩
      have hc : c ∈ letC := hg c (by simp)
      have e : d = oth c := by
        refine Classical.byContradiction fun k => ?_
        have : isP ((d :: (m ++ [c])) ++ (d :: (m ++ [c]))) = true := isP_app pg pg fun a b h1 h2 => by
          have h1' : ((d :: m) ++ [c]).getLast? = some a := h1
          rw [List.getLast?_concat] at h1'
          cases h1'
          cases h2
          exact k
        rw [this] at h
        cases h
      have ec : c = oth d := by rw [e, oth_oth hc]
      have pm : isP m = true := isP_left (isP_tail pg)
      have mne : m ≠ [] := fun z => by
        subst z
        have : isP (d :: [c]) = true := pg
        exact isP_iff.mp this 0 d c rfl rfl ec
      obtain ⟨u, k, e1, e2, e3⟩ := ih m (by simp at hl; omega) (hg.sub fun x hx => by simp [hx]) pm mne
      refine ⟨d :: u, k, ?_, e2, e3⟩
      rw [mir_cons, ← ec, e1]
      simp
theorem rep_snoc (r : List Nat) (n : Nat) : rep r (n + 1) = rep r n ++ r := by
  unfold rep
  rw [List.replicate_succ', List.flatten_append]
  simp
/-- a row of places that leads into itself by a walk: the walk is empty -/
theorem still {zs : List Str} {e g : List Nat} (T : Trd zs e) (hg : IsL g) (pg : isP g = true) (h : ∀ x, S x ∈ zs → S (fol g x) ∈ zs) : g = [] := by
  refine Classical.byContradiction fun ne => ?_
  obtain ⟨u, c, eg, cne, pc⟩ := cyc g.length g (Nat.le_refl _) hg pg ne
  have hu : IsL u := hg.sub fun d hd => by rw [eg]; simp [hd]
  have hc : IsL c := hg.sub fun d hd => by rw [eg]; simp [hd]
  have hm : IsL (mir u) := hu.mir
  have clen : 0 < c.length := List.length_pos_iff.mpr cne
  have p1 : isP (u ++ c) = true := by
    rw [eg, ← List.append_assoc] at pg
    exact isP_left pg
  have p2 : isP (c ++ mir u) = true := by
    rw [eg] at pg
    exact isP_right pg
  have lastR : ∀ n, (rep c (n + 1)).getLast? = c.getLast? := fun n => by
    rw [rep_snoc, List.getLast?_append]
    cases hh : c.getLast? with
    | none => exact absurd (List.getLast?_eq_none_iff.mp hh) cne
    | some a => rfl
  have headR : ∀ n, (rep c (n + 1)).head? = c.head? := fun n => by
    rw [rep_succ, List.head?_append]
    cases hh : c.head? with
    | none => exact absurd (List.head?_eq_none_iff.mp hh) cne
    | some a => rfl
  have bnd : ∀ {a b : List Nat}, isP (a ++ b) = true → ∀ x y, a.getLast? = some x → b.head? = some y → y ≠ oth x := fun {a b} hp x y h1 h2 => by
    have hl : 0 < a.length := by
      cases a with
      | nil => cases h1
      | cons _ _ => exact Nat.succ_pos _
    refine isP_iff.mp hp (a.length - 1) x y ?_ ?_
    · rw [List.getElem?_append_left (by omega), ← List.getLast?_eq_getElem?]; exact h1
    · rw [List.getElem?_append_right (by omega), show a.length - 1 + 1 - a.length = 0 by omega, ← List.head?_eq_getElem?]; exact h2
  have pw : ∀ n, isP (u ++ (rep c (n + 1) ++ mir u)) = true := fun n => by
    have q1 : isP (rep c (n + 1) ++ mir u) = true := isP_app (rep_isP pc cne _) (isP_right p2) fun x y h1 h2 => by
      rw [lastR] at h1
      exact bnd p2 x y h1 h2
    refine isP_app (isP_left p1) q1 fun x y h1 h2 => ?_
    refine bnd p1 x y h1 ?_
    rw [List.head?_append, headR] at h2
    cases hh : c.head? with
    | none => exact absurd (List.head?_eq_none_iff.mp hh) cne
    | some a =>
      rw [hh] at h2
      exact h2
  have go : ∀ n, S (u ++ (rep c (n + 1) ++ mir u)) ∈ zs := by
    intro n
    induction n with
    | zero =>
      have := h [] T.nil_mem
      have e0 : u ++ (rep c 1 ++ mir u) = g := by rw [eg, rep_succ, show rep c 0 = [] from rfl, List.append_nil]
      rw [e0]
      exact this
    | succ n ih =>
      have q := h _ ih
      have uc : IsL (u ++ c) := hu.app hc
      have e1 : g = fol (u ++ c) (mir u) := by
        rw [fol_place uc hm (by rw [List.append_assoc, ← eg]; exact pg), List.append_assoc]
        exact eg
      have e2 : fol g u = u ++ c := by
        rw [e1]
        have := fol_mir (p := u ++ c) (w := mir u) uc p1 hm
        rwa [mir_mir hu] at this
      have hr : IsL (rep c (n + 1) ++ mir u) := (rep_l hc _).app hm
      rw [fol_app, e2, fol_place uc hr (by
        have := pw (n + 1)
        rw [rep_succ] at this
        simpa [List.append_assoc] using this)] at q
      rw [rep_succ c (n + 1)]
      simpa [List.append_assoc] using q
  have := (T.word (go 200)).2.2
  rw [List.length_append, List.length_append, rep_len] at this
  have : 201 * 1 ≤ 201 * c.length := Nat.mul_le_mul_left _ clen
  omega
/-- no row of places is seen alike from two of its places -/
theorem turn_once {zs : List Str} {e p q : List Nat} (T : Trd zs e) (hp : S p ∈ zs) (hq : S q ∈ zs) (h : turnS zs p = turnS zs q) : p = q := by
  obtain ⟨p1, p2, _⟩ := T.word hp
  obtain ⟨q1, q2, _⟩ := T.word hq
  have m1 := p1.mir
  have m2 := isP_mir p1 p2
  have n1 := q1.mir
  have n2 := isP_mir q1 q2
  have g1 : IsL (fol q (mir p)) := IsL.fol q1 m1
  have g2 : isP (fol q (mir p)) = true := isP_fol q1 m1 q2
  have z : fol q (mir p) = [] := by
    refine still T g1 g2 fun x hx => ?_
    obtain ⟨x1, x2, _⟩ := T.word hx
    have : S (fol (mir p) x) ∈ turnS zs q := h ▸ mem_turnS.mpr ⟨x, hx, rfl⟩
    obtain ⟨y, hy, ey⟩ := mem_turnS.mp this
    obtain ⟨y1, y2, _⟩ := T.word hy
    rw [← fol_assoc q1 q2 m1 m2 x1, S_inj ey, fol_assoc q1 q2 n1 n2 y1]
    have back : fol q (mir q) = [] := by
      have := fol_mir (p := []) (w := q) .nil rfl q1
      rwa [fol_nil q1 q2] at this
    rw [back, fol_nil y1 y2]
    exact hy
  have := fol_mir (p := q) (w := mir p) q1 q2 m1
  rw [z, mir_mir p1, fol_nil p1 p2] at this
  exact this
/-- seen from a place, and back again -/
theorem turn_home {zs : List Str} {e p : List Nat} (T : Trd zs e) (hp : S p ∈ zs) : turnS (turnS zs p) (mir p) = zs := by
  obtain ⟨p1, p2, _⟩ := T.word hp
  have m1 := p1.mir
  have m2 := isP_mir p1 p2
  have back : fol p (mir p) = [] := by
    have := fol_mir (p := []) (w := p) .nil rfl p1
    rwa [fol_nil p1 p2] at this
  have key : ∀ x, S x ∈ zs → fol p (fol (mir p) x) = x := fun x hx => by
    obtain ⟨x1, x2, _⟩ := T.word hx
    rw [fol_assoc p1 p2 m1 m2 x1, back, fol_nil x1 x2]
  have : turnS (turnS zs p) (mir p) = ordS zs := by
    refine ordS_congr fun z => ?_
    rw [mem_mv]
    constructor
    · rintro ⟨w, hw, rfl⟩
      obtain ⟨x, hx, ex⟩ := mem_turnS.mp hw
      rw [S_inj ex, mir_mir p1, key x hx]
      exact hx
    · intro hz
      obtain ⟨x, rfl, _⟩ := T.pl z hz
      exact ⟨_, mem_turnS.mpr ⟨x, hz, rfl⟩, by rw [mir_mir p1, key x hz]⟩
  rw [this, T.asc]
end Xia
namespace Xia
open PySem PySem.Spec PyProof.Rows L2
/-- tuple + tuple, the first one not empty -/
def mCatT (K : PySem.W.Frag) : R2 := fun x y H Q => match x, y with
  | .ref a, .ref b => ∃ xs ys, SqT K H a xs ∧ SqT K H b ys ∧ xs ≠ [] ∧ ys ≠ [] ∧ xs.length + ys.length ≤ sizeLine ∧ ∀ p, H p = none → Q (.ref p) (upd H p (.tup (xs ++ ys)))
  | _, _ => False
theorem oCatT {X : Cx} {K : PySem.W.Frag} (hK : X.K = K := by rfl) : OpR X (binaryOp .Add) (mCatT K) := by
  subst hK
  intro pins s σ H x y v u Q I rx ry h
  unfold mCatT at h
  split at h
  · obtain ⟨xs, ys, h1, h2, h3, h4, h5, h6⟩ := h
    exact op_catT pins s σ H _ _ v u Q I rx ry ⟨_, _, xs, ys, rfl, rfl, h1, h2, h3, h5, fun e => absurd e h4, fun _ => h6⟩
  · exact h.elim
end Xia

set_option Elab.async false
set_option linter.all false
set_option maxRecDepth 100000
set_option maxHeartbeats 4000000
/-! Own: promises of the law helpers and of the program, as a library. -/
namespace Xia
open PySem PySem.Spec PyProof.Rows L2 SX LamX
/-- all but the pen stays, and the pen keeps its cells -/
structure SamQ (p : Addr) (H H' : Hp) : Prop where
  st : SameP p H H'
  kp : ∀ c a r, H p = some (.lst [.ref c, .int a, .int r]) → ∃ a' r', H' p = some (.lst [.ref c, .int a', .int r'])
theorem SamQ.refl (p : Addr) (H : Hp) : SamQ p H H := ⟨.refl p H, fun _ a r h => ⟨a, r, h⟩⟩
theorem SamQ.trans {p : Addr} {H H1 H2 : Hp} (a : SamQ p H H1) (b : SamQ p H1 H2) : SamQ p H H2 := ⟨a.st.trans b.st, fun c x y h => by
  obtain ⟨x', y', h'⟩ := a.kp c x y h
  exact b.kp c x' y' h'⟩
theorem SamQ.of {p : Addr} {H H' : Hp} (h : Same H H') : SamQ p H H' := ⟨.of h, fun c x y e => ⟨x, y, h _ _ e⟩⟩
theorem SamQ.upd {p : Addr} {H : Hp} {c : Addr} {a r a' r' : Int} (h : H p = some (.lst [.ref c, .int a, .int r])) : SamQ p H (upd H p (.lst [.ref c, .int a', .int r'])) := ⟨sameP_upd, fun c' x y e => by
  rw [h] at e
  cases e
  exact ⟨a', r', upd_same⟩⟩
theorem SamQ.seq {K : PySem.W.Frag} {H H' : Hp} {p a : Addr} {xs : List V} (e : SamQ p H H') (n : a ≠ p) (h : SqL K H a xs) : SqL K H' a xs := e.st.seq n h
theorem SamQ.tup {K : PySem.W.Frag} {H H' : Hp} {p a : Addr} {xs : List V} (e : SamQ p H H') (n : a ≠ p) (h : SqT K H a xs) : SqT K H' a xs := e.st.tup n h
/-! ### the pen -/
structure PenAt (n : Nat) (H : Hp) (p : Addr) : Prop where
  ex : ∃ (c : Addr) (cells : List Int) (at_ rest : Int), H p = some (.lst [.ref c, .int at_, .int rest]) ∧ H c = some (.lst (cells.map V.int)) ∧ c ≠ p ∧ 0 ≤ at_ ∧ at_ ≤ n ∧ 0 ≤ rest
theorem _root_.L2.Same.pen {H H' : Hp} {n : Nat} {p : Addr} (s : Same H H') (h : PenAt n H p) : PenAt n H' p := by
  obtain ⟨c, cells, a, r, h1, h2, h3⟩ := h.ex
  exact ⟨c, cells, a, r, s _ _ h1, s _ _ h2, h3⟩
theorem PenAt.mono {H : Hp} {n m : Nat} {p : Addr} (h : PenAt n H p) (l : n ≤ m) : PenAt m H p := by
  obtain ⟨c, cells, a, r, h1, h2, h3, h4, h5, h6⟩ := h.ex
  exact ⟨c, cells, a, r, h1, h2, h3, h4, by omega, h6⟩
def spSpread : Sp := Sp2 fun x y H Q E => ∃ c a : Int, x = .int c ∧ y = .int a ∧ 0 ≤ a ∧ a ≤ 4000000000 ∧ ∀ r H', 0 ≤ r → Same H H' → Q (.int r) H'
def spOpen (K : PySem.W.Frag) : Sp := Sp1 fun x H Q E => ∃ (a : Addr) (ns : List Int), x = .ref a ∧ SqL K H a (ns.map V.int) ∧ ns.length ≤ 63 ∧ ∀ p H', Same H H' → H p = none → PenAt 0 H' p → Q (.ref p) H'
def spTake : Sp := Sp2 fun x y H Q E => ∃ (p : Addr) (n : Nat) (many : Int), x = .ref p ∧ y = .int many ∧ PenAt n H p ∧ n < 4000000000 ∧ 0 < many ∧ many < 1073741824 ∧
  ∀ r H', 0 ≤ r → r < many → SamQ p H H' → PenAt (n + 1) H' p → Q (.int r) H'
def spPick (K : PySem.W.Frag) : Sp := Sp2 fun x y H Q E => ∃ (p : Addr) (n : Nat), x = .ref p ∧ PenAt n H p ∧ n < 4000000000 ∧ match y with
  | .str z => 0 < z.length ∧ z.length ≤ sizeLine ∧ ∀ c ∈ z.cps.toList, ∀ H', SamQ p H H' → PenAt (n + 1) H' p → Q (.str ⟨#[c]⟩) H'
  | .ref a => ∃ xs, (SqL K H a xs ∨ SqT K H a xs) ∧ (a ≠ p ∨ SqT K H a xs ∨ ∀ H', SqL K H' a xs) ∧ xs ≠ [] ∧ xs.length ≤ sizeLine ∧ ∀ v ∈ xs, ∀ H', SamQ p H H' → PenAt (n + 1) H' p → Q v H'
  | _ => False
def primesI : List Int := [2147483629, 2147483587, 2147483579, 2147483563, 2147483549, 2147483543, 2147483497, 2147483489, 2147483477, 2147483423, 2147483399, 2147483353, 2147483323]
theorem primes_at (k : Int) (h0 : 0 ≤ k) (h1 : k < 13) : ∃ pr : Int, atI (primesI.map V.int) k = some (.int pr) ∧ 2147483323 ≤ pr ∧ pr ≤ 2147483629 := by
  have hk : k = 0 ∨ k = 1 ∨ k = 2 ∨ k = 3 ∨ k = 4 ∨ k = 5 ∨ k = 6 ∨ k = 7 ∨ k = 8 ∨ k = 9 ∨ k = 10 ∨ k = 11 ∨ k = 12 := by omega
  rcases hk with rfl | rfl | rfl | rfl | rfl | rfl | rfl | rfl | rfl | rfl | rfl | rfl | rfl <;> exact ⟨_, rfl, by decide, by decide⟩
theorem mul_lt {x y A B : Int} (h1 : 0 ≤ x) (h2 : x ≤ A) (h3 : 0 ≤ y) (h4 : y ≤ B) : 0 ≤ x * y ∧ x * y ≤ A * B :=
  ⟨Int.mul_nonneg h1 h3, Int.mul_le_mul h2 h4 h3 (Int.le_trans h1 h2)⟩
/-! ### words -/
def isW (z : Str) : Bool := z.cps.toList.all fun c => decide (c ∈ letC)
def NoStr (K : PySem.W.Frag) (H : Hp) (v : V) : Prop := ∃ t, TyX K H v (.type t) ∧ PySem.W.kitOne K (.type t) (.type "str") = some false
def WordB (K : PySem.W.Frag) (H : Hp) (x : V) (b : Bool) : Prop := (∃ z, x = .str z ∧ b = isW z) ∨ (NoStr K H x ∧ b = false)
def spIsWord (K : PySem.W.Frag) : Sp := Sp1 fun x H Q E => ∃ b, WordB K H x b ∧ Q (.bl b) H
def spCheckWord (K : PySem.W.Frag) (C : Addr) : Sp := Sp1 fun x H Q E => (∃ z, x = .str z ∧ z.length ≤ sizeLine ∧ (isW z = true → z.length ≤ 200 → Q .non H) ∧ (¬ (isW z = true ∧ z.length ≤ 200) → E (.ref C) none H)) ∨ (NoStr K H x ∧ E (.ref C) none H)
theorem letters_eq : (("ABCDabcd" : Str)).cps.toList = letC := by decide +kernel
theorem PenAt.ne {n : Nat} {H : Hp} {p l : Addr} (h : PenAt n H p) (nl : H l = none) : l ≠ p := by
  obtain ⟨c, cells, at_, rest, hP, _⟩ := h.ex
  exact fun z => ne_of_none hP nl z.symm
theorem row_c {xs : List Addr} {ys : List Value} {x : List Unit} {j : Nat} {c : Addr} (h : xs[j]? = some c) : (xs.map Value.ref ++ ys)[j]? = some (.ref c) := by
  have hj := (List.getElem?_eq_some_iff.mp h).1
  rw [List.getElem?_append_left (by rw [List.length_map]; exact hj), List.getElem?_map, h]
  rfl
theorem row_b {xs ys : List Bool} {j : Nat} {b : Bool} (h : xs[j]? = some b) : (xs ++ ys)[j]? = some b := by
  have hj := (List.getElem?_eq_some_iff.mp h).1
  rw [List.getElem?_append_left hj, h]
/-! ### words and places -/
def BadW (K : PySem.W.Frag) (H : Hp) (v : V) : Prop := (∃ z, v = .str z ∧ z.length ≤ sizeLine ∧ ¬ (isW z = true ∧ z.length ≤ 200)) ∨ NoStr K H v
def BadP (K : PySem.W.Frag) (H : Hp) (v : V) : Prop := (∃ z, v = .str z ∧ z.length ≤ sizeLine ∧ ¬ (isW z = true ∧ isP z.cps.toList = true ∧ z.length ≤ 200)) ∨ NoStr K H v
theorem isW_S {u : List Nat} (h : IsL u) : isW (S u) = true := List.all_eq_true.mpr fun c hc => decide_eq_true (h c hc)
theorem of_isW {z : Str} (h : isW z = true) : IsL z.cps.toList := fun c hc => of_decide_eq_true (List.all_eq_true.mp h c hc)
def PlaceB (K : PySem.W.Frag) (H : Hp) (x : V) (b : Bool) : Prop := (∃ z, x = .str z ∧ z.length ≤ sizeLine ∧ b = (isW z && isP z.cps.toList)) ∨ (NoStr K H x ∧ b = false)
def spIsPlace (K : PySem.W.Frag) : Sp := Sp1 fun x H Q E => ∃ b, PlaceB K H x b ∧ ∀ H', Same H H' → Q (.bl b) H'
def spTurn : Sp := Sp1 fun x H Q E => ∃ u, x = .str (S u) ∧ IsL u ∧ u.length ≤ 1000000 ∧ Q (.str (S (mir u))) H
def spStep : Sp := Sp2 fun x y H Q E => ∃ u c, x = .str (S u) ∧ y = .str (S [c]) ∧ c ∈ letC ∧ u.length ≤ 1000000 ∧ Q (.str (S (stp u c))) H
def spFollow : Sp := Sp2 fun x y H Q E => ∃ u v, x = .str (S u) ∧ y = .str (S v) ∧ IsL v ∧ u.length + v.length ≤ 1000000 ∧ Q (.str (S (fol u v))) H
def spCheckPlace (K : PySem.W.Frag) (C : Addr) : Sp := Sp1 fun x H Q E => (∃ u, x = .str (S u) ∧ IsL u ∧ isP u = true ∧ u.length ≤ 200 ∧ ∀ H', Same H H' → Q .non H') ∨ (BadP K H x ∧ ∀ H', Same H H' → E (.ref C) none H')
def spBack (K : PySem.W.Frag) (C : Addr) : Sp := Sp1 fun x H Q E => (∃ u, x = .str (S u) ∧ IsL u ∧ u.length ≤ 200 ∧ Q (.str (S (mir u))) H) ∨ (BadW K H x ∧ E (.ref C) none H)
def spReduced (K : PySem.W.Frag) (C : Addr) : Sp := Sp1 fun x H Q E => (∃ u, x = .str (S u) ∧ IsL u ∧ u.length ≤ 200 ∧ Q (.str (S (fol [] u))) H) ∨ (BadW K H x ∧ E (.ref C) none H)
def spBehind (K : PySem.W.Frag) (C D : Addr) : Sp := Sp2 fun x y H Q E => (BadP K H x ∧ ∀ H', Same H H' → E (.ref D) none H') ∨
  (∃ u, x = .str (S u) ∧ IsL u ∧ isP u = true ∧ u.length ≤ 200 ∧ ((BadW K H y ∧ ∀ H', Same H H' → E (.ref C) none H') ∨ ∃ v, y = .str (S v) ∧ IsL v ∧ v.length ≤ 200 ∧ ∀ H', Same H H' → Q (.str (S (fol u v))) H'))
theorem TyX.move {K : PySem.W.Frag} {H H' : Hp} {v : V} {t : Value} (h : TyX K H v t) (s : ∀ a o, v = .ref a → (∀ ps, o ≠ .tbl ps) → H a = some o → H' a = some o) : TyX K H' v t := by
  cases h with
  | base h =>
    refine .base ?_
    cases h with
    | non => exact .non
    | bl x => exact .bl x
    | int i => exact .int i
    | str x => exact .str x
    | flt x => exact .flt x
    | lst e => exact .lst (s _ _ rfl (by intro ps z; cases z) e)
    | frz e => exact .frz (s _ _ rfl (by intro ps z; cases z) e)
    | tup e => exact .tup (s _ _ rfl (by intro ps z; cases z) e)
    | dK e => exact .dK (s _ _ rfl (by intro ps z; cases z) e)
    | dT e => exact .dT (s _ _ rfl (by intro ps z; cases z) e)
    | ins e a b c d g => exact .ins (s _ _ rfl (by intro ps z; cases z) e) a b c d g
  | byt b => exact .byt b
  | set e => exact .set (s _ _ rfl (by intro ps z; cases z) e)
  | kList e c => exact .kList e c
  | kTuple e c => exact .kTuple e c
  | kDict e c => exact .kDict e c
  | fTuple e => exact .fTuple (s _ _ rfl (by intro ps z; cases z) e)
  | fDict e => exact .fDict (s _ _ rfl (by intro ps z; cases z) e)
theorem NoStr.move {K : PySem.W.Frag} {H H' : Hp} {v : V} (h : NoStr K H v) (s : ∀ a o, v = .ref a → (∀ ps, o ≠ .tbl ps) → H a = some o → H' a = some o) : NoStr K H' v := by
  obtain ⟨t, h1, h2⟩ := h
  exact ⟨t, TyX.move h1 s, h2⟩
theorem BadW.same {K : PySem.W.Frag} {H H' : Hp} {v : V} (h : BadW K H v) (s : Same H H') : BadW K H' v := h.imp id fun n => n.move fun a o _ _ e => s a o e
/-! ### the law's own helpers -/
def spOther : Sp := Sp1 fun x H Q E => ∃ c, x = .str (S [c]) ∧ c ∈ letC ∧ Q (.str (S [oth c])) H
theorem other_at : ∀ c ∈ letC, ∃ i : Nat, Builtin.Str.occurrences ("aAbBcCdD" : Str) (S [c]) 0 ("aAbBcCdD" : Str).length 1 = [i] ∧ atI ("AaBbCcDd" : Str).cps.toList (i : Int) = some (oth c) := by
  intro c hc
  simp only [letC, List.mem_cons, List.not_mem_nil, or_false] at hc
  rcases hc with rfl | rfl | rfl | rfl | rfl | rfl | rfl | rfl
  · exact ⟨1, by decide +kernel, by decide +kernel⟩
  · exact ⟨3, by decide +kernel, by decide +kernel⟩
  · exact ⟨5, by decide +kernel, by decide +kernel⟩
  · exact ⟨7, by decide +kernel, by decide +kernel⟩
  · exact ⟨0, by decide +kernel, by decide +kernel⟩
  · exact ⟨2, by decide +kernel, by decide +kernel⟩
  · exact ⟨4, by decide +kernel, by decide +kernel⟩
  · exact ⟨6, by decide +kernel, by decide +kernel⟩
def spMirror : Sp := Sp1 fun x H Q E => ∃ u, x = .str (S u) ∧ IsL u ∧ u.length ≤ 100000 ∧ ∀ H', Same H H' → Q (.str (S (mir u))) H'
theorem joinL_nil : ∀ l : List Nat, TL.joinL [] (l.map fun c => [c]) = l
  | [] => rfl
  | [_] => rfl
  | a :: b :: r => by
    have ih := joinL_nil (b :: r)
    show [a] ++ ([] ++ TL.joinL [] ((b :: r).map fun c => [c])) = _
    rw [ih]
    rfl
theorem join_signs (l : List Nat) : Txt.join ("" : Str) (l.map fun c => S [c]) = S l := by
  have e := join_S [] (l.map fun c => [c])
  rw [joinL_nil, List.map_map] at e
  exact e
theorem last_is (u : List Nat) (c : Nat) : (S (u.drop (u.length - 1)) = S [c]) ↔ u.getLast? = some c := by
  cases hu : u with
  | nil => exact ⟨fun e => (by cases S_inj e), fun e => (by cases e)⟩
  | cons a r =>
    rw [← hu]
    have hl : 0 < u.length := by rw [hu]; exact Nat.succ_pos _
    have e : u.drop (u.length - 1) = [u[u.length - 1]] := by
      rw [List.drop_eq_getElem_cons (by omega), List.drop_of_length_le (by omega)]
    rw [e, List.getLast?_eq_getElem?, List.getElem?_eq_getElem (by omega)]
    exact ⟨fun z => by rw [(List.cons.inj (S_inj z)).1], fun z => by rw [Option.some.inj z]⟩
def signsL : List (List Nat) := [[97, 65], [97, 98, 65, 66], [97, 98, 65, 66], [97, 98], [97, 98, 99, 65, 66, 67], [99, 100, 67, 68], [97, 98, 99, 100, 65, 66, 67, 68], [97, 98, 99, 100, 65, 66, 67, 68]]
theorem signs_ok : ∀ u ∈ signsL, u ≠ [] ∧ u.length ≤ 8 ∧ ∀ c ∈ u, c ∈ letC := by decide
def rowsL : List (List Nat) := [[97], [66], [97, 98], [99, 68], [100, 67, 98], [97, 66, 99, 100, 66], [65, 98, 65, 99]]
theorem rows_ok : ∀ u ∈ rowsL, u ≠ [] ∧ u.length ≤ 5 ∧ (∀ c ∈ u, c ∈ letC) ∧ isP (u ++ u) = true := by decide
theorem signs_eq : ([.str "aA", .str "abAB", .str "abAB", .str "ab", .str "abcABC", .str "cdCD", .str "abcdABCD", .str "abcdABCD"] : List V) = signsL.map fun u => V.str (S u) := by kernel_rfl
theorem rows_eq : ([.str "a", .str "B", .str "ab", .str "cD", .str "dCb", .str "aBcdB", .str "AbAc"] : List V) = rowsL.map fun u => V.str (S u) := by kernel_rfl
def spSigns : Sp := Sp1 fun x H Q E => ∃ (p : Addr) (n : Nat), x = .ref p ∧ PenAt n H p ∧ n < 4000000000 ∧ ∀ u H', u ∈ signsL → SamQ p H H' → PenAt (n + 1) H' p → Q (.str (S u)) H'
def spPath : Sp := Sp3 fun x y z H Q E => ∃ (p : Addr) (n most : Nat) (sg : List Nat), x = .ref p ∧ y = .int (most : Nat) ∧ z = .str (S sg) ∧ PenAt n H p ∧ n < 3000000000 ∧ most ≤ 1000 ∧ sg ≠ [] ∧ IsL sg ∧ sg.length ≤ 100 ∧
  ∀ u H', IsL u → u.length ≤ most → SamQ p H H' → PenAt (n + 1 + 2 * most) H' p → Q (.str (S u)) H'
def spFar : Sp := Sp2 fun x y H Q E => ∃ (p : Addr) (n many : Nat), x = .ref p ∧ y = .int (many : Nat) ∧ PenAt n H p ∧ n < 4000000000 ∧ many ≤ 6000 ∧
  ∀ u H', IsL u → isP u = true → u.length = many → SamQ p H H' → PenAt (n + 1) H' p → Q (.str (S u)) H'
def OddV (K : PySem.W.Frag) (p : Addr) (H : Hp) (v : V) : Prop := (∃ z, v = .str z ∧ isW z = false ∧ z.length ≤ 1000) ∨ (NoStr K H v ∧ ∀ a, v = .ref a → a ≠ p ∧ ∃ o, H a = some o ∧ ∀ ps, o ≠ .tbl ps)
def spOdd (K : PySem.W.Frag) : Sp := Sp2 fun x y H Q E => ∃ (p : Addr) (n : Nat) (u : List Nat), x = .ref p ∧ y = .str (S u) ∧ PenAt n H p ∧ n < 3000000000 ∧ IsL u ∧ u.length ≤ 300 ∧
  ∀ v H', OddV K p H' v → SamQ p H H' → PenAt (n + 3) H' p → Q v H'
def errW : List Str := ["word", "place", "tread", "power", "great", "odd", "odd", "odd", "odd", "odd", "odd", "odd", "odd"]
theorem zip_at {α β : Type} {as : List α} {bs : List β} {a : α} {b : β} (h : (a, b) ∈ as.zip bs) : ∃ j : Nat, as[j]? = some a ∧ bs[j]? = some b := by
  obtain ⟨j, hj, e⟩ := List.getElem_of_mem h
  have e1 : (as.zip bs)[j]? = some (a, b) := by rw [List.getElem?_eq_getElem hj, e]
  exact ⟨j, (List.getElem?_zip_eq_some.mp e1).1, (List.getElem?_zip_eq_some.mp e1).2⟩
/-! ### rows of told and due -/
/-- all but l and the tables stays -/
def KeepL (l : Addr) (H H' : Hp) : Prop := ∀ b o, b ≠ l → (∀ ps, o ≠ .tbl ps) → H b = some o → H' b = some o
theorem KeepL.trans {l : Addr} {H H1 H2 : Hp} (a : KeepL l H H1) (b : KeepL l H1 H2) : KeepL l H H2 := fun c o h n e => b c o h n (a c o h n e)
theorem KeepL.ext {l : Addr} {H H1 : Hp} (e : ExtN H H1) : KeepL l H H1 := fun b o _ n h => e b o h n
theorem KeepL.same {l : Addr} {H H1 : Hp} (e : Same H H1) : KeepL l H H1 := fun b o _ _ h => e b o h
theorem KeepL.upd {l : Addr} {H : Hp} {o : HO} : KeepL l H (upd H l o) := fun b x n _ e => by rw [upd_ne n]; exact e
theorem BadW.keep {K : PySem.W.Frag} {l : Addr} {H H' : Hp} {v : V} (h : BadW K H v) (k : KeepL l H H') (n : v ≠ .ref l) : BadW K H' v := h.imp id fun q => q.move fun a o e1 e2 e3 => k a o (fun z => n (by rw [e1, z])) e2 e3
theorem BadW.ext {K : PySem.W.Frag} {H H' : Hp} {v : V} (h : BadW K H v) (e : ExtN H H') : BadW K H' v := h.imp id fun q => q.move fun a o _ e2 e3 => e a o e3 e2
theorem BadW.badP {K : PySem.W.Frag} {H : Hp} {v : V} (h : BadW K H v) : BadP K H v := h.imp (fun ⟨z, a, b, c⟩ => ⟨z, a, b, fun d => c ⟨d.1, d.2.2⟩⟩) id
def OddS (K : PySem.W.Frag) (H : Hp) (v : V) : Prop := (∃ z, v = .str z ∧ isW z = false ∧ z.length ≤ 1000) ∨ NoStr K H v
theorem OddS.bad {K : PySem.W.Frag} {H : Hp} {v : V} (h : OddS K H v) : BadW K H v := h.imp (fun ⟨z, a, b, c⟩ => ⟨z, a, Nat.le_trans c (by decide), fun d => by rw [b] at d; cases d.1⟩) id
theorem OddS.keep {K : PySem.W.Frag} {l : Addr} {H H' : Hp} {v : V} (h : OddS K H v) (k : KeepL l H H') (n : v ≠ .ref l) : OddS K H' v := h.imp id fun q => q.move fun a o e1 e2 e3 => k a o (fun z => n (by rw [e1, z])) e2 e3
theorem OddS.same {K : PySem.W.Frag} {H H' : Hp} {v : V} (h : OddS K H v) (s : Same H H') : OddS K H' v := h.imp id fun n => n.move fun a o _ _ e => s a o e
theorem OddS.word {K : PySem.W.Frag} {H : Hp} {v : V} (h : OddS K H v) : WordB K H v false := h.imp (fun ⟨z, a, b, _⟩ => ⟨z, a, b.symm⟩) fun n => ⟨n, rfl⟩
theorem OddS.place {K : PySem.W.Frag} {H : Hp} {v : V} (h : OddS K H v) : PlaceB K H v false := h.imp (fun ⟨z, a, b, c⟩ => ⟨z, a, Nat.le_trans c (by decide), by rw [b]; rfl⟩) fun n => ⟨n, rfl⟩
/-! ### rows of texts in order, treads -/
def TxtAt (K : PySem.W.Frag) (H : Hp) (l : Addr) (zs : List Str) : Prop := SqL K H l (zs.map V.str) ∨ SqT K H l (zs.map V.str)
def spOrd (K : PySem.W.Frag) : Sp := Sp1 fun x H Q E => ∃ (l : Addr) (zs : List Str), x = .ref l ∧ TxtAt K H l zs ∧ zs.length ≤ 1200 ∧ (∀ z ∈ zs, z.length ≤ 100000) ∧ ∀ p H', Same H H' → H p = none → H' p = some (.tup ((ordS zs).map V.str)) → Q (.ref p) H'
/-- the tread of a word, as a new tuple -/
def spWalked (K : PySem.W.Frag) : Sp := Sp1 fun x H Q E => ∃ u, x = .str (S u) ∧ IsL u ∧ u.length ≤ 1100 ∧ ∀ t H', Same H H' → H t = none → TreadAt K H' t (plc u) (S (fol [] u)) → Q (.ref t) H'
def spTreadOf (K : PySem.W.Frag) (C : Addr) : Sp := Sp1 fun x H Q E => (∃ u, x = .str (S u) ∧ IsL u ∧ u.length ≤ 200 ∧ ∀ t H', Same H H' → H t = none → TreadAt K H' t (plc u) (S (fol [] u)) → Q (.ref t) H') ∨ (BadW K H x ∧ E (.ref C) none H)
/-- are two words alike -/
def alk (u v : List Nat) : Bool := decide (plc u = plc v ∧ S (fol [] u) = S (fol [] v))
def spAlike (K : PySem.W.Frag) (C : Addr) : Sp := Sp2 fun x y H Q E => (BadW K H x ∧ E (.ref C) none H) ∨ (∃ u, x = .str (S u) ∧ IsL u ∧ u.length ≤ 200 ∧ ((BadW K H y ∧ E (.ref C) none H) ∨ ∃ v, y = .str (S v) ∧ IsL v ∧ v.length ≤ 200 ∧ ∀ H', Same H H' → Q (.bl (alk u v)) H'))
def spIsTreadW (K : PySem.W.Frag) : Sp := Sp1 fun x H Q E => ∃ t u, x = .ref t ∧ IsL u ∧ u.length ≤ 200 ∧ TreadAt K H t (plc u) (S (fol [] u)) ∧ ∀ H', Same H H' → Q (.bl true) H'
def spArePlacesW (K : PySem.W.Frag) : Sp := Sp1 fun x H Q E => ∃ p u, x = .ref p ∧ IsL u ∧ u.length ≤ 200 ∧ SqT K H p ((plc u).map V.str) ∧ ∀ H', Same H H' → Q (.bl true) H'
/-- pairs of length and text, one for each text -/
def PairsAt (H : Hp) : List Str → List Addr → Prop
  | [], [] => True
  | z :: zs, t :: ts => H t = some (.tup [.int z.length, .str z]) ∧ PairsAt H zs ts
  | _, _ => False
theorem PairsAt.same {H H' : Hp} (s : Same H H') : ∀ {zs : List Str} {ts : List Addr}, PairsAt H zs ts → PairsAt H' zs ts
  | [], [], _ => trivial
  | z :: zs, t :: ts, h => ⟨s _ _ h.1, PairsAt.same s h.2⟩
  | [], _ :: _, h => h.elim
  | _ :: _, [], h => h.elim
theorem PairsAt.sameP {H H' : Hp} {D : Addr} {xs : List V} (s : SameP D H H') (hD : H D = some (.lst xs)) : ∀ {zs : List Str} {ts : List Addr}, PairsAt H zs ts → PairsAt H' zs ts
  | [], [], _ => trivial
  | z :: zs, t :: ts, h => ⟨s _ _ (ne_of h.1 hD (by intro z; cases z)) h.1, PairsAt.sameP s hD h.2⟩
  | [], _ :: _, h => h.elim
  | _ :: _, [], h => h.elim
theorem PairsAt.snoc {H : Hp} {z : Str} {t : Addr} (h1 : H t = some (.tup [.int z.length, .str z])) : ∀ {zs : List Str} {ts : List Addr}, PairsAt H zs ts → PairsAt H (zs ++ [z]) (ts ++ [t])
  | [], [], _ => ⟨h1, trivial⟩
  | y :: zs, u :: ts, h => ⟨h.1, PairsAt.snoc h1 h.2⟩
  | [], _ :: _, h => h.elim
  | _ :: _, [], h => h.elim
theorem PairsAt.len {H : Hp} : ∀ {zs : List Str} {ts : List Addr}, PairsAt H zs ts → zs.length = ts.length
  | [], [], _ => rfl
  | _ :: _, _ :: _, h => congrArg (· + 1) (PairsAt.len h.2)
  | [], _ :: _, h => h.elim
  | _ :: _, [], h => h.elim
/-- the pairs with their keys -/
theorem PairsAt.keys {H : Hp} : ∀ {zs : List Str} {ts : List Addr}, PairsAt H zs ts → ∃ B0 : List (List Key × V), B0.map (·.1) = zs.map lenKey ∧ B0.map (·.2) = ts.map V.ref ∧ ∀ b ∈ B0, ∃ t z, b = (lenKey z, V.ref t) ∧ H t = some (.tup [.int z.length, .str z])
  | [], [], _ => ⟨[], rfl, rfl, fun b hb => nomatch hb⟩
  | z :: zs, t :: ts, h => by
    obtain ⟨B0, e1, e2, e3⟩ := PairsAt.keys h.2
    refine ⟨(lenKey z, .ref t) :: B0, by rw [List.map_cons, List.map_cons, e1], by rw [List.map_cons, List.map_cons, e2], fun b hb => ?_⟩
    rcases List.mem_cons.mp hb with rfl | hb
    · exact ⟨t, z, rfl, h.1⟩
    · exact e3 b hb
  | [], _ :: _, h => h.elim
  | _ :: _, [], h => h.elim
/-! ### one step into a reading, its inner parts as they are -/
theorem tRet_intro {te : TE} {D : Ends} {σ : L2.St} {H : Hp} (h : te σ H D.rt) : tRet te D σ H := h
theorem tCB_intro1 {r : List V → Hp → VK → Prop} {t : TE} {σ : L2.St} {H : Hp} {Q : VK} (h : t σ H fun v H1 => r [v] H1 Q) : tCB r (tCons t tNil) σ H Q := h
theorem iAny_intro {K : PySem.W.Frag} {te : TE} {σ : L2.St} {H : Hp} {R : It → Hp → Prop} (h : te σ H fun v H1 => iVal K v σ H1 R) : iAny K te σ H R := h
theorem tLc_intro {wi : TI} {g : TG} {tt : TT} {te : TE} {vs : List Nat} {σ : L2.St} {H : Hp} {Q : VK} (h : wi σ H fun J H1 => ∀ D, H1 D = none → ∃ W : Nat → Nat → Hp → Prop, (∃ m, W 0 m (upd H1 D (.lst []))) ∧ ∀ i m H, W i m H →
  (J.stop i H ∧ Q (.ref D) H) ∨ (J.go i H ∧ ∃ Nx : Hp → Prop, (∀ H', Nx H' → ∃ m', m' < m ∧ W (i + 1) m' H') ∧ ∀ x H', J.yld i H x H' → g x (wipe σ vs) H' fun σ2 H2 => wipe σ2 vs = wipe σ vs ∧ tt σ2 H2 fun b H3 =>
    if b = true then te σ2 H3 fun y H4 => ∃ acc, H4 D = some (.lst acc) ∧ acc.length < sizeLine ∧ Nx (upd H4 D (.lst (acc ++ [y]))) else Nx H3)) : tLc wi g tt te vs σ H Q := h
theorem sqT_ty {K : PySem.W.Frag} {H : Hp} {t : Addr} {xs : List V} (h : SqT K H t xs) : TyX K H (.ref t) (.type "tuple") := by
  rcases h with (h | ⟨o, h⟩) | ⟨o, its, n, h1, h2, _⟩
  · exact .base (.tup h)
  · exact .fTuple h
  · exact .kTuple h1 h2
def spNear : Sp := Sp3 fun x y z H Q E => ∃ (p : Addr) (n : Nat) (u sg : List Nat), x = .ref p ∧ y = .str (S u) ∧ z = .str (S sg) ∧ PenAt n H p ∧ n < 2000000000 ∧ IsL u ∧ u.length ≤ 20 ∧ sg ≠ [] ∧ IsL sg ∧ sg.length ≤ 100 ∧
  ∀ v H', IsL v → v.length ≤ 100 → SamQ p H H' → PenAt (n + 12) H' p → Q (.str (S v)) H'
def oddL : List (List Nat) := [[101], [69], [122], [49], [32], [45], [126], [95], [64], [123]]
theorem odd_eq : ([.str "e", .str "E", .str "z", .str "1", .str " ", .str "-", .str "~", .str "_", .str "@", .str "{"] : List V) = oddL.map fun u => V.str (S u) := by kernel_rfl
theorem odd_ok : ∀ u ∈ oddL, u = [u.getD 0 0] ∧ u.getD 0 0 ∉ letC := by decide
theorem nice_w {u : List Nat} (hu : IsL u) (hl : u.length ≤ 200) : Nice 2 809648 (treadD (plc u) (S (fol [] u))) := (nice_walk (n := 200) hu hl).mono (Nat.le_refl _) (by decide)
def twD (u : List Nat) : PyData := treadD (plc u) (S (fol [] u))
theorem shows_tws {us : List (List Nat)} (h : ∀ u ∈ us, IsL u ∧ u.length ≤ 200) (hl : us.length ≤ 5) : Shows (.list (us.map twD)) :=
  (nice_list (k := 2) (n := 809648) (m := 5) (fun d hd => by
    obtain ⟨u, hu, rfl⟩ := List.mem_map.mp hd
    exact nice_w (h u hu).1 (h u hu).2) (by rw [List.length_map]; exact hl)).shows (by decide) (by decide)
theorem shows_tw {u : List Nat} (hu : IsL u) (hl : u.length ≤ 200) : Shows (twD u) := (nice_w hu hl).shows (by decide) (by decide)
theorem shows_bools {bs : List Bool} (hl : bs.length ≤ 10) : Shows (.list (bs.map .bool)) :=
  (nice_list (k := 0) (n := 5) (m := 10) (fun d hd => by
    obtain ⟨b, _, rfl⟩ := List.mem_map.mp hd
    exact nice_bool b) (by rw [List.length_map]; exact hl)).shows (by decide) (by decide)
theorem shows_bool (b : Bool) : Shows (.bool b) := (nice_bool b).shows (by decide) (by decide)
theorem alk_symm (u v : List Nat) : alk v u = alk u v := by
  unfold alk
  exact decide_eq_decide.mpr ⟨fun h => ⟨h.1.symm, h.2.symm⟩, fun h => ⟨h.1.symm, h.2.symm⟩⟩
theorem alk_self (u : List Nat) : alk u u = true := by
  unfold alk
  exact decide_eq_true ⟨rfl, rfl⟩
theorem TreadAt.tw {K : PySem.W.Frag} {H : Hp} {t : Addr} {u : List Nat} (h : TreadAt K H t (plc u) (S (fol [] u))) : Dp K H (.ref t) (twD u) := h.dp
theorem TreadAt.sameP {K : PySem.W.Frag} {H H' : Hp} {p t : Addr} {zs : List Str} {e : Str} (s : SameP p H H') (hp : ∃ xs, H p = some (.lst xs)) (h : TreadAt K H t zs e) : TreadAt K H' t zs e := by
  obtain ⟨xs, hp⟩ := hp
  obtain ⟨q, h1, h2⟩ := h
  have mv : ∀ {b : Addr} {ys : List V}, SqT K H b ys → SqT K H' b ys := fun {b ys} h => by
    rcases h with (h | ⟨o, h⟩) | h
    · exact .inl (.inl (s _ _ (ne_of h hp (by intro z; cases z)) h))
    · exact .inl (.inr ⟨o, s _ _ (ne_of h hp (by intro z; cases z)) h⟩)
    · exact .inr h
  exact ⟨q, mv h1, mv h2⟩
theorem TreadAt.samQ {K : PySem.W.Frag} {H H' : Hp} {p t : Addr} {zs : List Str} {e : Str} (s : SamQ p H H') (hp : ∃ xs, H p = some (.lst xs)) (h : TreadAt K H t zs e) : TreadAt K H' t zs e := h.sameP s.st hp
/-- the rows of a law: texts, all the same -/
structure RowsW (K : PySem.W.Frag) (T : List (Addr × Str)) (p l : Addr) (n m : Nat) (v : V) (H : Hp) : Prop where
  tb : Tabs T H
  pn : ∃ (c : Addr) (cells : List Int) (at_ rest : Int), H p = some (.lst [.ref c, .int at_, .int rest]) ∧ H c = some (.lst (cells.map V.int)) ∧ c ≠ p ∧ 0 ≤ at_ ∧ at_ ≤ n ∧ 0 ≤ rest ∧ c ≠ l ∧ p ≠ l
  od : OddS K H v
  nv : v ≠ .ref l
  rw : H l = some (.lst ((List.replicate m ("word" : Str)).map V.str))
theorem RowsW.bad {K : PySem.W.Frag} {T : List (Addr × Str)} {p l : Addr} {n m : Nat} {v : V} {H : Hp} (k : RowsW K T p l n m v H) : BadW K H v := k.od.bad
theorem RowsW.pen {K : PySem.W.Frag} {T : List (Addr × Str)} {p l : Addr} {n m : Nat} {v : V} {H : Hp} (k : RowsW K T p l n m v H) : PenAt n H p := by
  obtain ⟨c, cells, a, r, h1, h2, h3, h4, h5, h6, _⟩ := k.pn
  exact ⟨c, cells, a, r, h1, h2, h3, h4, h5, h6⟩
theorem RowsW.step {K : PySem.W.Frag} {T : List (Addr × Str)} {p l : Addr} {n m : Nat} {v : V} {H H1 H2 : Hp} (k : RowsW K T p l n m v H) (hm : m < 1000) (e : ExtN H H1) (t1 : Tabs T H1) (s : Same H1 H2) :
    ∃ xs, H2 l = some (.lst xs) ∧ xs.length < sizeLine ∧ RowsW K T p l n (m + 1) v (upd H2 l (.lst (xs ++ [.str "word"]))) := by
  have hz := sizeLine_eq
  have hl : H2 l = some (.lst ((List.replicate m ("word" : Str)).map V.str)) := s _ _ (e _ _ k.rw (by intro ps z; cases z))
  have k4 : KeepL l H (upd H2 l (.lst ((List.replicate m ("word" : Str)).map V.str ++ [.str "word"]))) := ((KeepL.ext e).trans (.same s)).trans KeepL.upd
  refine ⟨_, hl, by rw [List.length_map, List.length_replicate]; omega, (t1.same s).sameP sameP_upd hl, ?_, k.od.keep k4 k.nv, k.nv, ?_⟩
  · obtain ⟨c, cells, a, r, g1, g2, g3, g4, g5, g6, g7, g8⟩ := k.pn
    exact ⟨c, cells, a, r, k4 _ _ g8 (by intro ps z; cases z) g1, k4 _ _ g7 (by intro ps z; cases z) g2, g3, g4, g5, g6, g7, g8⟩
  · rw [upd_same, List.replicate_succ', List.map_append]
    rfl
theorem rowW {K : PySem.W.Frag} {T : List (Addr × Str)} {p l : Addr} {n m ix : Nat} {v : V} {H : Hp} {te : TE} {rest : TS} {D : Ends} {σ : L2.St} (k : RowsW K T p l n m v H) (hm : m < 900) (hl : σ[ix]? = some (some (.ref l)))
    (hte : ∀ Q : VK, (∀ H1 H2, ExtN H H1 → Tabs T H1 → Same H1 H2 → Q (.str "word") H2) → te σ H Q) (q : ∀ H', RowsW K T p l n (m + 1) v H' → rest D σ H') :
    tSeq (tDrop (tBM K "list" rAppend (tV ix) (tCons te tNil))) rest D σ H := by
  unfold tSeq tDrop tBM tV
  rw [hl]
  refine ⟨.inl ⟨rfl, _, .inl (.inl k.rw)⟩, hte _ fun H1 H2 e1 t1 s => ?_⟩
  obtain ⟨xs, h1, h2, k'⟩ := k.step (by omega) e1 t1 s
  exact ⟨l, xs, .str "word", rfl, rfl, h1, h2, q _ k'⟩
theorem RowsW.base {K : PySem.W.Frag} {T : List (Addr × Str)} {p l : Addr} {n : Nat} {v : V} {H G1 G2 : Hp} (hp : PenAt n H p) (od : OddS K H v) (hv : ∀ a, v = .ref a → ∃ o, H a = some o ∧ ∀ ps, o ≠ .tbl ps) (e : ExtN H G1) (t1 : Tabs T G1) (s : Same G1 G2)
    (nl : G2 l = none) : RowsW K T p l n 1 v (upd G2 l (.lst [.str "word"])) := by
  have k1 : ∀ b o, (∀ ps, o ≠ .tbl ps) → H b = some o → G2 b = some o := fun b o n h => s _ _ (e b o h n)
  have nel : ∀ b o, (∀ ps, o ≠ .tbl ps) → H b = some o → b ≠ l := fun b o n h => ne_of_none (k1 b o n h) nl
  have kl : KeepL l H (upd G2 l (.lst [.str "word"])) := fun b o n1 n2 h => by rw [upd_ne n1]; exact k1 b o n2 h
  have nv : v ≠ .ref l := fun q => by
    obtain ⟨o, h1, h2⟩ := hv l q
    exact nel l o h2 h1 rfl
  refine ⟨(t1.same s).same (same_upd nl), ?_, od.keep kl nv, nv, by rw [upd_same]; rfl⟩
  obtain ⟨c, cells, a, r, h1, h2, h3, h4, h5, h6⟩ := hp.ex
  have n1 := nel _ _ (by intro ps z; cases z) h1
  have n2 := nel _ _ (by intro ps z; cases z) h2
  exact ⟨c, cells, a, r, kl _ _ n1 (by intro ps z; cases z) h1, kl _ _ n2 (by intro ps z; cases z) h2, h3, h4, h5, h6, n2, n1⟩
/-! ### the stops of a word -/
def spStops (K : PySem.W.Frag) : Sp := Sp1 fun x H Q E => ∃ u, x = .str (S u) ∧ IsL u ∧ u.length ≤ 1100 ∧ ∀ l H', Same H H' → H l = none → H' l = some (.lst ((trod u).map V.str)) → Q (.ref l) H'
theorem trod_last (u : List Nat) : atI ((trod u).map V.str) (-1) = some (.str (S (fol [] u))) := by
  have e : (trod u).map V.str = (((List.range u.length).map fun i => S (fol [] (u.take i))).map V.str) ++ [V.str (S (fol [] u))] := by
    unfold trod trodL
    rw [List.range_succ, List.map_append, List.map_append, List.map_append]
    show _ ++ [V.str (S (fol [] (u.take u.length)))] = _
    rw [List.take_length]
    simp only [List.map_map]
    rfl
  rw [e]
  unfold atI ixN
  rw [if_neg (by decide), if_pos (by rw [List.length_append]; show -((_ + 1 : Nat) : Int) ≤ -1; omega)]
  generalize ((List.range u.length).map fun i => S (fol [] (u.take i))).map V.str = L
  show (L ++ [V.str (S (fol [] u))])[((-1 : Int) + _).toNat]? = _
  have : ((-1 : Int) + ((L ++ [V.str (S (fol [] u))]).length : Nat)).toNat = L.length := by
    rw [List.length_append]
    show ((-1 : Int) + ((_ + 1 : Nat) : Int)).toNat = _
    omega
  rw [this, List.getElem?_append_right (Nat.le_refl _), Nat.sub_self]
  rfl
/-! ### treads of any kind -/
def spIsTreadT (K : PySem.W.Frag) : Sp := Sp1 fun x H Q E => ∃ t zs e, x = .ref t ∧ Trd zs e ∧ TreadAt K H t zs (S e) ∧ ∀ H', Same H H' → Q (.bl true) H'
def spArePlacesT (K : PySem.W.Frag) : Sp := Sp1 fun x H Q E => ∃ p zs e, x = .ref p ∧ Trd zs e ∧ SqT K H p (zs.map V.str) ∧ ∀ H', Same H H' → Q (.bl true) H'
def spCheckTreadT (K : PySem.W.Frag) : Sp := Sp1 fun x H Q E => ∃ t zs e, x = .ref t ∧ Trd zs e ∧ TreadAt K H t zs (S e) ∧ ∀ H', Same H H' → Q .non H'
/-- where the places of a tread lead from a place -/
def spPlacesBehind (K : PySem.W.Frag) : Sp := Sp2 fun x y H Q E => ∃ (p : List Nat) (l : Addr) (zs : List Str) (e : List Nat), x = .str (S p) ∧ y = .ref l ∧ IsL p ∧ p.length ≤ 1000 ∧ Trd zs e ∧ SqT K H l (zs.map V.str) ∧ ∀ r H', Same H H' → H r = none → H' r = some (.lst ((mv p zs).map V.str)) → Q (.ref r) H'
/-- all places of two rows in order; too many raise -/
def spAllPlaces (K : PySem.W.Frag) (C : Addr) : Sp := Sp1 fun x H Q E => ∃ (l a b : Addr) (zs ys : List Str), x = .ref l ∧ SqL K H l [.ref a, .ref b] ∧ SqT K H a (zs.map V.str) ∧ (SqL K H b (ys.map V.str) ∨ SqT K H b (ys.map V.str)) ∧ zs.length ≤ 500 ∧ ys.length ≤ 500 ∧ (∀ z ∈ zs ++ ys, z.length ≤ 100000) ∧
  (((ordS (zs ++ ys)).length ≤ 201 ∧ ∀ p H', Same H H' → H p = none → H' p = some (.tup ((ordS (zs ++ ys)).map V.str)) → Q (.ref p) H') ∨ (201 < (ordS (zs ++ ys)).length ∧ ∀ H', Same H H' → E (.ref C) none H'))
def TwoT (K : PySem.W.Frag) (C : Addr) (s t : Addr) (H : Hp) (Q : VK) (E : XK) : Prop := ∃ zs ys e f, Trd zs e ∧ TreadAt K H s zs (S e) ∧ Trd ys f ∧ TreadAt K H t ys (S f) ∧
  (((joinS zs e ys).length ≤ 201 ∧ ∀ r H', Same H H' → H r = none → TreadAt K H' r (joinS zs e ys) (S (fol e f)) → Q (.ref r) H') ∨ (201 < (joinS zs e ys).length ∧ ∀ H', Same H H' → E (.ref C) none H'))
def spProduct (K : PySem.W.Frag) (C : Addr) : Sp := Sp2 fun x y H Q E => ∃ s t, x = .ref s ∧ y = .ref t ∧ TwoT K C s t H Q E
def spTurned (K : PySem.W.Frag) : Sp := Sp1 fun x H Q E => ∃ t zs e, x = .ref t ∧ Trd zs e ∧ TreadAt K H t zs (S e) ∧ ∀ r H', Same H H' → H r = none → TreadAt K H' r (turnS zs e) (S (mir e)) → Q (.ref r) H'
/-- what places_behind has laid down behind some places -/
def led (p : List Nat) (zs : List Str) : List (Key × V) := zs.map fun z => ((Sum.inr z : Key), V.str (S (fol p z.cps.toList)))
theorem led_get {p : List Nat} {z : Str} : ∀ {zs : List Str}, z ∈ zs → valV (led p zs) (.inr z) = some (.str (S (fol p z.cps.toList)))
  | y :: zs, h => by
    by_cases e : y = z
    · subst e
      exact valV_pos rfl
    · have hz : z ∈ zs := (List.mem_cons.mp h).resolve_left fun k => e k.symm
      have := led_get (p := p) hz
      unfold led at this ⊢
      rw [List.map_cons, valV_neg (by intro k; cases k; exact e rfl)]
      exact this
theorem led_new {p : List Nat} {z : Str} : ∀ {zs : List Str}, z ∉ zs → valV (led p zs) (.inr z) = none
  | [], _ => rfl
  | y :: zs, h => by
    have := led_new (p := p) (zs := zs) fun k => h (List.mem_cons_of_mem _ k)
    unfold led at this ⊢
    rw [List.map_cons, valV_neg (by intro k; cases k; exact h List.mem_cons_self)]
    exact this
theorem led_put {p : List Nat} {z : Str} {zs : List Str} (h : z ∉ zs) : putK (led p zs) (.inr z) (.str (S (fol p z.cps.toList))) = led p (zs ++ [z]) := by
  rw [putK_new _ (led_new h)]
  unfold led
  rw [List.map_append]
  rfl
theorem led_vals (p : List Nat) (zs : List Str) : (led p zs).map (·.2) = (mv p zs).map V.str := by
  unfold led mv
  rw [List.map_map, List.map_map]
  rfl
theorem walk_W {J : It} {n : Nat} {G : Hp → Prop} {Y : Nat → Hp → V → Hp → Prop} (w : Walk J n G Y) {Body : (Hp → Prop) → V → Hp → Prop} {H0 : Hp} {Qd : Hp → Prop} (Pv : Nat → Hp → Prop) (h0 : Pv 0 H0) (hG : ∀ i H, i ≤ n → Pv i H → G H)
    (hs : ∀ i x H H', i < n → Pv i H → Y i H x H' → Body (Pv (i + 1)) x H') (hd : ∀ H, Pv n H → Qd H) :
    ∃ W : Nat → Nat → Hp → Prop, (∃ m, W 0 m H0) ∧ ∀ i m H, W i m H → (J.stop i H ∧ Qd H) ∨ (J.go i H ∧ ∃ Nx : Hp → Prop, (∀ H', Nx H' → ∃ m', m' < m ∧ W (i + 1) m' H') ∧ ∀ x H', J.yld i H x H' → Body Nx x H') := by
  refine ⟨fun i m H => i ≤ n ∧ m + i = n ∧ Pv i H, ⟨n, Nat.zero_le _, rfl, h0⟩, fun i m H h => ?_⟩
  obtain ⟨le, em, pv⟩ := h
  have g := hG i H le pv
  rcases Nat.lt_or_eq_of_le le with lt | rfl
  · exact .inr ⟨w.goes i H lt g, Pv (i + 1), fun H' p' => ⟨n - (i + 1), by omega, lt, by omega, p'⟩, fun x H' y => hs i x H H' lt pv (w.yields i H x H' lt g y)⟩
  · exact .inl ⟨w.stops H g, hd H pv⟩
/-- [x for row in (a tuple, a list) for x in row] -/
theorem two_rows {K : PySem.W.Frag} {l a b : Addr} {zs ys : List Str} {H : Hp} {Q : VK} (hl : SqL K H l [.ref a, .ref b]) (ha : SqT K H a (zs.map V.str)) (hb : SqL K H b (ys.map V.str) ∨ SqT K H b (ys.map V.str)) (small : zs.length + ys.length ≤ 1000) (q : ∀ D H', Same H H' → H D = none → H' D = some (.lst ((zs ++ ys).map V.str)) → Q (.ref D) H') :
    tLc2 (iAny K (tV 0)) (gName 2) tYes (iAny K (tV 2)) (gName 3) tYes (tV 3) [2, 3] [3] [some (.ref l), none, none, none] H Q := by
  have hz := sizeLine_eq
  have inner : ∀ (D : Addr) (xs pre : List Str) (Nx : Hp → Prop) (J : It) (G : Hp → Prop) (x0 : V), H D = none → pre.length + xs.length ≤ 1000 → (∀ H', Same H H' → G H') → Walk J (xs.map V.str).length G (YAt (xs.map V.str)) → (∀ H', Same H H' → H' D = some (.lst ((pre ++ xs).map V.str)) → Nx H') →
      ∀ H4, Same H H4 → H4 D = some (.lst (pre.map V.str)) → ∃ W1 : Nat → Nat → Hp → Prop, (∃ m, W1 0 m H4) ∧ ∀ j k H5, W1 j k H5 → (J.stop j H5 ∧ Nx H5) ∨ (J.go j H5 ∧ ∃ Nx1 : Hp → Prop, (∀ H', Nx1 H' → ∃ k', k' < k ∧ W1 (j + 1) k' H') ∧ ∀ x H', J.yld j H5 x H' →
        gName 3 x (wipe [some (.ref l), none, some x0, none] [3]) H' fun σ3 H6 => wipe σ3 [3] = wipe [some (.ref l), none, some x0, none] [3] ∧ tYes σ3 H6 fun b H7 => if b = true then tV 3 σ3 H7 fun y H8 => ∃ acc, H8 D = some (.lst acc) ∧ acc.length < sizeLine ∧ Nx1 (upd H8 D (.lst (acc ++ [y]))) else Nx1 H7) := by
    intro D xs pre Nx J G x0 nD len hG w hN H4 s4 h4
    refine walk_W w (fun j H' => Same H H' ∧ H' D = some (.lst ((pre ++ xs.take j).map V.str))) ⟨s4, by rw [List.take_zero, List.append_nil]; exact h4⟩ (fun _ H' _ h => hG H' h.1) ?_ ?_
    · rintro j x H5 H6 hj ⟨s5, h5⟩ ⟨rfl, hx⟩
      rw [List.getElem?_map] at hx
      obtain ⟨z, hzj, rfl⟩ := Option.map_eq_some_iff.mp hx
      have jl := (List.getElem?_eq_some_iff.mp hzj).1
      refine ⟨rfl, _, h5, ?_, s5.upd_new nD, ?_⟩
      · rw [List.length_map, List.length_append, List.length_take]
        omega
      · rw [upd_same, List.take_succ, hzj, ← List.append_assoc, List.map_append (l₁ := pre ++ xs.take j)]
        rfl
    · rintro H5 ⟨s5, h5⟩
      rw [List.length_map, List.take_length] at h5
      exact hN H5 s5 h5
  refine .inl ⟨_, hl, fun D nD => walk_W (walk_list (xs := [V.ref a, V.ref b])) (fun i H' => Same H H' ∧ H' D = some (.lst ((match i with | 0 => [] | 1 => zs | _ => zs ++ ys).map V.str))) ⟨same_upd nD, upd_same⟩ (fun _ H' _ h => h.1.seq hl) ?_ ?_⟩
  · rintro i x H1 H2 hi ⟨s1, h1⟩ ⟨rfl, hx⟩
    have hi : i < 2 := hi
    match i, hi, hx, h1 with
    | 0, _, hx, h1 =>
      cases hx
      refine ⟨rfl, .inr ⟨_, s1.tup ha, ?_⟩⟩
      exact inner D zs [] _ _ _ _ nD (by simp; omega) (fun H' s => s.tup ha) walk_tup (fun H' s h => ⟨s, h⟩) H2 s1 h1
    | 1, _, hx, h1 =>
      cases hx
      rcases hb with hb | hb
      · refine ⟨rfl, .inl ⟨_, s1.seq hb, ?_⟩⟩
        exact inner D ys zs _ _ _ _ nD (by omega) (fun H' s => s.seq hb) walk_list (fun H' s h => ⟨s, h⟩) H2 s1 h1
      · refine ⟨rfl, .inr ⟨_, s1.tup hb, ?_⟩⟩
        exact inner D ys zs _ _ _ _ nD (by omega) (fun H' s => s.tup hb) walk_tup (fun H' s h => ⟨s, h⟩) H2 s1 h1
  · rintro H1 ⟨s1, h1⟩
    exact q D H1 s1 nD h1
theorem tSeq_intro {a b : TS} {D : Ends} {σ : L2.St} {H : Hp} (h : a { D with nx := b D } σ H) : tSeq a b D σ H := h
theorem tAsg_intro {te : TE} {g : TG} {D : Ends} {σ : L2.St} {H : Hp} (h : te σ H fun v H1 => g v σ H1 D.nx) : tAsg te g D σ H := h
theorem tCall_intro1 {sp : Sp} {pre : List V} {E : XK} {te : TE} {σ : L2.St} {H : Hp} {Q : VK} (h : te σ H fun v H1 => sp ([v] ++ pre) H1 Q E) : tCall sp pre E (tCons te tNil) σ H Q := h
/-- a tread put together with another one, by the law's own steps -/
def spJoinL (K : PySem.W.Frag) : Sp := Sp2 fun x y H Q E => ∃ s t zs ys e f, x = .ref s ∧ y = .ref t ∧ Trd zs e ∧ TreadAt K H s zs (S e) ∧ Trd ys f ∧ TreadAt K H t ys (S f) ∧ ∀ r H', Same H H' → H r = none → TreadAt K H' r (joinS zs e ys) (S (fol e f)) → Q (.ref r) H'
def spAnyTread (K : PySem.W.Frag) : Sp := Sp3 fun x y z H Q E => ∃ (p : Addr) (n most : Nat) (sg : List Nat), x = .ref p ∧ y = .int (most : Nat) ∧ z = .str (S sg) ∧ PenAt n H p ∧ n < 2000000000 ∧ most ≤ 100 ∧ sg ≠ [] ∧ IsL sg ∧ sg.length ≤ 100 ∧
  ∀ t zs e H', Trd zs e → zs.length ≤ most + 1 → TreadAt K H' t zs (S e) → SamQ p H H' → PenAt (n + 4 + 2 * most) H' p → Q (.ref t) H'
/-- what a lambda does, or the text "great" for TooGreat -/
def TTgreat (C : Addr) : (XK → Hp → VK → Prop) → Hp → VK → Prop := fun tl H Q => tl (fun cls d H' => d = none ∧ cls = .ref C ∧ ∀ H'', Same H' H'' → Q (.str "great") H'') H Q
theorem shows_trd {zs : List Str} {e : List Nat} (T : Trd zs e) : Shows (treadD zs (S e)) :=
  (nice_tread (m := 201) (n := 200) (fun z hz => by
    obtain ⟨w1, rfl, _⟩ := T.pl z hz
    have := T.word hz
    exact ⟨w1, rfl, this.1, this.2.2⟩) T.few (by
    have := T.word T.en
    exact ⟨e, rfl, this.1, this.2.2⟩)).shows (by decide) (by decide)
theorem TreadAt.extN {K : PySem.W.Frag} {H H' : Hp} {t : Addr} {zs : List Str} {e : Str} (h : TreadAt K H t zs e) (x : ExtN H H') : TreadAt K H' t zs e := by
  obtain ⟨q, h1, h2⟩ := h
  have mv : ∀ {b : Addr} {ys : List V}, SqT K H b ys → SqT K H' b ys := fun {b ys} h => by
    rcases h with (h | ⟨o, h⟩) | h
    · exact .inl (.inl (x _ _ h (by intro ps z; cases z)))
    · exact .inl (.inr ⟨o, x _ _ h (by intro ps z; cases z)⟩)
    · exact .inr h
  exact ⟨q, mv h1, mv h2⟩
theorem penExt {n : Nat} {H H' : Hp} {p : Addr} (h : PenAt n H p) (x : ExtN H H') : PenAt n H' p := by
  obtain ⟨c, cells, a, r, h1, h2, h3⟩ := h.ex
  exact ⟨c, cells, a, r, x _ _ h1 (by intro ps z; cases z), x _ _ h2 (by intro ps z; cases z), h3⟩
theorem tabsP {T : List (Addr × Str)} {n : Nat} {H H' : Hp} {p : Addr} (t : Tabs T H) (h : PenAt n H p) (s : SameP p H H') : Tabs T H' := by
  obtain ⟨c, cells, a, r, h1, _⟩ := h.ex
  exact t.sameP s h1
theorem tIf_u {t : TT} {ta tb : TE} {σ : L2.St} {H : Hp} {K : VK} (m : Nat) (key : ∀ u : List Nat, IsL u → u.length ≤ m → K (.str (S u)) H) (h : (∀ u : List Nat, IsL u → u.length ≤ m → K (.str (S u)) H) → tIf t ta tb σ H K) : tIf t ta tb σ H K := h key
theorem tIfS_k {t : TT} {sa sb : TS} {D : Ends} {σ : L2.St} {H : Hp} (G : L2.St → Hp → Prop) (key : ∀ σ' H', G σ' H' → D.nx σ' H') (h : (∀ σ' H', G σ' H' → D.nx σ' H') → tIfS t sa sb D σ H) : tIfS t sa sb D σ H := h key
theorem tAsg_call1 {sp : Sp} {E : XK} {te : TE} {g : TG} {D : Ends} {σ : L2.St} {H : Hp} (h : te σ H fun v H1 => sp [v] H1 (fun v H2 => g v σ H2 D.nx) E) : tAsg (tCall sp [] E (tCons te tNil)) g D σ H := h
theorem small_mv {zs : List Str} {e p : List Nat} (T : Trd zs e) (hp : p.length ≤ 1000) : ∀ z ∈ mv p zs, z.length ≤ 100000 := fun z h => by
  obtain ⟨w1, h1, rfl⟩ := mem_mv.mp h
  have := (T.word h1).2.2
  have := fol_len (p := p) (w := w1)
  rw [S_len]
  omega
/-- a tread's places seen from pl -/
theorem Trd.seen {zs : List Str} {e pl : List Nat} (T : Trd zs e) (h : S pl ∈ zs) : Trd (turnS zs pl) (fol (mir pl) e) :=
  (T.ended h).turn.ended (mem_turnS.mpr ⟨e, T.en, rfl⟩)
def spSeen (K : PySem.W.Frag) : Sp := Sp2 fun x y H Q E => ∃ a zs e pl, x = .ref a ∧ y = .str (S pl) ∧ SqT K H a (zs.map V.str) ∧ Trd zs e ∧ S pl ∈ zs ∧ ∀ p H', Same H H' → H p = none → H' p = some (.tup ((turnS zs pl).map V.str)) → Q (.ref p) H'
def spSeenFrom (K : PySem.W.Frag) : Sp := Sp2 fun x y H Q E => ∃ t zs e pl, x = .ref t ∧ y = .str (S pl) ∧ TreadAt K H t zs (S e) ∧ Trd zs e ∧ S pl ∈ zs ∧ ∀ r H', Same H H' → H r = none → TreadAt K H' r (turnS zs pl) (S (fol (mir pl) e)) → Q (.ref r) H'
/-- the places of zs from which its places are seen as ys -/
def shiftL (all zs ys : List Str) : List Str := zs.filter fun z => decide (turnS all z.cps.toList = ys)
def shiftV (zs ys : List Str) : V := match shiftL zs zs ys with
  | [] => .non
  | z :: _ => .str z
def spShiftOf (K : PySem.W.Frag) : Sp := Sp2 fun x y H Q E => ∃ s t zs ys e f, x = .ref s ∧ y = .ref t ∧ Trd zs e ∧ TreadAt K H s zs (S e) ∧ Trd ys f ∧ TreadAt K H t ys (S f) ∧ ∀ H', Same H H' → Q (shiftV zs ys) H'
theorem shiftL_snoc {all zs ys : List Str} {i : Nat} {z : Str} (h : zs[i]? = some z) : shiftL all (zs.take (i + 1)) ys = shiftL all (zs.take i) ys ++ if decide (turnS all z.cps.toList = ys) = true then [z] else [] := by
  unfold shiftL
  rw [List.take_succ, h, List.filter_append]
  congr 1
  cases h : decide (turnS all z.cps.toList = ys) <;> simp [h]
theorem shiftL_len (all zs ys : List Str) : (shiftL all zs ys).length ≤ zs.length := List.length_filter_le ..
theorem shiftL_first {zs ys : List Str} {i : Nat} {z : Str} (h : zs[i]? = some z) (h0 : shiftL zs (zs.take i) ys = []) (h1 : turnS zs z.cps.toList = ys) : shiftV zs ys = .str z := by
  have e : shiftL zs zs ys = shiftL zs (zs.take (i + 1)) ys ++ shiftL zs (zs.drop (i + 1)) ys := by
    unfold shiftL
    rw [← List.filter_append, List.take_append_drop]
  unfold shiftV
  rw [e, shiftL_snoc h, h0, decide_eq_true h1]
  rfl
theorem trd_strs {zs : List Str} {e : List Nat} (T : Trd zs e) : SeqAt.shaped (.tuple (zs.map .str)) = true := (nice_tuple (k := 0) (n := 10 * 200 + 2) (m := 201) (fun d hd => by
    obtain ⟨z, hz1, rfl⟩ := List.mem_map.mp hd
    obtain ⟨w1, rfl, _⟩ := T.pl z hz1
    have := T.word hz1
    exact nice_str ⟨w1, rfl, this.1, this.2.2⟩) (by rw [List.length_map]; exact T.few)).shaped (by decide)
def spShiftRight (K : PySem.W.Frag) : Sp := Sp2 fun x y H Q E => ∃ s t zs ys e f, x = .ref s ∧ y = .ref t ∧ Trd zs e ∧ TreadAt K H s zs (S e) ∧ Trd ys f ∧ TreadAt K H t ys (S f) ∧ ∀ H', Same H H' → Q (.bl true) H'
def shiftD (zs ys : List Str) : PyData := match shiftL zs zs ys with
  | [] => .none
  | z :: _ => .str z
theorem shift_dp {K : PySem.W.Frag} {H : Hp} (zs ys : List Str) : Dp K H (shiftV zs ys) (shiftD zs ys) := by
  unfold shiftV shiftD
  cases shiftL zs zs ys with
  | nil => exact .non
  | cons z r => exact .str z
theorem nice_shift {zs ys : List Str} {e : List Nat} (T : Trd zs e) : Nice 0 2002 (shiftD zs ys) := by
  unfold shiftD
  have h : ∀ z ∈ shiftL zs zs ys, Ls 200 z := fun z hz => by
    obtain ⟨w1, rfl, _⟩ := T.pl z (List.mem_filter.mp hz).1
    have := T.word (List.mem_filter.mp hz).1
    exact ⟨w1, rfl, this.1, this.2.2⟩
  generalize shiftL zs zs ys = L at h
  cases L with
  | nil => exact nice_non.mono (by decide) (by decide)
  | cons z r => exact nice_str (h z (List.mem_cons_self ..))
theorem shows_shift {zs ys : List Str} {e f : List Nat} (T : Trd zs e) (U : Trd ys f) : Shows (.list [shiftD zs ys, shiftD ys zs]) :=
  (nice_list (k := 0) (n := 2002) (m := 2) (fun d hd => by
    simp only [List.mem_cons, List.not_mem_nil, or_false] at hd
    rcases hd with rfl | rfl
    · exact nice_shift T
    · exact nice_shift U) (by show 2 ≤ 2; decide)).shows (by decide) (by decide)
def rows3 : List (List Nat) := [[97, 66], [99, 68, 98], [100]]
theorem rows3_eq : ([.str "aB", .str "cDb", .str "d"] : List V) = rows3.map fun u => V.str (S u) := by kernel_rfl
theorem rows3_ok : ∀ u ∈ rows3, u ≠ [] ∧ u.length ≤ 3 ∧ (∀ c ∈ u, c ∈ letC) ∧ isP (u ++ u) = true := by decide
theorem ne_self {z : Str} {P : Prop} (c : (!decide (z = z)) = true) : P := by
  rw [decide_eq_true rfl] at c
  cases c
def spLaw0 (K : PySem.W.Frag) : Sp := Sp1 fun x H Q E => ∃ (a : Addr) (ns : List Int), x = .ref a ∧ SqL K H a (ns.map V.int) ∧ ns.length ≤ 63 ∧ ∀ H', Q (.bl true) H'
end Xia

set_option Elab.async false
set_option linter.all false
set_option maxRecDepth 100000
set_option maxHeartbeats 4000000
set_option autoImplicit false
/-! Own: a def's body read at the level of data: what stands in a slot is told as data, the heap is left out. -/
namespace Xia
open PySem PySem.Spec PyProof.Rows L2 SX LamX
/-- objects that data can be made of, and others that don't change -/
def visO : HO → Bool
  | .tbl _ => false
  | .dK _ => false
  | .dT _ => false
  | .frz _ (.dK _) => false
  | .frz _ (.dT _) => false
  | _ => true
theorem vis_tbl {o : HO} (h : visO o = true) : ∀ ps, o ≠ .tbl ps := fun ps z => by rw [z] at h; cases h
/-- the heap without what may change -/
def imm (M : List Addr) (H : Hp) : Hp := fun b => if b ∈ M then none else match H b with
  | some o => if visO o = true then some o else none
  | none => none
theorem imm_of {M : List Addr} {H : Hp} {b : Addr} {o : HO} (n : b ∉ M) (h : H b = some o) (t : visO o = true) : imm M H b = some o := by
  unfold imm
  rw [if_neg n, h]
  show (if visO o = true then some o else none) = _
  rw [if_pos t]
theorem of_imm {M : List Addr} {H : Hp} {b : Addr} {o : HO} (h : imm M H b = some o) : b ∉ M ∧ H b = some o ∧ visO o = true := by
  unfold imm at h
  by_cases n : b ∈ M
  · rw [if_pos n] at h; cases h
  rw [if_neg n] at h
  refine ⟨n, ?_⟩
  cases e : H b with
  | none => rw [e] at h; cases h
  | some x =>
    rw [e] at h
    have h : (if visO x = true then some x else none) = some o := h
    by_cases v : visO x = true
    · rw [if_pos v] at h
      cases h
      exact ⟨rfl, v⟩
    · rw [if_neg v] at h
      cases h
theorem imm_sub (M : List Addr) (H : Hp) : Same (imm M H) H := fun _ _ h => (of_imm h).2.1
/-- what stands stays, from one heap and its changing objects to another one and its own -/
abbrev Fr (M : List Addr) (H : Hp) (M' : List Addr) (H' : Hp) : Prop := Same (imm M H) (imm M' H')
theorem Fr.refl {M : List Addr} {H : Hp} : Fr M H M H := Same.refl _
theorem Fr.ext {M : List Addr} {H H' : Hp} (e : ExtN H H') : Fr M H M H' := fun b o h => by
  obtain ⟨h1, h2, h3⟩ := of_imm h
  exact imm_of h1 (e b o h2 (vis_tbl h3)) h3
theorem Fr.of {M : List Addr} {H H' : Hp} (e : Same H H') : Fr M H M H' := Fr.ext (.of e)
theorem Fr.sp {M : List Addr} {H H' : Hp} {p : Addr} (e : SameP p H H') (hp : p ∈ M) : Fr M H M H' := fun b o h => by
  obtain ⟨h1, h2, h3⟩ := of_imm h
  exact imm_of h1 (e b o (fun z => h1 (z ▸ hp)) h2) h3
theorem Fr.sub {M M' : List Addr} {H : Hp} (h : ∀ b ∈ M', b ∈ M) : Fr M H M' H := fun b o e => by
  obtain ⟨h1, h2, h3⟩ := of_imm e
  exact imm_of (fun z => h1 (h b z)) h2 h3
theorem Fr.new {M : List Addr} {H : Hp} {l : Addr} (n : H l = none) : Fr M H (l :: M) H := fun b o e => by
  obtain ⟨h1, h2, h3⟩ := of_imm e
  refine imm_of (fun z => ?_) h2 h3
  rcases List.mem_cons.mp z with rfl | z
  · rw [n] at h2; cases h2
  · exact h1 z
theorem rd_same {H H' : Hp} {a : Addr} {u : HO} (s : Same H H') (h : Rd H a u) : Rd H' a u := by
  rcases h with h | ⟨o, h⟩
  · exact .inl (s _ _ h)
  · exact .inr ⟨o, s _ _ h⟩
theorem sqL_same {K : PySem.W.Frag} {H H' : Hp} {a : Addr} {xs : List V} (s : Same H H') (h : SqL K H a xs) : SqL K H' a xs := h.imp (rd_same s) id
theorem sqT_same {K : PySem.W.Frag} {H H' : Hp} {a : Addr} {xs : List V} (s : Same H H') (h : SqT K H a xs) : SqT K H' a xs := h.imp (rd_same s) id
mutual
theorem Dp.mono {K : PySem.W.Frag} {H H' : Hp} (s : Same H H') : ∀ (d : PyData) (v : V), Dp K H v d → Dp K H' v d
  | .none, _, h => by cases h; exact .non
  | .bool b, _, h => by cases h; exact .bl b
  | .int i, _, h => by cases h; exact .int i
  | .str x, _, h => by cases h; exact .str x
  | .list ds, _, h => by
    cases h with
    | lst a b => exact .lst (sqL_same s a) (Dp.monoAll s ds _ b)
  | .tuple ds, _, h => by
    cases h with
    | tup a b => exact .tup (sqT_same s a) (Dp.monoAll s ds _ b)
  | .dict _, _, h => by cases h
theorem Dp.monoAll {K : PySem.W.Frag} {H H' : Hp} (s : Same H H') : ∀ (ds : List PyData) (vs : List V), DpAll K H vs ds → DpAll K H' vs ds
  | [], _, h => by cases h; exact .nil
  | d :: ds, _, h => by
    cases h with
    | cons a b => exact .cons (Dp.mono s d _ a) (Dp.monoAll s ds _ b)
end
theorem dpAll_len {K : PySem.W.Frag} {H : Hp} : ∀ {vs : List V} {ds : List PyData}, DpAll K H vs ds → vs.length = ds.length
  | _, _, .nil => rfl
  | _, _, .cons _ h => congrArg (· + 1) (dpAll_len h)
theorem dpAll_at {K : PySem.W.Frag} {H : Hp} : ∀ {vs : List V} {ds : List PyData} {i : Nat} {v : V}, DpAll K H vs ds → vs[i]? = some v → ∃ d, ds[i]? = some d ∧ Dp K H v d
  | _, _, _, _, .nil, h => by simp at h
  | _, _, 0, _, .cons a _, h => by cases h; exact ⟨_, rfl, a⟩
  | _, _, i + 1, _, .cons _ b, h => dpAll_at (i := i) b h
theorem dpAll_at' {K : PySem.W.Frag} {H : Hp} : ∀ {vs : List V} {ds : List PyData} {i : Nat} {d : PyData}, DpAll K H vs ds → ds[i]? = some d → ∃ v, vs[i]? = some v ∧ Dp K H v d
  | _, _, _, _, .nil, h => by simp at h
  | _, _, 0, _, .cons a _, h => by cases h; exact ⟨_, rfl, a⟩
  | _, _, i + 1, _, .cons _ b, h => dpAll_at' (i := i) b h
theorem dpAll_mem {K : PySem.W.Frag} {H : Hp} {vs : List V} {ds : List PyData} {v : V} (h : DpAll K H vs ds) (m : v ∈ vs) : ∃ d ∈ ds, Dp K H v d := by
  obtain ⟨i, hi, e⟩ := List.getElem_of_mem m
  obtain ⟨d, h1, h2⟩ := dpAll_at (i := i) h (by rw [List.getElem?_eq_getElem hi, e])
  exact ⟨d, List.mem_of_getElem? h1, h2⟩
theorem dpAll_app {K : PySem.W.Frag} {H : Hp} : ∀ {vs us : List V} {ds es : List PyData}, DpAll K H vs ds → DpAll K H us es → DpAll K H (vs ++ us) (ds ++ es)
  | _, _, _, _, .nil, h => h
  | _, _, _, _, .cons a b, h => .cons a (dpAll_app b h)
theorem dpAll_take {K : PySem.W.Frag} {H : Hp} : ∀ {vs : List V} {ds : List PyData} (n : Nat), DpAll K H vs ds → DpAll K H (vs.take n) (ds.take n)
  | _, _, 0, _ => by simp only [List.take_zero]; exact .nil
  | _, _, _ + 1, .nil => .nil
  | _, _, n + 1, .cons a b => .cons a (dpAll_take n b)
theorem dpAll_drop {K : PySem.W.Frag} {H : Hp} : ∀ {vs : List V} {ds : List PyData} (n : Nat), DpAll K H vs ds → DpAll K H (vs.drop n) (ds.drop n)
  | _, _, 0, h => h
  | _, _, _ + 1, .nil => .nil
  | _, _, n + 1, .cons a b => dpAll_drop n b
/-- texts as data are texts -/
theorem dpAll_strs {K : PySem.W.Frag} {H : Hp} : ∀ {zs : List Str} {vs : List V}, DpAll K H vs (zs.map .str) → vs = zs.map V.str
  | [], _, h => by cases h; rfl
  | z :: zs, _, h => by
    cases h with
    | cons a b => cases a; rw [dpAll_strs b]; rfl
/-- a tread told as data -/
theorem TreadAt.of_dp {K : PySem.W.Frag} {H : Hp} {v : V} {zs : List Str} {e : Str} (h : Dp K H v (treadD zs e)) : ∃ t, v = .ref t ∧ TreadAt K H t zs e := by
  cases h with
  | tup a b =>
    cases b with
    | cons b1 b2 =>
      cases b2 with
      | cons c1 c2 =>
        cases c1
        cases c2
        cases b1 with
        | tup p q =>
          rw [dpAll_strs q] at p
          exact ⟨_, rfl, _, a, p⟩
/-- a list of lists that may change -/
def MutOk (M : List Addr) (H : Hp) : Prop := ∀ b ∈ M, ∃ xs, H b = some (.lst xs)
theorem MutOk.same {M : List Addr} {H H' : Hp} (h : MutOk M H) (s : Same H H') : MutOk M H' := fun b hb => by
  obtain ⟨xs, e⟩ := h b hb
  exact ⟨xs, s _ _ e⟩
theorem sqT_imm {K : PySem.W.Frag} {M : List Addr} {H : Hp} {a : Addr} {xs : List V} (m : MutOk M H) (h : SqT K H a xs) : SqT K (imm M H) a xs := by
  refine h.imp (fun h => ?_) id
  have n : a ∉ M := fun z => by
    obtain ⟨ys, e⟩ := m a z
    rcases h with h | ⟨o, h⟩
    · rw [e] at h; cases h
    · rw [e] at h; cases h
  rcases h with h | ⟨o, h⟩
  · exact .inl (imm_of n h rfl)
  · exact .inr ⟨o, imm_of n h rfl⟩
theorem TreadAt.imm {K : PySem.W.Frag} {M : List Addr} {H : Hp} {t : Addr} {zs : List Str} {e : Str} (m : MutOk M H) (h : TreadAt K H t zs e) : Dp K (imm M H) (.ref t) (treadD zs e) := by
  obtain ⟨p, h1, h2⟩ := h
  exact TreadAt.dp ⟨p, sqT_imm m h1, sqT_imm m h2⟩
theorem dp_tup_imm {K : PySem.W.Frag} {M : List Addr} {H : Hp} {t : Addr} {zs : List Str} (m : MutOk M H) (h : SqT K H t (zs.map V.str)) : Dp K (imm M H) (.ref t) (.tuple (zs.map .str)) := .tup (sqT_imm m h) (dp_strs zs)
/-! ### what stands in a slot -/
inductive SD where
  /-- anything -/
  | no
  /-- data that don't change -/
  | da (d : PyData)
  /-- the pen, used so often at most -/
  | pe (n : Nat)
  /-- an own list that grows -/
  | ac (ds : List PyData)
  /-- an object that doesn't change -/
  | ob (R : Addr → HO → Prop)
  /-- an own dict; some: it is walked -/
  | di (z : Option (Addr × HO)) (kvs : List (Key × PyData))
def SD.mut : SD → Bool
  | .pe _ => true
  | .ac _ => true
  | .di _ _ => true
  | _ => false
/-- a dict as an object; while it is walked it stands at a as it is -/
def dicO (z : Option (Addr × HO)) (p : Addr) (o : HO) (es : List (Key × V)) : Prop := match z with
  | none => o = .dK es
  | some (a, o') => p = a ∧ o = o' ∧ ∃ od, o' = .frz od (.dK es)
def DicI (K : PySem.W.Frag) (M : List Addr) (H : Hp) (p : Addr) (z : Option (Addr × HO)) (kvs : List (Key × PyData)) : Prop :=
  ∃ (o : HO) (es : List (Key × V)), H p = some o ∧ dicO z p o es ∧ es.map (·.1) = kvs.map (·.1) ∧ DpAll K (imm M H) (es.map (·.2)) (kvs.map (·.2))
theorem dicO_lst {z : Option (Addr × HO)} {p : Addr} {o : HO} {es : List (Key × V)} (h : dicO z p o es) : ∀ xs, o ≠ .lst xs := fun xs e => by
  subst e
  cases z with
  | none => cases h
  | some z => obtain ⟨_, e, od, h⟩ := h; rw [← e] at h; cases h
theorem dicO_tbl {z : Option (Addr × HO)} {p : Addr} {o : HO} {es : List (Key × V)} (h : dicO z p o es) : ∀ ps, o ≠ .tbl ps := fun xs e => by
  subst e
  cases z with
  | none => cases h
  | some z => obtain ⟨_, e, od, h⟩ := h; rw [← e] at h; cases h
section
variable {K : PySem.W.Frag} {M M' : List Addr} {H H' : Hp} {p l : Addr} {z : Option (Addr × HO)} {kvs : List (Key × PyData)}
theorem DicI.move (h : DicI K M H p z kvs) (k : ∀ o, H p = some o → H' p = some o) (f : Same (imm M H) (imm M' H')) : DicI K M' H' p z kvs := by
  obtain ⟨o, es, h1, h0, h2, h3⟩ := h
  exact ⟨o, es, k _ h1, h0, h2, Dp.monoAll f _ _ h3⟩
theorem DicI.lst {xs : List V} (h : DicI K M H p z kvs) (k : H l = some (.lst xs)) : p ≠ l := fun e => by
  obtain ⟨o, es, h1, h0, _⟩ := h
  rw [e, k] at h1
  exact dicO_lst h0 xs (Option.some.inj h1).symm
theorem DicI.new (h : DicI K M H p z kvs) (k : H l = none) : p ≠ l := fun e => by
  obtain ⟨o, es, h1, _⟩ := h
  rw [e, k] at h1
  cases h1
end
/-- what a def may do to the heap that it got, told as properties of a claim about it -/
structure Bas where
  Rel : Hp → Prop
  ok : Addr → Prop
  okp : Addr → Prop
  hid : List Addr
  same : ∀ H H', Rel H → Same H H' → Rel H'
  upd : ∀ H l o, Rel H → ok l → Rel (upd H l o)
  pen : ∀ H H' p, Rel H → okp p → SamQ p H H' → Rel H'
  fresh : ∀ H l, Rel H → H l = none → ok l
  /-- may its tables change, too -/
  lam : Prop
  ext : lam → ∀ H H', Rel H → ExtN H H' → Rel H'
/-- the tables of the code objects that its lambdas use -/
def TbOk (T : List (Addr × Str)) (B : Bas) (H : Hp) : Prop := Tabs T H ∧ (T ≠ [] → B.lam)
theorem TbOk.same {T : List (Addr × Str)} {B : Bas} {H H' : Hp} (t : TbOk T B H) (s : Same H H') : TbOk T B H' := ⟨t.1.same s, t.2⟩
theorem TbOk.sameP {T : List (Addr × Str)} {B : Bas} {H H' : Hp} {p : Addr} {xs : List V} (t : TbOk T B H) (s : SameP p H H') (hp : H p = some (.lst xs)) : TbOk T B H' := ⟨t.1.sameP s hp, t.2⟩
structure PenI (n : Nat) (M : List Addr) (H : Hp) (p : Addr) : Prop where
  ex : ∃ (c : Addr) (cells : List Int) (at_ rest : Int), H p = some (.lst [.ref c, .int at_, .int rest]) ∧ H c = some (.lst (cells.map V.int)) ∧ c ∉ M ∧ 0 ≤ at_ ∧ at_ ≤ n ∧ 0 ≤ rest
def SlotOk (K : PySem.W.Frag) (B : Bas) (M : List Addr) (H : Hp) (x : Option (Option V)) : SD → Prop
  | .no => True
  | .da d => ∃ v, x = some (some v) ∧ Dp K (imm M H) v d
  | .pe n => ∃ p, x = some (some (.ref p)) ∧ p ∈ M ∧ B.okp p ∧ PenI n M H p
  | .ac ds => ∃ l vs, x = some (some (.ref l)) ∧ l ∈ M ∧ B.ok l ∧ H l = some (.lst vs) ∧ DpAll K (imm M H) vs ds ∧ l ∉ B.hid
  | .ob R => ∃ p o, x = some (some (.ref p)) ∧ imm M H p = some o ∧ R p o
  | .di z kvs => ∃ p, x = some (some (.ref p)) ∧ B.ok p ∧ DicI K M H p z kvs
structure Sta (K : PySem.W.Frag) (T : List (Addr × Str)) (B : Bas) (M : List Addr) (δ : List SD) (σ : L2.St) (H : Hp) : Prop where
  rel : B.Rel H
  tb : TbOk T B H
  mu : MutOk M H
  hd : ∀ b ∈ B.hid, b ∈ M
  len : σ.length = δ.length
  sl : ∀ (i : Nat) (s : SD), δ[i]? = some s → SlotOk K B M H σ[i]? s
  di : ∀ (i j : Nat) (s t : SD), i ≠ j → δ[i]? = some s → δ[j]? = some t → s.mut = true → t.mut = true → σ[i]? ≠ σ[j]?
section
variable {K : PySem.W.Frag} {T : List (Addr × Str)} {B : Bas} {M M' : List Addr} {δ δ' : List SD} {σ σ' : L2.St} {H H' : Hp}
theorem PenI.same {n : Nat} {p : Addr} (h : PenI n M H p) (s : Same H H') : PenI n M H' p := by
  obtain ⟨c, cells, a, r, h1, h2, h3⟩ := h.ex
  exact ⟨c, cells, a, r, s _ _ h1, s _ _ h2, h3⟩
theorem PenI.at_ {n : Nat} {p : Addr} (h : PenI n M H p) (hp : p ∈ M) : PenAt n H p := by
  obtain ⟨c, cells, a, r, h1, h2, h3, h4⟩ := h.ex
  exact ⟨c, cells, a, r, h1, h2, fun z => h3 (z ▸ hp), h4⟩
theorem PenI.of {n m : Nat} {p : Addr} (h : PenI n M H p) (q : PenAt m H' p) (s : SamQ p H H') : PenI m M H' p := by
  obtain ⟨c, cells, a, r, h1, h2, h3, h4⟩ := h.ex
  obtain ⟨c', cells', a', r', g1, g2, g3, g4⟩ := q.ex
  obtain ⟨a2, r2, k⟩ := s.kp c a r h1
  rw [g1] at k
  cases k
  exact ⟨c, cells', a', r', g1, g2, h3, g4⟩
theorem PenI.mono {n m : Nat} {p : Addr} (h : PenI n M H p) (l : n ≤ m) : PenI m M H p := by
  obtain ⟨c, cells, a, r, h1, h2, h3, h4, h5, h6⟩ := h.ex
  exact ⟨c, cells, a, r, h1, h2, h3, h4, by omega, h6⟩
/-- the heap grows -/
theorem Sta.same (S : Sta K T B M δ σ H) (s : Same H H') : Sta K T B M δ σ H' := by
  refine ⟨B.same _ _ S.rel s, S.tb.same s, S.mu.same s, S.hd, S.len, fun i x h => ?_, S.di⟩
  have q := S.sl i x h
  cases x with
  | no => trivial
  | da d =>
    obtain ⟨v, e, q⟩ := q
    exact ⟨v, e, Dp.mono (Fr.of s) _ _ q⟩
  | pe n =>
    obtain ⟨p, e, h1, h2, h3⟩ := q
    exact ⟨p, e, h1, h2, h3.same s⟩
  | ac ds =>
    obtain ⟨l, vs, e, h1, h2, h3, h4, h5⟩ := q
    exact ⟨l, vs, e, h1, h2, s _ _ h3, Dp.monoAll (Fr.of s) _ _ h4, h5⟩
  | ob R =>
    obtain ⟨p2, o, e, w1, w2⟩ := q
    exact ⟨p2, o, e, (Fr.of s) _ _ w1, w2⟩
  | di z kvs =>
    obtain ⟨p2, e, w1, w2⟩ := q
    exact ⟨p2, e, w1, w2.move (fun o h => s _ _ h) ((Fr.of s))⟩
/-- a lambda was made and called: tables change -/
theorem Sta.ext (S : Sta K T B M δ σ H) (k : B.lam) (x : ExtN H H') (t : Tabs T H') : Sta K T B M δ σ H' := by
  have kl : ∀ {a : Addr} {xs : List V}, H a = some (.lst xs) → H' a = some (.lst xs) := fun h => x _ _ h (by intro ps z; cases z)
  refine ⟨B.ext k _ _ S.rel x, ⟨t, S.tb.2⟩, fun b hb => ?_, S.hd, S.len, fun i s h => ?_, S.di⟩
  · obtain ⟨xs, e⟩ := S.mu b hb
    exact ⟨xs, kl e⟩
  have q := S.sl i s h
  cases s with
  | no => trivial
  | da d =>
    obtain ⟨v, e, q⟩ := q
    exact ⟨v, e, Dp.mono (Fr.ext x) _ _ q⟩
  | pe n =>
    obtain ⟨p, e, h1, h2, h3⟩ := q
    obtain ⟨c, cells, a, r, k1, k2, k3⟩ := h3.ex
    exact ⟨p, e, h1, h2, c, cells, a, r, kl k1, kl k2, k3⟩
  | ac ds =>
    obtain ⟨l, vs, e, h1, h2, h3, h4, h5⟩ := q
    exact ⟨l, vs, e, h1, h2, kl h3, Dp.monoAll (Fr.ext x) _ _ h4, h5⟩
  | ob R =>
    obtain ⟨p2, o, e, w1, w2⟩ := q
    exact ⟨p2, o, e, (Fr.ext x) _ _ w1, w2⟩
  | di z kvs =>
    obtain ⟨p2, e, w1, w2⟩ := q
    exact ⟨p2, e, w1, w2.move (fun o h => x _ _ h (by obtain ⟨o', es, h1, h0, _⟩ := w2; rw [h] at h1; cases h1; exact dicO_tbl h0)) ((Fr.ext x))⟩
/-- a slot gets data -/
theorem Sta.put (S : Sta K T B M δ σ H) {i : Nat} {v : V} {d : PyData} (h : Dp K (imm M H) v d) : Sta K T B M (δ.set i (.da d)) (σ.set i (some v)) H := by
  refine ⟨S.rel, S.tb, S.mu, S.hd, by rw [List.length_set, List.length_set]; exact S.len, fun j x hx => ?_, fun j k s t ne h1 h2 m1 m2 => ?_⟩
  · rw [List.getElem?_set] at hx ⊢
    by_cases c : i = j
    · rw [if_pos c] at hx ⊢
      by_cases l : i < δ.length
      · rw [if_pos l] at hx
        rw [if_pos (by rw [S.len]; exact l)]
        cases hx
        exact ⟨v, rfl, h⟩
      · rw [if_neg l] at hx
        cases hx
    · rw [if_neg c] at hx ⊢
      exact S.sl j x hx
  · have nj : i ≠ j := fun c => by
      rw [List.getElem?_set, if_pos c] at h1
      split at h1
      · cases h1; cases m1
      · cases h1
    have nk : i ≠ k := fun c => by
      rw [List.getElem?_set, if_pos c] at h2
      split at h2
      · cases h2; cases m2
      · cases h2
    rw [List.getElem?_set_ne nj] at h1 ⊢
    rw [List.getElem?_set_ne nk] at h2 ⊢
    exact S.di j k s t ne h1 h2 m1 m2
/-- less is told of the slots -/
theorem Sta.drop (S : Sta K T B M δ σ H) (e : δ'.length = δ.length) (h : ∀ (i : Nat) (s : SD), δ'[i]? = some s → s = .no ∨ δ[i]? = some s) : Sta K T B M δ' σ H := by
  refine ⟨S.rel, S.tb, S.mu, S.hd, by rw [e]; exact S.len, fun i x hx => ?_, fun i j s t ne h1 h2 m1 m2 => ?_⟩
  · rcases h i x hx with rfl | q
    · trivial
    · exact S.sl i x q
  · rcases h i s h1 with rfl | q1
    · cases m1
    · rcases h j t h2 with rfl | q2
      · cases m2
      · exact S.di i j s t ne q1 q2 m1 m2
/-- the pen was used -/
theorem Sta.pen (S : Sta K T B M δ σ H) {i n m : Nat} {p : Addr} (h : δ[i]? = some (.pe n)) (hp : σ[i]? = some (some (.ref p))) (s : SamQ p H H') (q : PenAt m H' p) : Sta K T B M (δ.set i (.pe m)) σ H' := by
  obtain ⟨p', e, h1, h2, h3⟩ := S.sl i _ h
  rw [hp] at e
  cases e
  have hp1 := h3.at_ h1
  obtain ⟨c0, cells0, a0, r0, g0, _⟩ := h3.ex
  refine ⟨B.pen _ _ p S.rel h2 s, S.tb.sameP s.st g0, fun b hb => ?_, S.hd, by rw [List.length_set]; exact S.len, fun j x hx => ?_, fun j k s t ne h1 h2 m1 m2 => ?_⟩
  · by_cases c : b = p
    · subst c
      obtain ⟨c', cells', a', r', g1, _⟩ := q.ex
      exact ⟨_, g1⟩
    · obtain ⟨xs, e⟩ := S.mu b hb
      exact ⟨xs, s.st _ _ c e⟩
  · rw [List.getElem?_set] at hx
    by_cases c : i = j
    · subst c
      rw [if_pos rfl] at hx
      split at hx
      · cases hx
        exact ⟨p, hp, h1, h2, h3.of q s⟩
      · cases hx
    · rw [if_neg c] at hx
      have w := S.sl j x hx
      cases x with
      | no => trivial
      | da d =>
        obtain ⟨v, e, w⟩ := w
        exact ⟨v, e, Dp.mono (Fr.sp s.st h1) _ _ w⟩
      | pe n' =>
        obtain ⟨p2, e, w1, w2, w3⟩ := w
        have ne : p2 ≠ p := fun z => S.di i j _ _ c h hx rfl rfl (by rw [hp, e, z])
        obtain ⟨c1, cells1, a1, r1, k1, k2, k3, k4⟩ := w3.ex
        exact ⟨p2, e, w1, w2, c1, cells1, a1, r1, s.st _ _ ne k1, s.st _ _ (fun z => k3 (z ▸ h1)) k2, k3, k4⟩
      | ac ds =>
        obtain ⟨l, vs, e, w1, w2, w3, w4, w5⟩ := w
        have ne : l ≠ p := fun z => S.di i j _ _ c h hx rfl rfl (by rw [hp, e, z])
        exact ⟨l, vs, e, w1, w2, s.st _ _ ne w3, Dp.monoAll (Fr.sp s.st h1) _ _ w4, w5⟩
      | ob R =>
        obtain ⟨p2, o, e, w1, w2⟩ := w
        exact ⟨p2, o, e, (Fr.sp s.st h1) _ _ w1, w2⟩
      | di z kvs =>
        obtain ⟨p2, e, w1, w2⟩ := w
        exact ⟨p2, e, w1, w2.move (fun o h => s.st _ _ (w2.lst g0) h) ((Fr.sp s.st h1))⟩
  · have key : ∀ (j : Nat) (s : SD), (δ.set i (.pe m))[j]? = some s → s.mut = true → ∃ s', δ[j]? = some s' ∧ s'.mut = true := fun j s hj hm => by
      rw [List.getElem?_set] at hj
      by_cases c : i = j
      · subst c
        exact ⟨_, h, rfl⟩
      · rw [if_neg c] at hj
        exact ⟨s, hj, hm⟩
    obtain ⟨s', a1, a2⟩ := key j s h1 m1
    obtain ⟨t', b1, b2⟩ := key k t h2 m2
    exact S.di j k s' t' ne a1 b1 a2 b2
/-- a new own list in a slot -/
theorem Sta.new (S : Sta K T B M δ σ H) {i : Nat} {l : Addr} {vs : List V} {ds : List PyData} (n : H l = none) (h : DpAll K (imm M H) vs ds) : Sta K T B (l :: M) (δ.set i (.ac ds)) (σ.set i (some (.ref l))) (upd H l (.lst vs)) := by
  have fr : Fr M H (l :: M) (upd H l (.lst vs)) := (Fr.new n).trans (Fr.of (same_upd n))
  have ok1 := B.fresh _ _ S.rel n
  refine ⟨B.same _ _ S.rel (same_upd n), S.tb.same (same_upd n), fun b hb => ?_, fun b hb => List.mem_cons_of_mem _ (S.hd b hb), by rw [List.length_set, List.length_set]; exact S.len, fun j x hx => ?_, fun j k s t ne h1 h2 m1 m2 => ?_⟩
  · rcases List.mem_cons.mp hb with rfl | hb
    · exact ⟨_, upd_same⟩
    · obtain ⟨xs, e⟩ := S.mu b hb
      exact ⟨xs, same_upd n _ _ e⟩
  · rw [List.getElem?_set] at hx ⊢
    by_cases c : i = j
    · rw [if_pos c] at hx ⊢
      by_cases ll : i < δ.length
      · rw [if_pos ll] at hx
        rw [if_pos (by rw [S.len]; exact ll)]
        cases hx
        exact ⟨l, vs, rfl, List.mem_cons_self .., ok1, upd_same, Dp.monoAll fr _ _ h, fun z => by
          obtain ⟨xs, e⟩ := S.mu l (S.hd l z)
          rw [n] at e
          cases e⟩
      · rw [if_neg ll] at hx
        cases hx
    · rw [if_neg c] at hx ⊢
      have w := S.sl j x hx
      cases x with
      | no => trivial
      | da d =>
        obtain ⟨v, e, w⟩ := w
        exact ⟨v, e, Dp.mono fr _ _ w⟩
      | pe n' =>
        obtain ⟨p2, e, w1, w2, w3⟩ := w
        obtain ⟨c1, cells1, a1, r1, k1, k2, k3, k4⟩ := w3.ex
        refine ⟨p2, e, List.mem_cons_of_mem _ w1, w2, c1, cells1, a1, r1, same_upd n _ _ k1, same_upd n _ _ k2, fun z => ?_, k4⟩
        rcases List.mem_cons.mp z with rfl | z
        · rw [n] at k2; cases k2
        · exact k3 z
      | ac ds' =>
        obtain ⟨l', vs', e, w1, w2, w3, w4, w5⟩ := w
        exact ⟨l', vs', e, List.mem_cons_of_mem _ w1, w2, same_upd n _ _ w3, Dp.monoAll fr _ _ w4, w5⟩
      | ob R =>
        obtain ⟨p2, o, e, w1, w2⟩ := w
        exact ⟨p2, o, e, fr _ _ w1, w2⟩
      | di z kvs =>
        obtain ⟨p2, e, w1, w2⟩ := w
        exact ⟨p2, e, w1, w2.move (fun o h => same_upd n _ _ h) (fr)⟩
  · have old : ∀ (j : Nat) (s : SD), i ≠ j → δ[j]? = some s → s.mut = true → σ[j]? ≠ some (some (.ref l)) := fun j s ne hj hm e => by
      have w := S.sl j s hj
      cases s with
      | no => cases hm
      | da d => cases hm
      | pe n' =>
        obtain ⟨p2, e2, w1, w2, w3⟩ := w
        obtain ⟨c1, cells1, a1, r1, k1, _⟩ := w3.ex
        rw [e] at e2; cases e2
        rw [n] at k1; cases k1
      | ac ds' =>
        obtain ⟨l', vs', e2, w1, w2, w3, w4, w5⟩ := w
        rw [e] at e2; cases e2
        rw [n] at w3; cases w3
      | ob R => cases hm
      | di z kvs =>
        obtain ⟨p2, e2, w1, w2⟩ := w
        rw [e] at e2; cases e2
        exact w2.new n rfl
    by_cases cj : i = j
    · subst cj
      have ck : i ≠ k := ne
      rw [List.getElem?_set_ne ck] at h2
      have li : i < σ.length := by
        rw [S.len]
        have := (List.getElem?_eq_some_iff.mp h1).1
        rwa [List.length_set] at this
      rw [List.getElem?_set_ne ck, List.getElem?_set_self li]
      exact fun z => old k t ck h2 m2 z.symm
    · rw [List.getElem?_set_ne cj] at h1
      by_cases ck : i = k
      · subst ck
        have li : i < σ.length := by
          rw [S.len]
          have := (List.getElem?_eq_some_iff.mp h2).1
          rwa [List.length_set] at this
        rw [List.getElem?_set_ne cj, List.getElem?_set_self li]
        exact old j s cj h1 m1
      · rw [List.getElem?_set_ne ck] at h2
        rw [List.getElem?_set_ne cj, List.getElem?_set_ne ck]
        exact S.di j k s t ne h1 h2 m1 m2
/-- the own list at a slot gets another content -/
theorem Sta.grow (S : Sta K T B M δ σ H) {i : Nat} {l : Addr} {ds es : List PyData} {us : List V} (h : δ[i]? = some (.ac ds)) (hl : σ[i]? = some (some (.ref l))) (hu : DpAll K (imm M H) us es) :
    Fr M H M (upd H l (.lst us)) ∧ Sta K T B M (δ.set i (.ac es)) σ (upd H l (.lst us)) := by
  obtain ⟨l', vs, e, h1, h2, h3, h4, h5⟩ := S.sl i _ h
  rw [hl] at e
  cases e
  have fr : Fr M H M (upd H l (.lst us)) := fun b o e => by
    obtain ⟨k1, k2, k3⟩ := of_imm e
    exact imm_of k1 (by rw [upd_ne (fun z => k1 (by rw [z]; exact h1))]; exact k2) k3
  refine ⟨fr, B.upd _ _ _ S.rel h2, S.tb.sameP sameP_upd h3, fun b hb => ?_, S.hd, by rw [List.length_set]; exact S.len, fun j x hx => ?_, fun j k s t ne h1 h2 m1 m2 => ?_⟩
  · by_cases c : b = l
    · subst c; exact ⟨_, upd_same⟩
    · obtain ⟨xs, e⟩ := S.mu b hb
      exact ⟨xs, by rw [upd_ne c]; exact e⟩
  · rw [List.getElem?_set] at hx
    by_cases c : i = j
    · subst c
      rw [if_pos rfl] at hx
      split at hx
      · cases hx
        exact ⟨l, us, hl, h1, h2, upd_same, Dp.monoAll fr _ _ hu, h5⟩
      · cases hx
    · rw [if_neg c] at hx
      have w := S.sl j x hx
      cases x with
      | no => trivial
      | da d =>
        obtain ⟨v, e, w⟩ := w
        exact ⟨v, e, Dp.mono fr _ _ w⟩
      | pe n' =>
        obtain ⟨p2, e, w1, w2, w3⟩ := w
        have ne : p2 ≠ l := fun z => S.di i j _ _ c h hx rfl rfl (by rw [hl, e, z])
        obtain ⟨c1, cells1, a1, r1, k1, k2, k3, k4⟩ := w3.ex
        exact ⟨p2, e, w1, w2, c1, cells1, a1, r1, by rw [upd_ne ne]; exact k1, by rw [upd_ne (fun z => k3 (by rw [z]; exact h1))]; exact k2, k3, k4⟩
      | ac ds' =>
        obtain ⟨l', vs', e, w1, w2, w3, w4, w5⟩ := w
        have ne : l' ≠ l := fun z => S.di i j _ _ c h hx rfl rfl (by rw [hl, e, z])
        exact ⟨l', vs', e, w1, w2, by rw [upd_ne ne]; exact w3, Dp.monoAll fr _ _ w4, w5⟩
      | ob R =>
        obtain ⟨p2, o, e, w1, w2⟩ := w
        exact ⟨p2, o, e, fr _ _ w1, w2⟩
      | di z kvs =>
        obtain ⟨p2, e, w1, w2⟩ := w
        exact ⟨p2, e, w1, w2.move (fun o h => by rw [upd_ne (w2.lst h3)]; exact h) (fr)⟩
  · have key : ∀ (j : Nat) (s : SD), (δ.set i (.ac es))[j]? = some s → s.mut = true → ∃ s', δ[j]? = some s' ∧ s'.mut = true := fun j s hj hm => by
      rw [List.getElem?_set] at hj
      by_cases c : i = j
      · subst c
        exact ⟨_, h, rfl⟩
      · rw [if_neg c] at hj
        exact ⟨s, hj, hm⟩
    obtain ⟨s', a1, a2⟩ := key j s h1 m1
    obtain ⟨t', b1, b2⟩ := key k t h2 m2
    exact S.di j k s' t' ne a1 b1 a2 b2
/-- the own list at a slot is left as it is from now on -/
theorem Sta.freeze (S : Sta K T B M δ σ H) {i : Nat} {l : Addr} {ds : List PyData} (h : δ[i]? = some (.ac ds)) (hl : σ[i]? = some (some (.ref l))) :
    Fr M H (M.filter (· != l)) H ∧ Dp K (imm (M.filter (· != l)) H) (.ref l) (.list ds) ∧ Sta K T B (M.filter (· != l)) (δ.set i (.da (.list ds))) σ H := by
  obtain ⟨l', vs, e, h1, h2, h3, h4, h5⟩ := S.sl i _ h
  rw [hl] at e
  cases e
  have sub : ∀ b ∈ M.filter (· != l), b ∈ M := fun b hb => (List.mem_filter.mp hb).1
  have nl : l ∉ M.filter (· != l) := fun z => by simpa using (List.mem_filter.mp z).2
  have keep : ∀ b ∈ M, b ≠ l → b ∈ M.filter (· != l) := fun b hb n => List.mem_filter.mpr ⟨hb, by simpa using n⟩
  have fr : Fr M H (M.filter (· != l)) H := Fr.sub sub
  have dl : Dp K (imm (M.filter (· != l)) H) (.ref l) (.list ds) := .lst (.inl (.inl (imm_of nl h3 rfl))) (Dp.monoAll fr _ _ h4)
  refine ⟨fr, dl, S.rel, S.tb, fun b hb => S.mu b (sub b hb), fun b hb => keep b (S.hd b hb) (fun z => h5 (z ▸ hb)), by rw [List.length_set]; exact S.len, fun j x hx => ?_, fun j k s t ne h1 h2 m1 m2 => ?_⟩
  · rw [List.getElem?_set] at hx
    by_cases c : i = j
    · subst c
      rw [if_pos rfl] at hx
      split at hx
      · cases hx
        exact ⟨_, hl, dl⟩
      · cases hx
    · rw [if_neg c] at hx
      have w := S.sl j x hx
      cases x with
      | no => trivial
      | da d =>
        obtain ⟨v, e, w⟩ := w
        exact ⟨v, e, Dp.mono fr _ _ w⟩
      | pe n' =>
        obtain ⟨p2, e, w1, w2, w3⟩ := w
        have ne : p2 ≠ l := fun z => S.di i j _ _ c h hx rfl rfl (by rw [hl, e, z])
        obtain ⟨c1, cells1, a1, r1, k1, k2, k3, k4⟩ := w3.ex
        exact ⟨p2, e, keep _ w1 ne, w2, c1, cells1, a1, r1, k1, k2, fun z => k3 (sub _ z), k4⟩
      | ac ds' =>
        obtain ⟨l', vs', e, w1, w2, w3, w4, w5⟩ := w
        have ne : l' ≠ l := fun z => S.di i j _ _ c h hx rfl rfl (by rw [hl, e, z])
        exact ⟨l', vs', e, keep _ w1 ne, w2, w3, Dp.monoAll fr _ _ w4, w5⟩
      | ob R =>
        obtain ⟨p2, o, e, w1, w2⟩ := w
        exact ⟨p2, o, e, fr _ _ w1, w2⟩
      | di z kvs =>
        obtain ⟨p2, e, w1, w2⟩ := w
        exact ⟨p2, e, w1, w2.move (fun o h => h) (fr)⟩
  · have key : ∀ (j : Nat) (s : SD), (δ.set i (.da (.list ds)))[j]? = some s → s.mut = true → δ[j]? = some s := fun j s hj hm => by
      rw [List.getElem?_set] at hj
      by_cases c : i = j
      · rw [if_pos c] at hj
        split at hj
        · cases hj; cases hm
        · cases hj
      · rw [if_neg c] at hj
        exact hj
    exact S.di j k s t ne (key j s h1 m1) (key k t h2 m2) m1 m2
/-- what is told of the slots, but those of a comprehension's own names -/
def wipeD (δ : List SD) : List Nat → List SD
  | [] => δ
  | v :: vs => (wipeD δ vs).set v .no
theorem wipeD_len : ∀ vs : List Nat, (wipeD δ vs).length = δ.length
  | [] => rfl
  | v :: vs => by unfold wipeD; rw [List.length_set, wipeD_len vs]
theorem wipeD_at : ∀ {vs : List Nat} {i : Nat} {s : SD}, (wipeD δ vs)[i]? = some s → s = .no ∨ (i ∉ vs ∧ δ[i]? = some s)
  | [], i, s, h => .inr ⟨List.not_mem_nil, h⟩
  | v :: vs, i, s, h => by
    unfold wipeD at h
    rw [List.getElem?_set] at h
    by_cases c : v = i
    · rw [if_pos c] at h
      split at h
      · cases h; exact .inl rfl
      · cases h
    · rw [if_neg c] at h
      rcases wipeD_at h with e | ⟨h1, h2⟩
      · exact .inl e
      · refine .inr ⟨fun z => ?_, h2⟩
        rcases List.mem_cons.mp z with z | z
        · exact c z.symm
        · exact h1 z
theorem wipe_at : ∀ {vs : List Nat} {i : Nat}, i ∉ vs → (wipe σ vs)[i]? = σ[i]?
  | [], i, _ => rfl
  | v :: vs, i, h => by
    unfold wipe
    rw [List.getElem?_set_ne fun c => h (by rw [← c]; exact List.mem_cons_self ..), wipe_at fun c => h (List.mem_cons_of_mem _ c)]
theorem Sta.other (S : Sta K T B M δ σ H) (l1 : σ'.length = δ'.length) (h : ∀ (i : Nat) (s : SD), δ'[i]? = some s → s = .no ∨ (δ[i]? = some s ∧ σ'[i]? = σ[i]?)) : Sta K T B M δ' σ' H := by
  refine ⟨S.rel, S.tb, S.mu, S.hd, l1, fun i x hx => ?_, fun i j s t ne h1 h2 m1 m2 => ?_⟩
  · rcases h i x hx with rfl | ⟨q1, q2⟩
    · trivial
    · rw [q2]; exact S.sl i x q1
  · rcases h i s h1 with rfl | ⟨a1, a2⟩
    · cases m1
    · rcases h j t h2 with rfl | ⟨b1, b2⟩
      · cases m2
      · rw [a2, b2]; exact S.di i j s t ne a1 b1 m1 m2
theorem Sta.wipe (S : Sta K T B M δ σ H) (vs : List Nat) : Sta K T B M (wipeD δ vs) (wipe σ vs) H :=
  S.other (by rw [wipe_length, wipeD_len]; exact S.len) fun i s h => (wipeD_at h).imp id fun ⟨h1, h2⟩ => ⟨h2, wipe_at h1⟩
theorem Sta.unwipe {vs : List Nat} (S : Sta K T B M δ σ H) (e : L2.wipe σ vs = L2.wipe σ' vs) : Sta K T B M (wipeD δ vs) σ' H := by
  have l : σ'.length = σ.length := by
    have := congrArg List.length e
    rw [wipe_length, wipe_length] at this
    exact this.symm
  exact S.other (by rw [l, wipeD_len]; exact S.len) fun i s h => (wipeD_at h).imp id fun ⟨h1, h2⟩ => ⟨h2, by rw [← wipe_at (σ := σ') h1, ← e, wipe_at h1]⟩
/-- the same, with a list at D that is kept as it is -/
def Bas.at_ (B : Bas) (D : Addr) (xs : List V) : Bas where
  Rel H := B.Rel H ∧ H D = some (.lst xs)
  ok l := B.ok l ∧ l ≠ D
  okp p := B.okp p ∧ p ≠ D
  hid := D :: B.hid
  same _ _ h s := ⟨B.same _ _ h.1 s, s _ _ h.2⟩
  upd _ _ _ h k := ⟨B.upd _ _ _ h.1 k.1, by rw [upd_ne (Ne.symm k.2)]; exact h.2⟩
  pen _ _ _ h k s := ⟨B.pen _ _ _ h.1 k.1 s, s.st _ _ (Ne.symm k.2) h.2⟩
  fresh H l h n := by
    have ne : l ≠ D := fun z => by rw [z, h.2] at n; cases n
    exact ⟨B.fresh H l h.1 n, ne⟩
  lam := B.lam
  ext k _ _ h x := ⟨B.ext k _ _ h.1 x, x _ _ h.2 (by intro ps z; cases z)⟩
theorem Sta.enter (S : Sta K T B M δ σ H) {D : Addr} (ys : List V) (n : H D = none) : B.ok D ∧ D ∉ B.hid ∧ Fr M H (D :: M) (upd H D (.lst ys)) ∧ Sta K T (B.at_ D ys) (D :: M) δ σ (upd H D (.lst ys)) := by
  have fr : Fr M H (D :: M) (upd H D (.lst ys)) := (Fr.new n).trans (Fr.of (same_upd n))
  have sm := same_upd (o := HO.lst ys) n
  have nB : D ∉ B.hid := fun z => by
    obtain ⟨xs, e⟩ := S.mu D (S.hd D z)
    rw [n] at e
    cases e
  refine ⟨B.fresh _ _ S.rel n, nB, fr, ⟨B.same _ _ S.rel sm, upd_same⟩, S.tb.same sm, fun b hb => ?_, fun b hb => ?_, S.len, fun j x hx => ?_, S.di⟩
  · rcases List.mem_cons.mp hb with rfl | hb
    · exact ⟨_, upd_same⟩
    · exact S.mu.same sm b hb
  · rcases List.mem_cons.mp hb with rfl | hb
    · exact List.mem_cons_self ..
    · exact List.mem_cons_of_mem _ (S.hd b hb)
  · have w := S.sl j x hx
    cases x with
    | no => trivial
    | da d =>
      obtain ⟨v, e, w⟩ := w
      exact ⟨v, e, Dp.mono fr _ _ w⟩
    | pe n' =>
      obtain ⟨p2, e, w1, w2, w3⟩ := w
      obtain ⟨c1, cells1, a1, r1, k1, k2, k3, k4⟩ := w3.ex
      refine ⟨p2, e, List.mem_cons_of_mem _ w1, ⟨w2, fun z => by rw [z, n] at k1; cases k1⟩, c1, cells1, a1, r1, sm _ _ k1, sm _ _ k2, fun z => ?_, k4⟩
      rcases List.mem_cons.mp z with rfl | z
      · rw [n] at k2; cases k2
      · exact k3 z
    | ac ds' =>
      obtain ⟨l', vs', e, w1, w2, w3, w4, w5⟩ := w
      have ne : l' ≠ D := fun z => by rw [z, n] at w3; cases w3
      refine ⟨l', vs', e, List.mem_cons_of_mem _ w1, ⟨w2, ne⟩, sm _ _ w3, Dp.monoAll fr _ _ w4, fun z => ?_⟩
      rcases List.mem_cons.mp z with z | z
      · exact ne z
      · exact w5 z
    | ob R =>
      obtain ⟨p2, o, e, w1, w2⟩ := w
      exact ⟨p2, o, e, fr _ _ w1, w2⟩
    | di z kvs =>
      obtain ⟨p2, e, w1, w2⟩ := w
      exact ⟨p2, e, ⟨w1, w2.new n⟩, w2.move (fun o h => sm _ _ h) (fr)⟩
theorem Sta.turn {D : Addr} {xs ys : List V} (S : Sta K T (B.at_ D xs) M δ σ H) (ok : B.ok D) : Fr M H M (upd H D (.lst ys)) ∧ Sta K T (B.at_ D ys) M δ σ (upd H D (.lst ys)) := by
  have hD : D ∈ M := S.hd D (List.mem_cons_self ..)
  have fr : Fr M H M (upd H D (.lst ys)) := fun b o e => by
    obtain ⟨k1, k2, k3⟩ := of_imm e
    exact imm_of k1 (by rw [upd_ne (fun z => k1 (by rw [z]; exact hD))]; exact k2) k3
  refine ⟨fr, ⟨B.upd _ _ _ S.rel.1 ok, upd_same⟩, S.tb.sameP sameP_upd S.rel.2, fun b hb => ?_, S.hd, S.len, fun j x hx => ?_, S.di⟩
  · by_cases c : b = D
    · subst c; exact ⟨_, upd_same⟩
    · obtain ⟨xs', e⟩ := S.mu b hb
      exact ⟨xs', by rw [upd_ne c]; exact e⟩
  · have w := S.sl j x hx
    cases x with
    | no => trivial
    | da d =>
      obtain ⟨v, e, w⟩ := w
      exact ⟨v, e, Dp.mono fr _ _ w⟩
    | pe n' =>
      obtain ⟨p2, e, w1, w2, w3⟩ := w
      obtain ⟨c1, cells1, a1, r1, k1, k2, k3, k4⟩ := w3.ex
      exact ⟨p2, e, w1, w2, c1, cells1, a1, r1, by rw [upd_ne w2.2]; exact k1, by rw [upd_ne (fun z => k3 (by rw [z]; exact hD))]; exact k2, k3, k4⟩
    | ac ds' =>
      obtain ⟨l', vs', e, w1, w2, w3, w4, w5⟩ := w
      exact ⟨l', vs', e, w1, w2, by rw [upd_ne w2.2]; exact w3, Dp.monoAll fr _ _ w4, w5⟩
    | ob R =>
      obtain ⟨p2, o, e, w1, w2⟩ := w
      exact ⟨p2, o, e, fr _ _ w1, w2⟩
    | di z kvs =>
      obtain ⟨p2, e, w1, w2⟩ := w
      exact ⟨p2, e, w1, w2.move (fun o h => by rw [upd_ne w1.2]; exact h) (fr)⟩
/-- the list is done: it is left as it is -/
theorem Sta.leave {D : Addr} {xs : List V} {ds : List PyData} (S : Sta K T (B.at_ D xs) M δ σ H) (w : DpAll K (imm M H) xs ds) (nB : D ∉ B.hid) :
    Fr M H (M.filter (· != D)) H ∧ Dp K (imm (M.filter (· != D)) H) (.ref D) (.list ds) ∧ Sta K T B (M.filter (· != D)) δ σ H := by
  have sub : ∀ b ∈ M.filter (· != D), b ∈ M := fun b hb => (List.mem_filter.mp hb).1
  have nl : D ∉ M.filter (· != D) := fun z => by simpa using (List.mem_filter.mp z).2
  have keep : ∀ b ∈ M, b ≠ D → b ∈ M.filter (· != D) := fun b hb n => List.mem_filter.mpr ⟨hb, by simpa using n⟩
  have fr : Fr M H (M.filter (· != D)) H := Fr.sub sub
  have h3 := S.rel.2
  have dl : Dp K (imm (M.filter (· != D)) H) (.ref D) (.list ds) := .lst (.inl (.inl (imm_of nl h3 rfl))) (Dp.monoAll fr _ _ w)
  refine ⟨fr, dl, S.rel.1, S.tb, fun b hb => S.mu b (sub b hb), fun b hb => keep b (S.hd b (List.mem_cons_of_mem _ hb)) (fun z => nB (z ▸ hb)), S.len, fun j x hx => ?_, S.di⟩
  have w := S.sl j x hx
  cases x with
  | no => trivial
  | da d =>
    obtain ⟨v, e, w⟩ := w
    exact ⟨v, e, Dp.mono fr _ _ w⟩
  | pe n' =>
    obtain ⟨p2, e, w1, w2, w3⟩ := w
    obtain ⟨c1, cells1, a1, r1, k1, k2, k3, k4⟩ := w3.ex
    exact ⟨p2, e, keep _ w1 w2.2, w2.1, c1, cells1, a1, r1, k1, k2, fun z => k3 (sub _ z), k4⟩
  | ac ds' =>
    obtain ⟨l', vs', e, w1, w2, w3, w4, w5⟩ := w
    exact ⟨l', vs', e, keep _ w1 w2.2, w2.1, w3, Dp.monoAll fr _ _ w4, fun z => w5 (List.mem_cons_of_mem _ z)⟩
  | ob R =>
    obtain ⟨p2, o, e, w1, w2⟩ := w
    exact ⟨p2, o, e, fr _ _ w1, w2⟩
  | di z kvs =>
    obtain ⟨p2, e, w1, w2⟩ := w
    exact ⟨p2, e, w1.1, w2.move (fun o h => h) (fr)⟩
/-- the list is put into a slot: it may grow there -/
theorem Sta.toAc {D : Addr} {xs : List V} {ds : List PyData} (S : Sta K T (B.at_ D xs) M δ σ H) (w : DpAll K (imm M H) xs ds) (ok : B.ok D) (nB : D ∉ B.hid) (i : Nat) : Sta K T B M (δ.set i (.ac ds)) (σ.set i (some (.ref D))) H := by
  have hD : D ∈ M := S.hd D (List.mem_cons_self ..)
  have h3 := S.rel.2
  refine ⟨S.rel.1, S.tb, S.mu, fun b hb => S.hd b (List.mem_cons_of_mem _ hb), by rw [List.length_set, List.length_set]; exact S.len, fun j x hx => ?_, fun j k s t ne h1 h2 m1 m2 => ?_⟩
  · rw [List.getElem?_set] at hx ⊢
    by_cases c : i = j
    · rw [if_pos c] at hx ⊢
      by_cases ll : i < δ.length
      · rw [if_pos ll] at hx
        rw [if_pos (by rw [S.len]; exact ll)]
        cases hx
        exact ⟨D, xs, rfl, hD, ok, h3, w, nB⟩
      · rw [if_neg ll] at hx
        cases hx
    · rw [if_neg c] at hx ⊢
      have w := S.sl j x hx
      cases x with
      | no => trivial
      | da d => exact w
      | pe n' =>
        obtain ⟨p2, e, w1, w2, w3⟩ := w
        exact ⟨p2, e, w1, w2.1, w3⟩
      | ac ds' =>
        obtain ⟨l', vs', e, w1, w2, w3, w4, w5⟩ := w
        exact ⟨l', vs', e, w1, w2.1, w3, w4, fun z => w5 (List.mem_cons_of_mem _ z)⟩
      | ob R =>
        obtain ⟨p2, o, e, w1, w2⟩ := w
        exact ⟨p2, o, e, (Fr.refl) _ _ w1, w2⟩
      | di z kvs =>
        obtain ⟨p2, e, w1, w2⟩ := w
        exact ⟨p2, e, w1.1, w2.move (fun o h => h) ((Fr.refl))⟩
  · have old : ∀ (j : Nat) (s : SD), δ[j]? = some s → s.mut = true → σ[j]? ≠ some (some (.ref D)) := fun j s hj hm e => by
      have w := S.sl j s hj
      cases s with
      | no => cases hm
      | da d => cases hm
      | pe n' =>
        obtain ⟨p2, e2, w1, w2, w3⟩ := w
        rw [e] at e2; cases e2
        exact w2.2 rfl
      | ac ds' =>
        obtain ⟨l', vs', e2, w1, w2, w3, w4⟩ := w
        rw [e] at e2; cases e2
        exact w2.2 rfl
      | ob R => cases hm
      | di z kvs =>
        obtain ⟨p2, e2, w1, w2⟩ := w
        rw [e] at e2; cases e2
        exact w1.2 rfl
    by_cases cj : i = j
    · subst cj
      have ck : i ≠ k := ne
      rw [List.getElem?_set_ne ck] at h2
      have li : i < σ.length := by
        rw [S.len]
        have := (List.getElem?_eq_some_iff.mp h1).1
        rwa [List.length_set] at this
      rw [List.getElem?_set_ne ck, List.getElem?_set_self li]
      exact fun z => old k t h2 m2 z.symm
    · rw [List.getElem?_set_ne cj] at h1
      by_cases ck : i = k
      · subst ck
        have li : i < σ.length := by
          rw [S.len]
          have := (List.getElem?_eq_some_iff.mp h2).1
          rwa [List.length_set] at this
        rw [List.getElem?_set_ne cj, List.getElem?_set_self li]
        exact old j s h1 m1
      · rw [List.getElem?_set_ne ck] at h2
        rw [List.getElem?_set_ne cj, List.getElem?_set_ne ck]
        exact S.di j k s t ne h1 h2 m1 m2
end
end Xia

set_option Elab.async false
set_option linter.all false
set_option maxRecDepth 100000
set_option maxHeartbeats 4000000
set_option autoImplicit false
/-! Own: readings at the level of data, and that they are kept by the readings over the heap. -/
namespace Xia
open PySem PySem.Spec PyProof.Rows L2 SX LamX
abbrev AE := List SD → (PyData → List SD → Prop) → Prop
abbrev AA := List SD → (List PyData → List SD → Prop) → Prop
abbrev AT := List SD → (Bool → List SD → Prop) → Prop
structure AEnds where
  nx : List SD → Prop
  rt : PyData → List SD → Prop
  bk : List SD → Prop := fun _ => False
  ct : List SD → Prop := fun _ => False
abbrev AS := AEnds → List SD → Prop
section
variable (K : PySem.W.Frag) (T : List (Addr × Str))
class SimE (te : TE) (ae : outParam AE) : Prop where
  run : ∀ {B : Bas} {M : List Addr} {δ : List SD} {σ : L2.St} {H : Hp} {Q : VK} {G : PyData → List SD → Prop}, Sta K T B M δ σ H → ae δ G →
    (∀ (v : V) (M' : List Addr) (H' : Hp) (d : PyData) (δ' : List SD), G d δ' → Fr M H M' H' → Sta K T B M' δ' σ H' → Dp K (imm M' H') v d → Q v H') → te σ H Q
/-- an expression that makes a new list, which nobody else has -/
class SimL (te : TE) (al : outParam AA) : Prop where
  run : ∀ {B : Bas} {M : List Addr} {δ : List SD} {σ : L2.St} {H : Hp} {Q : VK} {G : List PyData → List SD → Prop}, Sta K T B M δ σ H → al δ G →
    (∀ (l : Addr) (vs : List V) (M' : List Addr) (H' : Hp) (ds : List PyData) (δ' : List SD), G ds δ' → Fr M H M' H' → Sta K T (B.at_ l vs) M' δ' σ H' → DpAll K (imm M' H') vs ds → B.ok l → l ∉ B.hid → Q (.ref l) H') → te σ H Q
class SimA (ta : TA) (aa : outParam AA) : Prop where
  run : ∀ {B : Bas} {M : List Addr} {δ : List SD} {σ : L2.St} {H : Hp} {Q : List V → Hp → Prop} {G : List PyData → List SD → Prop}, Sta K T B M δ σ H → aa δ G →
    (∀ (vs : List V) (M' : List Addr) (H' : Hp) (ds : List PyData) (δ' : List SD), G ds δ' → Fr M H M' H' → Sta K T B M' δ' σ H' → DpAll K (imm M' H') vs ds → Q vs H') → ta σ H Q
class SimT (tt : TT) (at_ : outParam AT) : Prop where
  run : ∀ {B : Bas} {M : List Addr} {δ : List SD} {σ : L2.St} {H : Hp} {Q : Bool → Hp → Prop} {G : Bool → List SD → Prop}, Sta K T B M δ σ H → at_ δ G →
    (∀ (b : Bool) (M' : List Addr) (H' : Hp) (δ' : List SD), G b δ' → Fr M H M' H' → Sta K T B M' δ' σ H' → Q b H') → tt σ H Q
/-- the ends over the heap keep those at the level of data -/
structure Conc (B : Bas) (M : List Addr) (H : Hp) (D : Ends) (A : AEnds) : Prop where
  nx : ∀ (M' : List Addr) (δ' : List SD) (σ' : L2.St) (H' : Hp), A.nx δ' → Fr M H M' H' → Sta K T B M' δ' σ' H' → D.nx σ' H'
  rt : ∀ (v : V) (d : PyData) (M' : List Addr) (δ' : List SD) (σ' : L2.St) (H' : Hp), A.rt d δ' → Fr M H M' H' → Sta K T B M' δ' σ' H' → Dp K (imm M' H') v d → D.rt v H'
  bk : ∀ (M' : List Addr) (δ' : List SD) (σ' : L2.St) (H' : Hp), A.bk δ' → Fr M H M' H' → Sta K T B M' δ' σ' H' → D.bk σ' H'
  ct : ∀ (M' : List Addr) (δ' : List SD) (σ' : L2.St) (H' : Hp), A.ct δ' → Fr M H M' H' → Sta K T B M' δ' σ' H' → D.ct σ' H'
class SimS (ts : TS) (as_ : outParam AS) : Prop where
  run : ∀ {B : Bas} {M : List Addr} {δ : List SD} {σ : L2.St} {H : Hp} {D : Ends} {A : AEnds}, Sta K T B M δ σ H → as_ A δ → Conc K T B M H D A → ts D σ H
/-- what is done with two values -/
class OpD (r : R2) (o : outParam (PyData → PyData → (PyData → Prop) → Prop)) : Prop where
  run : ∀ {M : List Addr} {H : Hp} {x y : V} {d e : PyData} {Q : VK} {G : PyData → Prop}, MutOk M H → Dp K (imm M H) x d → Dp K (imm M H) y e → o d e G →
    (∀ (v : V) (H' : Hp) (r' : PyData), G r' → Same H H' → Dp K (imm M H') v r' → Q v H') → r x y H Q
/-- what a built-in does -/
class CbD (r : List V → Hp → VK → Prop) (o : outParam (List PyData → (PyData → Prop) → Prop)) : Prop where
  run : ∀ {M : List Addr} {H : Hp} {vs : List V} {ds : List PyData} {Q : VK} {G : PyData → Prop}, MutOk M H → DpAll K (imm M H) vs ds → o ds G →
    (∀ (v : V) (H' : Hp) (r' : PyData), G r' → Same H H' → Dp K (imm M H') v r' → Q v H') → r vs H Q
/-- what a def does that uses data alone -/
class FnD (sp : Sp) (o : outParam (List PyData → (PyData → Prop) → Prop)) : Prop where
  run : ∀ {M : List Addr} {H : Hp} {vs : List V} {ds : List PyData} {Q : VK} {E : XK} {G : PyData → Prop}, MutOk M H → DpAll K (imm M H) vs ds → o ds G →
    (∀ (v : V) (H' : Hp) (r' : PyData), G r' → Same H H' → Dp K (imm M H') v r' → Q v H') → sp vs H Q E
/-- what a def does that uses the pen, too -/
class FnN (sp : Sp) (o : outParam (List PyData → Nat → (PyData → Nat → Prop) → Prop)) : Prop where
  run : ∀ {M : List Addr} {H : Hp} {p : Addr} {n : Nat} {vs : List V} {ds : List PyData} {Q : VK} {E : XK} {G : PyData → Nat → Prop}, MutOk M H → p ∈ M → PenI n M H p → DpAll K (imm M H) vs ds → o ds n G →
    (∀ (v : V) (H' : Hp) (r' : PyData) (m : Nat), G r' m → SamQ p H H' → PenAt m H' p → MutOk M H' → Dp K (imm M H') v r' → Q v H') → sp (.ref p :: vs) H Q E
end
section
variable {K : PySem.W.Frag} {T : List (Addr × Str)}
/-! ### values -/
def aC (d : PyData) : AE := fun δ G => G d δ
instance simInt (i : Int) : SimE K T (tC (.int i)) (aC (.int i)) := ⟨fun S h q => q _ _ _ _ _ h Fr.refl S (.int i)⟩
instance simStr (z : Str) : SimE K T (tC (.str z)) (aC (.str z)) := ⟨fun S h q => q _ _ _ _ _ h Fr.refl S (.str z)⟩
instance simBl (b : Bool) : SimE K T (tC (.bl b)) (aC (.bool b)) := ⟨fun S h q => q _ _ _ _ _ h Fr.refl S (.bl b)⟩
instance simNon : SimE K T (tC .non) (aC .none) := ⟨fun S h q => q _ _ _ _ _ h Fr.refl S .non⟩
/-- a name; an own list that is read is left as it is from then on -/
def aV (i : Nat) : AE := fun δ G => match δ[i]? with
  | some (.da d) => G d δ
  | some (.ac ds) => G (.list ds) (δ.set i (.da (.list ds)))
  | _ => False
instance simV (i : Nat) : SimE K T (tV i) (aV i) := ⟨fun {B M δ σ H Q G} S h q => by
  unfold aV at h
  split at h
  · rename_i d e
    obtain ⟨v, e2, w⟩ := S.sl _ _ e
    unfold tV
    rw [e2]
    exact q _ _ _ _ _ h Fr.refl S w
  · rename_i ds e
    obtain ⟨l, vs, e2, h1, h2, h3, h4⟩ := S.sl _ _ e
    obtain ⟨f1, f2, f3⟩ := S.freeze e e2
    unfold tV
    rw [e2]
    exact q _ _ _ _ _ h f1 f3 f2
  · exact h.elim⟩
def aNil : AA := fun δ G => G [] δ
instance simNil : SimA K T tNil aNil := ⟨fun S h q => q _ _ _ _ _ h Fr.refl S .nil⟩
def aCons (ae : AE) (aa : AA) : AA := fun δ G => ae δ fun d δ1 => aa δ1 fun ds δ2 => G (d :: ds) δ2
instance simCons {te : TE} {ta : TA} {ae : AE} {aa : AA} [h1 : SimE K T te ae] [h2 : SimA K T ta aa] : SimA K T (tCons te ta) (aCons ae aa) := ⟨fun S h q =>
  h1.run S h fun v M1 H1 d δ1 g1 f1 S1 w1 => h2.run S1 g1 fun vs M2 H2 ds δ2 g2 f2 S2 w2 => q _ _ _ _ _ g2 (f1.trans f2) S2 (.cons (Dp.mono f2 _ _ w1) w2)⟩
def aTup (aa : AA) : AE := fun δ G => aa δ fun ds δ1 => ds.length ≤ sizeLine ∧ G (.tuple ds) δ1
instance simTup {ta : TA} {aa : AA} [h1 : SimA K T ta aa] : SimE K T (tTup ta) (aTup aa) := ⟨fun S h q =>
  h1.run S h fun vs M1 H1 ds δ1 g1 f1 S1 w1 => ⟨by rw [dpAll_len w1]; exact g1.1, fun p np =>
    have np' : imm M1 (upd H1 p (.tup vs)) p = some (.tup vs) := imm_of (fun z => by obtain ⟨xs, e⟩ := S1.mu p z; rw [np] at e; cases e) upd_same rfl
    q _ _ _ _ _ g1.2 (f1.trans (Fr.of (same_upd np))) (S1.same (same_upd np)) (.tup (.inl (.inl np')) (Dp.monoAll (Fr.of (same_upd np)) _ _ w1))⟩⟩
def aL (al : AA) : AE := fun δ G => al δ fun ds δ' => G (.list ds) δ'
instance (priority := 1100) simEL {te : TE} {al : AA} [h1 : SimL K T te al] : SimE K T te (aL al) := ⟨fun S h q => h1.run S h fun l vs M' H' ds δ' g f S' w ok nB => by
  obtain ⟨fr, dl, SL⟩ := S'.leave w nB
  exact q _ _ _ _ _ g (f.trans fr) SL dl⟩
def alLst (aa : AA) : AA := fun δ G => aa δ fun ds δ1 => ds.length ≤ sizeLine ∧ G ds δ1
instance simLst {ta : TA} {aa : AA} [h1 : SimA K T ta aa] : SimL K T (tLst ta) (alLst aa) := ⟨fun S h q =>
  h1.run S h fun vs M1 H1 ds δ1 g1 f1 S1 w1 => ⟨by rw [dpAll_len w1]; exact g1.1, fun p np => by
    obtain ⟨ok, nB, fr, S2⟩ := S1.enter vs np
    exact q _ _ _ _ _ _ g1.2 (f1.trans fr) S2 (Dp.monoAll fr _ _ w1) ok nB⟩⟩
def aOp (o : PyData → PyData → (PyData → Prop) → Prop) (ax ay : AE) : AE := fun δ G => ax δ fun d δ1 => ay δ1 fun e δ2 => o d e fun r => G r δ2
instance simOp {r : R2} {o : PyData → PyData → (PyData → Prop) → Prop} {tx ty : TE} {ax ay : AE} [ho : OpD K r o] [hx : SimE K T tx ax] [hy : SimE K T ty ay] : SimE K T (tOp r tx ty) (aOp o ax ay) := ⟨fun S h q =>
  hx.run S h fun x M1 H1 d δ1 g1 f1 S1 w1 => hy.run S1 g1 fun y M2 H2 e δ2 g2 f2 S2 w2 => ho.run S2.mu (Dp.mono f2 _ _ w1) w2 g2 fun v H3 r' g3 s3 w3 =>
    q _ _ _ _ _ g3 ((f1.trans f2).trans (Fr.of s3)) (S2.same s3) w3⟩
def aCB (o : List PyData → (PyData → Prop) → Prop) (aa : AA) : AE := fun δ G => aa δ fun ds δ1 => o ds fun r => G r δ1
instance simCB {r : List V → Hp → VK → Prop} {o : List PyData → (PyData → Prop) → Prop} {ta : TA} {aa : AA} [ho : CbD K r o] [ha : SimA K T ta aa] : SimE K T (tCB r ta) (aCB o aa) := ⟨fun S h q =>
  ha.run S h fun vs M1 H1 ds δ1 g1 f1 S1 w1 => ho.run S1.mu w1 g1 fun v H3 r' g3 s3 w3 => q _ _ _ _ _ g3 (f1.trans (Fr.of s3)) (S1.same s3) w3⟩
instance simCall {sp : Sp} {E : XK} {o : List PyData → (PyData → Prop) → Prop} {ta : TA} {aa : AA} [ho : FnD K sp o] [ha : SimA K T ta aa] : SimE K T (tCall sp [] E ta) (aCB o aa) := ⟨fun S h q =>
  ha.run S h fun vs M1 H1 ds δ1 g1 f1 S1 w1 => by
    rw [List.append_nil]
    exact ho.run S1.mu w1 g1 fun v H3 r' g3 s3 w3 => q _ _ _ _ _ g3 (f1.trans (Fr.of s3)) (S1.same s3) w3⟩
/-- a call with the pen at slot i as the first argument -/
def aPen (i : Nat) (o : List PyData → Nat → (PyData → Nat → Prop) → Prop) (aa : AA) : AE := fun δ G => match δ[i]? with
  | some (.pe _) => aa δ fun ds δ1 => match δ1[i]? with
    | some (.pe n) => o ds n fun r m => G r (δ1.set i (.pe m))
    | _ => False
  | _ => False
instance simPen {sp : Sp} {E : XK} {i : Nat} {o : List PyData → Nat → (PyData → Nat → Prop) → Prop} {ta : TA} {aa : AA} [ho : FnN K sp o] [ha : SimA K T ta aa] : SimE K T (tCall sp [] E (tCons (tV i) ta)) (aPen i o aa) := ⟨fun {B M δ σ H Q G} S h q => by
  unfold aPen at h
  split at h
  · rename_i n0 e0
    obtain ⟨p, e2, _⟩ := S.sl _ _ e0
    show tV i σ H fun v H1 => ta σ H1 fun vs H2 => sp ((v :: vs) ++ []) H2 Q E
    unfold tV
    rw [e2]
    refine ha.run S h fun vs M1 H1 ds δ1 g1 f1 S1 w1 => ?_
    split at g1
    · rename_i n e
      obtain ⟨p', e3, k1, k2, k3⟩ := S1.sl _ _ e
      rw [e2] at e3
      cases e3
      rw [List.append_nil]
      refine ho.run S1.mu k1 k3 w1 g1 fun v H' r' m g' s' p' mu' w' => ?_
      exact q _ _ _ _ _ g' (f1.trans (Fr.sp s'.st k1)) (S1.pen e e2 s' p') w'
    · exact g1.elim
  · exact h.elim⟩
/-! ### tests -/
def aMT (ae : AE) : AT := fun δ G => ae δ fun d δ1 => match d with
  | .bool b => G b δ1
  | _ => False
instance simMT {te : TE} {ae : AE} [h1 : SimE K T te ae] : SimT K T (mT te) (aMT ae) := ⟨fun S h q => h1.run S h fun v M1 H1 d δ1 g1 f1 S1 w1 => by
  cases d with
  | bool b =>
    cases w1
    exact q _ _ _ _ g1 f1 S1
  | _ => exact g1.elim⟩
def aAnd (a b : AT) : AT := fun δ G => a δ fun c δ1 => if c = true then b δ1 G else G false δ1
def aOr (a b : AT) : AT := fun δ G => a δ fun c δ1 => if c = true then G true δ1 else b δ1 G
def aNot (a : AT) : AT := fun δ G => a δ fun c δ1 => G (!c) δ1
def aYes : AT := fun δ G => G true δ
instance simAnd {t u : TT} {a b : AT} [h1 : SimT K T t a] [h2 : SimT K T u b] : SimT K T (tAnd t u) (aAnd a b) := ⟨fun S h q => h1.run S h fun c M1 H1 δ1 g1 f1 S1 => by
  cases c with
  | true => exact h2.run S1 g1 fun c2 M2 H2 δ2 g2 f2 S2 => q _ _ _ _ g2 (f1.trans f2) S2
  | false => exact q _ _ _ _ g1 f1 S1⟩
instance simOr {t u : TT} {a b : AT} [h1 : SimT K T t a] [h2 : SimT K T u b] : SimT K T (tOr t u) (aOr a b) := ⟨fun S h q => h1.run S h fun c M1 H1 δ1 g1 f1 S1 => by
  cases c with
  | true => exact q _ _ _ _ g1 f1 S1
  | false => exact h2.run S1 g1 fun c2 M2 H2 δ2 g2 f2 S2 => q _ _ _ _ g2 (f1.trans f2) S2⟩
instance simNot {t : TT} {a : AT} [h1 : SimT K T t a] : SimT K T (tNot t) (aNot a) := ⟨fun S h q => h1.run S h fun c M1 H1 δ1 g1 f1 S1 => q _ _ _ _ g1 f1 S1⟩
instance simYes : SimT K T tYes aYes := ⟨fun S h q => q _ _ _ _ h Fr.refl S⟩
def aIf (a : AT) (x y : AE) : AE := fun δ G => a δ fun c δ1 => if c = true then x δ1 G else y δ1 G
instance simIf {t : TT} {tx ty : TE} {a : AT} {x y : AE} [h1 : SimT K T t a] [h2 : SimE K T tx x] [h3 : SimE K T ty y] : SimE K T (tIf t tx ty) (aIf a x y) := ⟨fun S h q => h1.run S h fun c M1 H1 δ1 g1 f1 S1 => by
  cases c with
  | true => exact h2.run S1 g1 fun v M2 H2 d δ2 g2 f2 S2 w2 => q _ _ _ _ _ g2 (f1.trans f2) S2 w2
  | false => exact h3.run S1 g1 fun v M2 H2 d δ2 g2 f2 S2 w2 => q _ _ _ _ _ g2 (f1.trans f2) S2 w2⟩
/-! ### statements -/
theorem Conc.fr {T : List (Addr × Str)} {B : Bas} {M M1 : List Addr} {H H1 : Hp} {D : Ends} {A : AEnds} (c : Conc K T B M H D A) (f : Fr M H M1 H1) : Conc K T B M1 H1 D A :=
  ⟨fun M' δ' σ' H' a g S => c.nx _ _ _ _ a (f.trans g) S, fun v d M' δ' σ' H' a g S w => c.rt _ _ _ _ _ _ a (f.trans g) S w, fun M' δ' σ' H' a g S => c.bk _ _ _ _ a (f.trans g) S, fun M' δ' σ' H' a g S => c.ct _ _ _ _ a (f.trans g) S⟩
def aNext : AS := fun A δ => A.nx δ
instance simNext : SimS K T tNext aNext := ⟨fun S h c => c.nx _ _ _ _ h Fr.refl S⟩
def aBreak : AS := fun A δ => A.bk δ
instance simBreak : SimS K T tBreak aBreak := ⟨fun S h c => c.bk _ _ _ _ h Fr.refl S⟩
def aCont : AS := fun A δ => A.ct δ
instance simCont : SimS K T tCont aCont := ⟨fun S h c => c.ct _ _ _ _ h Fr.refl S⟩
def aSeq (a b : AS) : AS := fun A δ => a { A with nx := b A } δ
instance simSeq {t u : TS} {a b : AS} [h1 : SimS K T t a] [h2 : SimS K T u b] : SimS K T (tSeq t u) (aSeq a b) := ⟨fun {B M δ σ H D A} S h c =>
  h1.run (D := { D with nx := u D }) (A := { A with nx := b A }) S h ⟨fun M' δ' σ' H' x f S' => h2.run S' x (c.fr f), c.rt, c.bk, c.ct⟩⟩
def aIfS (a : AT) (x y : AS) : AS := fun A δ => a δ fun c δ1 => if c = true then x A δ1 else y A δ1
instance simIfS {t : TT} {tx ty : TS} {a : AT} {x y : AS} [h1 : SimT K T t a] [h2 : SimS K T tx x] [h3 : SimS K T ty y] : SimS K T (tIfS t tx ty) (aIfS a x y) := ⟨fun S h c => h1.run S h fun b M1 H1 δ1 g1 f1 S1 => by
  cases b with
  | true => exact h2.run S1 g1 (c.fr f1)
  | false => exact h3.run S1 g1 (c.fr f1)⟩
def aRet (ae : AE) : AS := fun A δ => ae δ fun d δ1 => A.rt d δ1
instance simRet {te : TE} {ae : AE} [h1 : SimE K T te ae] : SimS K T (tRet te) (aRet ae) := ⟨fun S h c => h1.run S h fun v M1 H1 d δ1 g1 f1 S1 w1 => c.rt _ _ _ _ _ _ g1 f1 S1 w1⟩
def aSet (ae : AE) (i : Nat) : AS := fun A δ => ae δ fun d δ1 => A.nx (δ1.set i (.da d))
instance (priority := 900) simSet {te : TE} {ae : AE} {i : Nat} [h1 : SimE K T te ae] : SimS K T (tAsg te (gName i)) (aSet ae i) := ⟨fun S h c => h1.run S h fun v M1 H1 d δ1 g1 f1 S1 w1 => c.nx _ _ _ _ g1 f1 (S1.put w1)⟩
/-- a new list in a slot: it may grow -/
def aSetL (al : AA) (i : Nat) : AS := fun A δ => al δ fun ds δ1 => A.nx (δ1.set i (.da (.list ds))) ∨ A.nx (δ1.set i (.ac ds))
instance simSetL {te : TE} {al : AA} {i : Nat} [h1 : SimL K T te al] : SimS K T (tAsg te (gName i)) (aSetL al i) := ⟨fun S h c => h1.run S h fun l vs M1 H1 ds δ1 g1 f1 S1 w1 ok nB => by
  rcases g1 with g | g
  · obtain ⟨fr, dl, SL⟩ := S1.leave w1 nB
    exact c.nx _ _ _ _ g (f1.trans fr) (SL.put dl)
  · exact c.nx _ _ _ _ g f1 (S1.toAc w1 ok nB i)⟩
def aPar (i j : Nat) (aa : AA) : AS := fun A δ => aa δ fun ds δ1 => match ds with
  | [d, e] => A.nx ((δ1.set i (.da d)).set j (.da e))
  | _ => False
instance simPar {ta : TA} {aa : AA} {i j : Nat} [h1 : SimA K T ta aa] : SimS K T (tPar i j ta) (aPar i j aa) := ⟨fun S h c => h1.run S h fun vs M1 H1 ds δ1 g1 f1 S1 w1 => by
  split at g1
  · cases w1 with
    | cons a b =>
      cases b with
      | cons b1 b2 =>
        cases b2
        exact ⟨_, _, rfl, c.nx _ _ _ _ g1 f1 ((S1.put a).put b1)⟩
  · exact g1.elim⟩
/-- append to the own list at slot i -/
def aApp (i : Nat) (ae : AE) : AS := fun A δ => match δ[i]? with
  | some (.ac _) => ae δ fun d δ1 => match δ1[i]? with
    | some (.ac ds) => ds.length < sizeLine ∧ A.nx (δ1.set i (.ac (ds ++ [d])))
    | _ => False
  | _ => False
instance simApp {te : TE} {ae : AE} {i : Nat} [h1 : SimE K T te ae] : SimS K T (tDrop (tBM K "list" rAppend (tV i) (tCons te tNil))) (aApp i ae) := ⟨fun {B M δ σ H D A} S h c => by
  unfold aApp at h
  split at h
  · rename_i ds0 e0
    obtain ⟨l, vs0, e2, k1, k2, k3, k4⟩ := S.sl _ _ e0
    show tV i σ H fun x H1 => tyV K "list" x H1 ∧ te σ H1 fun y H2 => rAppend x [y] H2 fun _ H3 => D.nx σ H3
    unfold tV
    rw [e2]
    refine ⟨.inl ⟨rfl, _, .inl (.inl k3)⟩, h1.run S h fun v M1 H1 d δ1 g1 f1 S1 w1 => ?_⟩
    split at g1
    · rename_i ds e
      obtain ⟨l', vs, e3, m1, m2, m3, m4, _⟩ := S1.sl _ _ e
      rw [e2] at e3
      cases e3
      obtain ⟨fr, S2⟩ := S1.grow (us := vs ++ [v]) (es := ds ++ [d]) e e2 (dpAll_app m4 (.cons w1 .nil))
      exact ⟨l, vs, v, rfl, rfl, m3, by rw [dpAll_len m4]; exact g1.1, c.nx _ _ _ _ g1.2 (f1.trans fr) S2⟩
    · exact g1.elim
  · exact h.elim⟩
/-! ### comprehensions, loops -/
inductive Items : PyData → List PyData → Prop where
  | lst (ds : List PyData) : Items (.list ds) ds
  | tup (ds : List PyData) : Items (.tuple ds) ds
  | str (z : Str) : Items (.str z) (z.cps.toList.map fun c => .str ⟨#[c]⟩)
theorem walk_mono {J : It} {n n' : Nat} {G G' : Hp → Prop} {Y Y' : Nat → Hp → V → Hp → Prop} (w : Walk J n G Y) (e : n = n') (hg : ∀ H, G' H → G H) (hy : ∀ i H x H', i < n' → G' H → Y i H x H' → Y' i H x H') : Walk J n' G' Y' := by
  subst e
  exact w.mono hg hy
abbrev AI := List SD → (List PyData → List SD → Prop) → Prop
/-- a walk over items told as data -/
abbrev WalkD (K : PySem.W.Frag) (J : It) (ds : List PyData) (M : List Addr) (H : Hp) : Prop :=
  Walk J ds.length (fun H2 => ∃ M2, MutOk M2 H2 ∧ Fr M H M2 H2) (fun i H2 x H3 => Same H2 H3 ∧ ∃ d, ds[i]? = some d ∧ ∀ M2, MutOk M2 H2 → Fr M H M2 H2 → Dp K (imm M2 H3) x d)
/-- what is walked: the items as data; they stand while it is walked -/
class SimI (K : PySem.W.Frag) (T : List (Addr × Str)) (ti : TI) (ai : outParam AI) : Prop where
  run : ∀ {B : Bas} {M : List Addr} {δ : List SD} {σ : L2.St} {H : Hp} {R : It → Hp → Prop} {G : List PyData → List SD → Prop}, Sta K T B M δ σ H → ai δ G →
    (∀ (J : It) (M' : List Addr) (H' : Hp) (ds : List PyData) (δ' : List SD), G ds δ' → Fr M H M' H' → Sta K T B M' δ' σ H' → WalkD K J ds M' H' → R J H') → ti σ H R
def aAny (ae : AE) : AI := fun δ G => ae δ fun d δ1 => ∃ ds, Items d ds ∧ G ds δ1
instance simAny {te : TE} {ae : AE} [h1 : SimE K T te ae] : SimI K T (iAny K te) (aAny ae) := ⟨fun {B M δ σ H R G} S h q => h1.run S h fun v M1 H1 d δ1 g1 f1 S1 w1 => by
  obtain ⟨ds, it, g⟩ := g1
  cases it with
  | lst =>
    cases w1 with
    | lst a b =>
      refine .inl ⟨_, sqL_same (imm_sub _ _) a, q _ _ _ _ _ g f1 S1 (walk_mono (walk_list (K := K)) (dpAll_len b) ?_ ?_)⟩
      · rintro H2 ⟨M2, m2, f2⟩
        exact sqL_same (imm_sub _ _) (sqL_same f2 a)
      · rintro i H2 x H3 hi _ ⟨rfl, hx⟩
        obtain ⟨d, e1, e2⟩ := dpAll_at b hx
        exact ⟨.refl _, d, e1, fun M2 m2 f2 => Dp.mono f2 _ _ e2⟩
  | tup =>
    cases w1 with
    | tup a b =>
      refine .inr ⟨_, sqT_same (imm_sub _ _) a, q _ _ _ _ _ g f1 S1 (walk_mono (walk_tup (K := K)) (dpAll_len b) ?_ ?_)⟩
      · rintro H2 ⟨M2, m2, f2⟩
        exact sqT_same (imm_sub _ _) (sqT_same f2 a)
      · rintro i H2 x H3 hi _ ⟨rfl, hx⟩
        obtain ⟨d, e1, e2⟩ := dpAll_at b hx
        exact ⟨.refl _, d, e1, fun M2 m2 f2 => Dp.mono f2 _ _ e2⟩
  | str z =>
    cases w1
    refine q _ _ _ _ _ g f1 S1 (walk_mono (walk_str (z := z)) (by simp) ?_ ?_)
    · intro _ _; trivial
    · rintro i H2 x H3 hi _ ⟨rfl, c, hc, rfl⟩
      exact ⟨.refl _, .str ⟨#[c]⟩, by simp [hc], fun M2 m2 f2 => .str _⟩⟩
def intsD (lo : Int) (n : Nat) : List PyData := (List.range n).map fun i => .int (lo + (i : Nat))
theorem walk_ints {lo : Int} {n : Nat} {M : List Addr} {H : Hp} : WalkD K (Itr lo n) (intsD lo n) M H := by
  refine walk_mono walk_range (by unfold intsD; simp) (fun _ _ => trivial) ?_
  rintro i H2 x H3 hi _ ⟨rfl, rfl⟩
  refine ⟨.refl _, .int (lo + (i : Nat)), ?_, fun _ _ _ => .int _⟩
  unfold intsD at hi ⊢
  rw [List.length_map, List.length_range] at hi
  rw [List.getElem?_map, List.getElem?_range hi]
  rfl
def aRg1 (aa : AA) : AI := fun δ G => aa δ fun ds δ1 => match ds with
  | [.int j] => -(2 ^ 62) ≤ j ∧ j < 2 ^ 62 ∧ G (intsD 0 j.toNat) δ1
  | _ => False
instance simRg1 {ta : TA} {aa : AA} [h1 : SimA K T ta aa] : SimI K T (iRng1 ta) (aRg1 aa) := ⟨fun S h q => h1.run S h fun vs M1 H1 ds δ1 g1 f1 S1 w1 => by
  split at g1
  · cases w1 with
    | cons a b =>
      cases a
      cases b
      exact ⟨_, rfl, g1.1, g1.2.1, q _ _ _ _ _ g1.2.2 f1 S1 walk_ints⟩
  · exact g1.elim⟩
def aRg2 (aa : AA) : AI := fun δ G => aa δ fun ds δ1 => match ds with
  | [.int i, .int j] => (-(2 ^ 62) ≤ i ∧ i < 2 ^ 62 ∧ -(2 ^ 62) ≤ j ∧ j < 2 ^ 62) ∧ G (intsD i (j - i).toNat) δ1
  | _ => False
instance simRg2 {ta : TA} {aa : AA} [h1 : SimA K T ta aa] : SimI K T (iRng2 ta) (aRg2 aa) := ⟨fun S h q => h1.run S h fun vs M1 H1 ds δ1 g1 f1 S1 w1 => by
  split at g1
  · cases w1 with
    | cons a b =>
      cases b with
      | cons b1 b2 =>
        cases a
        cases b1
        cases b2
        exact ⟨_, _, rfl, g1.1, q _ _ _ _ _ g1.2 f1 S1 walk_ints⟩
  · exact g1.elim⟩
/-- where an item goes: a name, a pair of names .. -/
abbrev AG := PyData → List SD → (List SD → Prop) → Prop
class SimG (K : PySem.W.Frag) (T : List (Addr × Str)) (g : TG) (ag : outParam AG) : Prop where
  run : ∀ {B : Bas} {M : List Addr} {δ : List SD} {σ : L2.St} {H : Hp} {v : V} {d : PyData} {Q : L2.St → Hp → Prop} {G : List SD → Prop}, Sta K T B M δ σ H → Dp K (imm M H) v d → ag d δ G →
    (∀ (σ' : L2.St) (δ' : List SD), G δ' → Sta K T B M δ' σ' H → Q σ' H) → g v σ H Q
def agName (i : Nat) : AG := fun d δ G => G (δ.set i (.da d))
instance simGName {i : Nat} : SimG K T (gName i) (agName i) := ⟨fun S w h q => q _ _ h (S.put w)⟩
abbrev AGs := List PyData → List SD → (List SD → Prop) → Prop
class SimGs (K : PySem.W.Frag) (T : List (Addr × Str)) (g : TGs) (ag : outParam AGs) : Prop where
  run : ∀ {B : Bas} {M : List Addr} {δ : List SD} {σ : L2.St} {H : Hp} {vs : List V} {ds : List PyData} {Q : L2.St → Hp → Prop} {G : List SD → Prop}, Sta K T B M δ σ H → DpAll K (imm M H) vs ds → ag ds δ G →
    (∀ (σ' : L2.St) (δ' : List SD), G δ' → Sta K T B M δ' σ' H → Q σ' H) → g vs σ H Q
def agNil : AGs := fun ds δ G => ds = [] ∧ G δ
instance simGNil : SimGs K T gNil agNil := ⟨fun S w h q => by
  obtain ⟨rfl, h⟩ := h
  cases w
  exact ⟨rfl, q _ _ h S⟩⟩
def agCons (a : AG) (b : AGs) : AGs := fun ds δ G => match ds with
  | d :: r => a d δ fun δ1 => b r δ1 G
  | [] => False
instance simGCons {g : TG} {gs : TGs} {a : AG} {b : AGs} [h1 : SimG K T g a] [h2 : SimGs K T gs b] : SimGs K T (gCons g gs) (agCons a b) := ⟨fun {B M δ σ H vs ds Q G} S w h q => by
  cases w with
  | nil => exact h.elim
  | cons x y => exact ⟨_, _, rfl, h1.run S x h fun σ1 δ1 k1 S1 => h2.run S1 y k1 q⟩⟩
def agTup (n : Nat) (b : AGs) : AG := fun d δ G => match d with
  | .tuple ds => ds.length = n ∧ b ds δ G
  | _ => False
instance simGTup {n : Nat} {gs : TGs} {b : AGs} [h2 : SimGs K T gs b] : SimG K T (gTup K n gs) (agTup n b) := ⟨fun {B M δ σ H v d Q G} S w h q => by
  cases w with
  | tup x y => exact ⟨_, _, rfl, sqT_same (imm_sub _ _) x, by rw [dpAll_len y]; exact h.1, h2.run S y h.2 q⟩
  | _ => exact h.elim⟩
def aAsg (ae : AE) (ag : AG) : AS := fun A δ => ae δ fun d δ1 => ag d δ1 A.nx
instance (priority := low) simAsg {te : TE} {g : TG} {ae : AE} {ag : AG} [h1 : SimE K T te ae] [h2 : SimG K T g ag] : SimS K T (tAsg te g) (aAsg ae ag) := ⟨fun S h c => h1.run S h fun v M1 H1 d δ1 g1 f1 S1 w1 => h2.run S1 w1 g1 fun σ2 δ2 g2 S2 => c.nx _ _ _ _ g2 f1 S2⟩
def aFor (ai : AI) (ag : AG) (ab : AS) : AS := fun A δ => ai δ fun ds δ1 => ∃ I : Nat → List SD → Prop, I 0 δ1 ∧
  (∀ (j : Nat) (x : PyData) (δ' : List SD), ds[j]? = some x → I j δ' → ag x δ' fun δ2 => ab { A with nx := I (j + 1), ct := I (j + 1), bk := A.nx } δ2) ∧ ∀ δ', I ds.length δ' → A.nx δ'
instance simFor {ti : TI} {g : TG} {tb : TS} {ai : AI} {ag : AG} {ab : AS} [h1 : SimI K T ti ai] [h2 : SimG K T g ag] [h3 : SimS K T tb ab] : SimS K T (tFor ti g tb) (aFor ai ag ab) := ⟨fun {B M δ σ H D A} S h c =>
  h1.run S h fun J M1 H1 ds δ1 g1 f1 S1 wk => by
    obtain ⟨I, i0, is, ie⟩ := g1
    refine for_it wk (fun j σ' H' => ∃ M' δ', I j δ' ∧ Fr M1 H1 M' H' ∧ Sta K T B M' δ' σ' H') ⟨M1, δ1, i0, Fr.refl, S1⟩ ?_ ?_ ?_
    · rintro j σ' H' _ ⟨M', δ', _, f', S'⟩
      exact ⟨M', S'.mu, f'⟩
    · rintro j x σ' H2 H3 hj ⟨M', δ', ij, f', S'⟩ ⟨s3, d, hd, w⟩
      have w := w M' S'.mu f'
      have S3 := S'.same s3
      have f3 : Fr M1 H1 M' H3 := f'.trans (Fr.of s3)
      refine h2.run S3 w (is j d δ' hd ij) fun σ2 δ2 g2 S2 => ?_
      refine h3.run S2 g2 ⟨fun M4 δ4 σ4 H4 a f4 S4 => ⟨M4, δ4, a, f3.trans f4, S4⟩, fun v d' M4 δ4 σ4 H4 a f4 S4 w4 => c.rt _ _ _ _ _ _ a (f1.trans (f3.trans f4)) S4 w4, fun M4 δ4 σ4 H4 a f4 S4 => c.nx _ _ _ _ a (f1.trans (f3.trans f4)) S4, fun M4 δ4 σ4 H4 a f4 S4 => ⟨M4, δ4, a, f3.trans f4, S4⟩⟩
    · rintro σ' H' ⟨M', δ', ij, f', S'⟩
      exact c.nx _ _ _ _ (ie δ' ij) (f1.trans f') S'⟩
/-- a comprehension: I by the turn, what is laid down, the slots -/
def alLc (ai : AI) (ag : AG) (at_ : AT) (ae : AE) (vs : List Nat) : AA := fun δ G => ai δ fun ds δ1 => ∃ I : Nat → List PyData → List SD → Prop, I 0 [] δ1 ∧
  (∀ (j : Nat) (x : PyData) (acc : List PyData) (δ' : List SD), ds[j]? = some x → acc.length ≤ j → acc.length < sizeLine → I j acc δ' → ag x (wipeD δ' vs) fun δ2 => at_ δ2 fun b δ3 =>
    if b = true then ae δ3 fun y δ4 => I (j + 1) (acc ++ [y]) (wipeD δ4 vs) else I (j + 1) acc (wipeD δ3 vs)) ∧ ds.length ≤ sizeLine ∧ ∀ acc δ', acc.length ≤ ds.length → I ds.length acc δ' → G acc δ'
class Keeps (g : TG) (vs : List Nat) : Prop where
  run : ∀ (v : V) (σ : L2.St) (H : Hp) (Q : L2.St → Hp → Prop), (g v (wipe σ vs) H fun σ2 H2 => wipe σ2 vs = wipe σ vs → Q σ2 H2) → g v (wipe σ vs) H fun σ2 H2 => wipe σ2 vs = wipe σ vs ∧ Q σ2 H2
theorem wipe_in {j : Nat} : ∀ {us : List Nat} {τ : L2.St}, j ∈ us → (wipe τ us)[j]? = if j < τ.length then some none else none := by
  intro us
  induction us with
  | nil => intro τ h; cases h
  | cons u us ih =>
    intro τ h
    unfold wipe
    rw [List.getElem?_set]
    by_cases e : u = j
    · subst e
      rw [if_pos rfl, wipe_length]
    · rw [if_neg e]
      exact ih ((List.mem_cons.mp h).resolve_left fun z => e z.symm)
theorem wipe_eq {vs : List Nat} {σ τ : L2.St} (l : τ.length = σ.length) (h : ∀ j, j ∉ vs → τ[j]? = σ[j]?) : wipe τ vs = wipe σ vs := by
  refine List.ext_getElem? fun j => ?_
  by_cases c : j ∈ vs
  · rw [wipe_in c, wipe_in c, l]
  · rw [wipe_at c, wipe_at c, h j c]
theorem wipe_set {i : Nat} {v : V} {vs : List Nat} {σ : L2.St} (h : i ∈ vs) : wipe ((wipe σ vs).set i (some v)) vs = wipe σ vs :=
  wipe_eq (by rw [List.length_set, wipe_length]) fun j hj => by rw [List.getElem?_set_ne (fun z => hj (by rw [← z]; exact h)), wipe_at hj]
theorem wipe_set2 {i k : Nat} {v u : V} {vs : List Nat} {σ : L2.St} (h : i ∈ vs) (h' : k ∈ vs) : wipe (((wipe σ vs).set i (some v)).set k (some u)) vs = wipe σ vs :=
  wipe_eq (by rw [List.length_set, List.length_set, wipe_length]) fun j hj => by rw [List.getElem?_set_ne (fun z => hj (by rw [← z]; exact h')), List.getElem?_set_ne (fun z => hj (by rw [← z]; exact h)), wipe_at hj]
instance keepsName {i : Nat} : Keeps (gName i) [i] := ⟨fun v σ H Q h => ⟨wipe_set (List.mem_singleton.mpr rfl), h (wipe_set (List.mem_singleton.mpr rfl))⟩⟩
instance keepsName2 {i : Nat} {x : Str} : Keeps (gName i) (([(x, i)] : List (Str × Nat)).map fun q => q.2) := keepsName
instance keepsPair {K : PySem.W.Frag} {i j n : Nat} : Keeps (gTup K n (gCons (gName i) (gCons (gName j) gNil))) [i, j] := ⟨fun v σ H Q h => by
  obtain ⟨a, xs, e1, e2, e3, x1, r1, e4, x2, r2, e5, e6, q⟩ := h
  have w := wipe_set2 (vs := [i, j]) (σ := σ) (v := x1) (u := x2) (List.mem_cons_self ..) (List.mem_cons_of_mem _ (List.mem_cons_self ..))
  exact ⟨a, xs, e1, e2, e3, x1, r1, e4, x2, r2, e5, e6, w, q w⟩⟩
instance keepsPair2 {K : PySem.W.Frag} {i j n : Nat} {x y : Str} : Keeps (gTup K n (gCons (gName i) (gCons (gName j) gNil))) (([(x, i), (y, j)] : List (Str × Nat)).map fun q => q.2) := keepsPair
instance simLc {ti : TI} {g : TG} {tt : TT} {te : TE} {vs : List Nat} {ai : AI} {ag : AG} {at_ : AT} {ae : AE} [h1 : SimI K T ti ai] [h2 : SimG K T g ag] [h3 : SimT K T tt at_] [h4 : SimE K T te ae] [kp : Keeps g vs] :
    SimL K T (tLc ti g tt te vs) (alLc ai ag at_ ae vs) := ⟨fun {B M δ σ H Q G} S h q => h1.run S h fun J M1 H1 ds δ1 g1 f1 S1 wk => by
  obtain ⟨I, i0, is, small, ie⟩ := g1
  intro D nD
  obtain ⟨ok, nB, frE, SE⟩ := S1.enter [] nD
  refine lc_it wk (fun j H' => ∃ M' δ' xs acc, I j acc δ' ∧ acc.length ≤ j ∧ Fr M1 H1 M' H' ∧ Sta K T (B.at_ D xs) M' δ' σ H' ∧ DpAll K (imm M' H') xs acc) ⟨_, δ1, [], [], i0, Nat.le_refl _, frE, SE, .nil⟩ ?_ ?_ ?_
  · rintro j H' _ ⟨M', δ', xs, acc, _, _, f', S', _⟩
    exact ⟨M', S'.mu, f'⟩
  · rintro j x H2 H3 hj ⟨M', δ', xs, acc, ij, al, f', S', wa⟩ ⟨s3, d, hd, w⟩
    have w := w M' S'.mu f'
    have S3 := S'.same s3
    have f3 : Fr M1 H1 M' H3 := f'.trans (Fr.of s3)
    have wa3 := Dp.monoAll (Fr.of s3) _ _ wa
    have small' : acc.length < sizeLine := by omega
    refine kp.run _ _ _ _ (h2.run (S3.wipe vs) w (is j d acc δ' hd al small' ij) fun σ2 δ2 g2 S2 ew => ?_)
    refine h3.run S2 g2 fun b M4 H4 δ4 g4 f4 S4 => ?_
    cases b with
    | false => exact ⟨M4, _, xs, acc, g4, Nat.le_succ_of_le al, f3.trans f4, S4.unwipe ew, Dp.monoAll f4 _ _ wa3⟩
    | true =>
      refine h4.run S4 g4 fun y M5 H5 dy δ5 g5 f5 S5 w5 => ?_
      have S6 := S5.unwipe ew
      have wa5 := Dp.monoAll (f4.trans f5) _ _ wa3
      obtain ⟨ft, S7⟩ := S6.turn (ys := xs ++ [y]) ok
      refine ⟨xs, S6.rel.2, by rw [dpAll_len wa]; exact small', M5, _, xs ++ [y], acc ++ [dy], g5, ?_, ((f3.trans f4).trans f5).trans ft, S7, Dp.monoAll ft _ _ (dpAll_app wa5 (.cons w5 .nil))⟩
      rw [List.length_append]
      exact Nat.succ_le_succ al
  · rintro H' ⟨M', δ', xs, acc, ij, al, f', S', wa⟩
    exact q _ _ _ _ _ _ (ie acc δ' al ij) (f1.trans f') S' wa ok nB⟩
/-! ### list + list -/
def alCat (al bl : AA) : AA := fun δ G => al δ fun ds δ1 => bl δ1 fun es δ2 => ds.length + es.length ≤ sizeLine ∧ G (ds ++ es) δ2
theorem Sta.leave0 {T : List (Addr × Str)} {B : Bas} {M : List Addr} {δ : List SD} {σ : L2.St} {H : Hp} {D : Addr} {xs : List V} (S : Sta K T (B.at_ D xs) M δ σ H) : Sta K T B M δ σ H := by
  refine ⟨S.rel.1, S.tb, S.mu, fun b hb => S.hd b (List.mem_cons_of_mem _ hb), S.len, fun j x hx => ?_, S.di⟩
  have w := S.sl j x hx
  cases x with
  | no => trivial
  | da d => exact w
  | pe n' =>
    obtain ⟨p2, e, w1, w2, w3⟩ := w
    exact ⟨p2, e, w1, w2.1, w3⟩
  | ac ds' =>
    obtain ⟨l', vs', e, w1, w2, w3, w4, w5⟩ := w
    exact ⟨l', vs', e, w1, w2.1, w3, w4, fun z => w5 (List.mem_cons_of_mem _ z)⟩
  | ob R => exact w
  | di z kvs =>
    obtain ⟨p2, e, w1, w2⟩ := w
    exact ⟨p2, e, w1.1, w2⟩
instance simCat {tx ty : TE} {al bl : AA} [h1 : SimL K T tx al] [h2 : SimL K T ty bl] : SimL K T (tOp mAdd tx ty) (alCat al bl) := ⟨fun S h q => h1.run S h fun l vs M1 H1 ds δ1 g1 f1 S1 w1 ok nB => h2.run S1 g1 fun l2 vs2 M2 H2 ds2 δ2 g2 f2 S2 w2 ok2 nB2 => by
  have h1 := S2.rel.1.2
  have h2 := S2.rel.2
  have w12 := dpAll_app (Dp.monoAll f2 _ _ w1) w2
  refine ⟨vs, vs2, h1, h2, by rw [dpAll_len w1, dpAll_len w2]; exact g2.1, fun p np => ?_⟩
  obtain ⟨ok, nB, fr, S3⟩ := (S2.leave0.leave0).enter (vs ++ vs2) np
  exact q _ _ _ _ _ _ g2.2 (f1.trans (f2.trans fr)) S3 (Dp.monoAll fr _ _ w12) ok nB⟩
/-- an own list + a new one -/
def alCatV (i : Nat) (bl : AA) : AA := fun δ G => match δ[i]? with
  | some (.ac _) => bl δ fun es δ2 => match δ2[i]? with
    | some (.ac ds) => ds.length + es.length ≤ sizeLine ∧ G (ds ++ es) δ2
    | _ => False
  | _ => False
instance simCatV {i : Nat} {ty : TE} {bl : AA} [h2 : SimL K T ty bl] : SimL K T (tOp mAdd (tV i) ty) (alCatV i bl) := ⟨fun {B M δ σ H Q G} S h q => by
  unfold alCatV at h
  split at h
  · rename_i ds0 e0
    obtain ⟨l, vs0, e2, k1, k2, k3, k4⟩ := S.sl _ _ e0
    show tV i σ H fun x H1 => ty σ H1 fun y H2 => mAdd x y H2 Q
    unfold tV
    rw [e2]
    refine h2.run S h fun l2 vs2 M2 H2 ds2 δ2 g2 f2 S2 w2 ok2 nB2 => ?_
    split at g2
    · rename_i ds e
      obtain ⟨l', vs, e3, m1, m2, m3, m4, m5⟩ := S2.sl _ _ e
      rw [e2] at e3
      cases e3
      refine ⟨vs, vs2, m3, S2.rel.2, by rw [dpAll_len m4, dpAll_len w2]; exact g2.1, fun p np => ?_⟩
      obtain ⟨ok, nB, fr, S3⟩ := (S2.leave0).enter (vs ++ vs2) np
      exact q _ _ _ _ _ _ g2.2 (f2.trans fr) S3 (Dp.monoAll fr _ _ (dpAll_app m4 w2)) ok nB
    · exact g2.elim
  · exact h.elim⟩
/-- a new list + an own one -/
def alCatW (al : AA) (i : Nat) : AA := fun δ G => al δ fun ds δ1 => match δ1[i]? with
  | some (.ac es) => ds.length + es.length ≤ sizeLine ∧ G (ds ++ es) δ1
  | _ => False
instance simCatW {i : Nat} {tx : TE} {al : AA} [h1 : SimL K T tx al] : SimL K T (tOp mAdd tx (tV i)) (alCatW al i) := ⟨fun {B M δ σ H Q G} S h q => h1.run S h fun l vs M1 H1 ds δ1 g1 f1 S1 w1 ok nB => by
  split at g1
  · rename_i es e
    obtain ⟨l', vs', e3, m1, m2, m3, m4, m5⟩ := S1.sl _ _ e
    show tV i σ H1 fun y H2 => mAdd (.ref l) y H2 Q
    unfold tV
    rw [e3]
    refine ⟨vs, vs', S1.rel.2, m3, by rw [dpAll_len w1, dpAll_len m4]; exact g1.1, fun p np => ?_⟩
    obtain ⟨ok, nB, fr, S3⟩ := (S1.leave0).enter (vs ++ vs') np
    exact q _ _ _ _ _ _ g1.2 (f1.trans fr) S3 (Dp.monoAll fr _ _ (dpAll_app w1 m4)) ok nB
  · exact g1.elim⟩
end
end Xia

set_option Elab.async false
set_option linter.all false
set_option maxRecDepth 100000
set_option maxHeartbeats 4000000
set_option autoImplicit false
/-! Own: what the operators, the built-ins, the promises of defs do to data. -/
namespace Xia
open PySem PySem.Spec PyProof.Rows L2 SX LamX
section
variable {K : PySem.W.Frag} {T : List (Addr × Str)}
/-! ### operators -/
def dAdd : PyData → PyData → (PyData → Prop) → Prop := fun d e G => match d, e with
  | .int i, .int j => G (.int (i + j))
  | .str a, .str b => a.length + b.length ≤ sizeLine ∧ G (.str (a ++ b))
  | _, _ => False
instance opdAdd : OpD K mAdd dAdd := ⟨fun {M H x y d e Q G} m hx hy h q => by
  unfold dAdd at h
  split at h
  · cases hx; cases hy
    exact q _ _ _ h (.refl _) (.int _)
  · cases hx; cases hy
    exact ⟨h.1, q _ _ _ h.2 (.refl _) (.str _)⟩
  · exact h.elim⟩
def dII (g : Int → Int → PyData) : PyData → PyData → (PyData → Prop) → Prop := fun d e G => match d, e with
  | .int i, .int j => G (g i j)
  | _, _ => False
instance opdSub : OpD K mSub (dII fun i j => .int (i - j)) := ⟨fun {M H x y d e Q G} m hx hy h q => by
  unfold dII at h
  split at h
  · cases hx; cases hy
    exact q _ _ _ h (.refl _) (.int _)
  · exact h.elim⟩
instance opdCmp (g : Int → Int → Bool) : OpD K (mII g) (dII fun i j => .bool (g i j)) := ⟨fun {M H x y d e Q G} m hx hy h q => by
  unfold dII at h
  split at h
  · cases hx; cases hy
    exact q _ _ _ h (.refl _) (.bl _)
  · exact h.elim⟩
def dMod : PyData → PyData → (PyData → Prop) → Prop := fun d e G => match d, e with
  | .int i, .int j => 0 < j ∧ G (.int (i % j))
  | _, _ => False
instance opdMod : OpD K mMod dMod := ⟨fun {M H x y d e Q G} m hx hy h q => by
  unfold dMod at h
  split at h
  · cases hx; cases hy
    exact ⟨h.1, q _ _ _ h.2 (.refl _) (.int _)⟩
  · exact h.elim⟩
def dFdiv : PyData → PyData → (PyData → Prop) → Prop := fun d e G => match d, e with
  | .int i, .int j => CDiv i j ∧ G (.int (i / j))
  | _, _ => False
instance opdFdiv : OpD K mFdiv dFdiv := ⟨fun {M H x y d e Q G} m hx hy h q => by
  unfold dFdiv at h
  split at h
  · cases hx; cases hy
    exact ⟨h.1, q _ _ _ h.2 (.refl _) (.int _)⟩
  · exact h.elim⟩
def dMul : PyData → PyData → (PyData → Prop) → Prop := fun d e G => match d, e with
  | .int i, .int j => CMul i j ∧ G (.int (i * j))
  | .str a, .int i => MulOk a i ∧ G (.str (Txt.mul a i))
  | _, _ => False
instance opdMul : OpD K mMul dMul := ⟨fun {M H x y d e Q G} m hx hy h q => by
  unfold dMul at h
  split at h
  · cases hx; cases hy
    exact ⟨h.1, q _ _ _ h.2 (.refl _) (.int _)⟩
  · cases hx; cases hy
    exact ⟨h.1, q _ _ _ h.2 (.refl _) (.str _)⟩
  · exact h.elim⟩
/-- are the two equal, as Python's == tells -/
def dEq (n : Bool) : PyData → PyData → (PyData → Prop) → Prop := fun d e G => match d, e with
  | .int i, .int j => G (.bool (n != decide (i = j)))
  | .str i, .str j => G (.bool (n != decide (i = j)))
  | .bool i, .bool j => G (.bool (n != decide (i = j)))
  | .none, .none => G (.bool (n != true))
  | d, e => SeqAt.shaped d = true ∧ SeqAt.shaped e = true ∧ G (.bool (n != PyData.eqv d e))
theorem eqB_of {M : List Addr} {H : Hp} {x y : V} {d e : PyData} (hx : Dp K (imm M H) x d) (hy : Dp K (imm M H) y e) (h1 : SeqAt.shaped d = true) (h2 : SeqAt.shaped e = true) : EqB K H x y (PyData.eqv d e) :=
  ⟨d, e, Dp.mono (imm_sub _ _) _ _ hx, Dp.mono (imm_sub _ _) _ _ hy, h1, h2, rfl⟩
instance opdEq : OpD K (mEq K) (dEq false) := ⟨fun {M H x y d e Q G} m hx hy h q => by
  have eb := fun h1 h2 => eqB_of hx hy h1 h2
  unfold dEq at h
  split at h
  · cases hx; cases hy; exact q _ _ _ (by simpa using h) (.refl _) (.bl _)
  · cases hx; cases hy; exact q _ _ _ (by simpa using h) (.refl _) (.bl _)
  · cases hx; cases hy; exact q _ _ _ (by simpa using h) (.refl _) (.bl _)
  · cases hx; cases hy; exact q _ _ _ (by simpa using h) (.refl _) (.bl _)
  · rename_i n1 n2 n3 n4
    obtain ⟨h1, h2, h3⟩ := h
    have k : Q (.bl (PyData.eqv d e)) H := q _ _ _ (by simpa using h3) (.refl _) (.bl _)
    unfold mEq
    split
    · cases hx; cases hy; exact (n1 _ _ rfl rfl).elim
    · cases hx; cases hy; exact (n2 _ _ rfl rfl).elim
    · cases hx; cases hy; exact (n3 _ _ rfl rfl).elim
    · cases hx; cases hy
      exact k
    · cases hx; cases hy; exact (n4 rfl rfl).elim
    · exact ⟨_, eb h1 h2, k⟩⟩
instance opdNe : OpD K (mNe K) (dEq true) := ⟨fun {M H x y d e Q G} m hx hy h q => by
  have eb := fun h1 h2 => eqB_of hx hy h1 h2
  unfold dEq at h
  split at h
  · cases hx; cases hy; exact q _ _ _ (by simpa using h) (.refl _) (.bl _)
  · cases hx; cases hy; exact q _ _ _ (by simpa using h) (.refl _) (.bl _)
  · cases hx; cases hy; exact q _ _ _ (by simpa using h) (.refl _) (.bl _)
  · cases hx; cases hy; exact q _ _ _ (by simpa using h) (.refl _) (.bl _)
  · rename_i n1 n2 n3 n4
    obtain ⟨h1, h2, h3⟩ := h
    have k : Q (.bl (!PyData.eqv d e)) H := q _ _ _ (by simpa using h3) (.refl _) (.bl _)
    unfold mNe
    split
    · cases hx; cases hy; exact (n1 _ _ rfl rfl).elim
    · cases hx; cases hy; exact (n2 _ _ rfl rfl).elim
    · cases hx; cases hy; exact (n3 _ _ rfl rfl).elim
    · cases hx; cases hy; exact (n4 rfl rfl).elim
    · exact ⟨_, eb h1 h2, k⟩⟩
/-- x is None, is not None -/
def dIsN (n : Bool) : PyData → PyData → (PyData → Prop) → Prop := fun d e G => match d, e with
  | .none, .none => G (.bool (!n))
  | .bool _, .none => G (.bool n)
  | .int _, .none => G (.bool n)
  | .str _, .none => G (.bool n)
  | .list _, .none => G (.bool n)
  | .tuple _, .none => G (.bool n)
  | _, _ => False
instance opdIs : OpD K mIsN (dIsN false) := ⟨fun {M H x y d e Q G} m hx hy h q => by
  unfold dIsN at h
  split at h <;> first | exact h.elim | (cases hx; cases hy; exact q _ _ _ h (.refl _) (.bl _))⟩
instance opdIsNot : OpD K mNot2 (dIsN true) := ⟨fun {M H x y d e Q G} m hx hy h q => by
  unfold dIsN at h
  split at h <;> first | exact h.elim | (cases hx; cases hy; exact q _ _ _ h (.refl _) (.bl _))⟩
def dInS (n : Bool) : PyData → PyData → (PyData → Prop) → Prop := fun d e G => match d, e with
  | .str c, .str z => c.cps.size = 1 ∧ G (.bool (n != decide (c.cps.getD 0 0 ∈ z.cps.toList)))
  | _, _ => False
instance opdInS (n : Bool) : OpD K (mInS n) (dInS n) := ⟨fun {M H x y d e Q G} m hx hy h q => by
  unfold dInS at h
  split at h
  · cases hx; cases hy; exact ⟨h.1, q _ _ _ h.2 (.refl _) (.bl _)⟩
  · exact h.elim⟩
def dInRow (n : Bool) : PyData → PyData → (PyData → Prop) → Prop := fun d e G => match d, e with
  | .str z, .tuple ds => ∃ zs : List Str, ds = zs.map .str ∧ G (.bool (n != decide (z ∈ zs)))
  | .str z, .list ds => ∃ zs : List Str, ds = zs.map .str ∧ G (.bool (n != decide (z ∈ zs)))
  | _, _ => False
instance opdInRow (n : Bool) : OpD K (rInRow K n) (dInRow n) := ⟨fun {M H x y d e Q G} m hx hy h q => by
  unfold dInRow at h
  split at h
  · obtain ⟨zs, rfl, h⟩ := h
    cases hx
    cases hy with
    | tup a b =>
      rw [dpAll_strs b] at a
      exact ⟨zs, .inr (sqT_same (imm_sub _ _) a), q _ _ _ h (.refl _) (.bl _)⟩
  · obtain ⟨zs, rfl, h⟩ := h
    cases hx
    cases hy with
    | lst a b =>
      rw [dpAll_strs b] at a
      exact ⟨zs, .inl (sqL_same (imm_sub _ _) a), q _ _ _ h (.refl _) (.bl _)⟩
  · exact h.elim⟩
/-- an item by its place -/
def dIx : PyData → PyData → (PyData → Prop) → Prop := fun d e G => match d, e with
  | .tuple ds, .int i => ∃ r, atI ds i = some r ∧ G r
  | .list ds, .int i => ∃ r, atI ds i = some r ∧ G r
  | .str z, .int i => z.length ≤ sizeLine ∧ ∃ c, atI z.cps.toList i = some c ∧ G (.str ⟨#[c]⟩)
  | _, _ => False
theorem dpAll_atI {M : List Addr} {H : Hp} {vs : List V} {ds : List PyData} {i : Int} {r : PyData} (h : DpAll K (imm M H) vs ds) (e : atI ds i = some r) : ∃ v, atI vs i = some v ∧ Dp K (imm M H) v r := by
  unfold atI at e ⊢
  rw [dpAll_len h]
  cases hn : ixN ds.length i with
  | none => rw [hn] at e; cases e
  | some j =>
    rw [hn] at e
    exact dpAll_at' h e
instance opdIx : OpD K (mIx K) dIx := ⟨fun {M H x y d e Q G} m hx hy h q => by
  unfold dIx at h
  split at h
  · obtain ⟨r, e, g⟩ := h
    cases hy
    cases hx with
    | tup a b =>
      obtain ⟨v, e1, e2⟩ := dpAll_atI b e
      exact ⟨_, v, .inr (sqT_same (imm_sub _ _) a), e1, q _ _ _ g (.refl _) e2⟩
  · obtain ⟨r, e, g⟩ := h
    cases hy
    cases hx with
    | lst a b =>
      obtain ⟨v, e1, e2⟩ := dpAll_atI b e
      exact ⟨_, v, .inl (sqL_same (imm_sub _ _) a), e1, q _ _ _ g (.refl _) e2⟩
  · obtain ⟨h1, c, e, g⟩ := h
    cases hx; cases hy
    exact ⟨h1, c, e, q _ _ _ g (.refl _) (.str _)⟩
  · exact h.elim⟩
def dCatT : PyData → PyData → (PyData → Prop) → Prop := fun d e G => match d, e with
  | .tuple ds, .tuple es => ds ≠ [] ∧ es ≠ [] ∧ ds.length + es.length ≤ sizeLine ∧ G (.tuple (ds ++ es))
  | _, _ => False
theorem new_imm {M : List Addr} {H : Hp} {p : Addr} {o : HO} (m : MutOk M H) (np : H p = none) (t : visO o = true) : imm M (upd H p o) p = some o :=
  imm_of (fun z => by obtain ⟨xs, e⟩ := m p z; rw [np] at e; cases e) upd_same t
instance opdCatT : OpD K (mCatT K) dCatT := ⟨fun {M H x y d e Q G} m hx hy h q => by
  unfold dCatT at h
  split at h
  · obtain ⟨h1, h2, h3, g⟩ := h
    cases hx with
    | tup a b =>
      cases hy with
      | tup a' b' =>
        refine ⟨_, _, sqT_same (imm_sub _ _) a, sqT_same (imm_sub _ _) a', fun z => h1 (by rw [z] at b; cases b; rfl), fun z => h2 (by rw [z] at b'; cases b'; rfl), by rw [dpAll_len b, dpAll_len b']; exact h3, fun p np => ?_⟩
        exact q _ _ _ g (same_upd np) (.tup (.inl (.inl (new_imm m np rfl))) (Dp.monoAll (Fr.of (same_upd np)) _ _ (dpAll_app b b')))
  · exact h.elim⟩
/-! ### -x -/
def aNeg (ae : AE) : AE := fun δ G => ae δ fun d δ1 => match d with
  | .int i => G (.int (-i)) δ1
  | _ => False
instance simNeg {te : TE} {ae : AE} [h1 : SimE K T te ae] : SimE K T (tUn mNeg te) (aNeg ae) := ⟨fun S h q => h1.run S h fun v M1 H1 d δ1 g1 f1 S1 w1 => by
  split at g1
  · cases w1
    exact q _ _ _ _ _ g1 f1 S1 (.int _)
  · exact g1.elim⟩
/-! ### built-ins -/
def dLen : List PyData → (PyData → Prop) → Prop := fun ds G => match ds with
  | [.str z] => z.length ≤ sizeLine ∧ G (.int z.length)
  | [.list es] => G (.int es.length)
  | [.tuple es] => G (.int es.length)
  | _ => False
instance cbdLen : CbD K (mLen K) dLen := ⟨fun {M H vs ds Q G} m h g q => by
  unfold dLen at g
  split at g
  · cases h with
    | cons a b => cases a; cases b; exact ⟨g.1, q _ _ _ g.2 (.refl _) (.int _)⟩
  · cases h with
    | cons a b =>
      cases b
      cases a with
      | lst x y => exact ⟨_, .inl (sqL_same (imm_sub _ _) x), by rw [dpAll_len y]; exact q _ _ _ g (.refl _) (.int _)⟩
  · cases h with
    | cons a b =>
      cases b
      cases a with
      | tup x y => exact ⟨_, .inr (sqT_same (imm_sub _ _) x), by rw [dpAll_len y]; exact q _ _ _ g (.refl _) (.int _)⟩
  · exact g.elim⟩
def dRepr : List PyData → (PyData → Prop) → Prop := fun ds G => match ds with
  | [d] => Shows d ∧ G (.str d.shown)
  | _ => False
instance cbdRepr : CbD K (rRepr K) dRepr := ⟨fun {M H vs ds Q G} m h g q => by
  unfold dRepr at g
  split at g
  · cases h with
    | cons a b => cases b; exact ⟨_, Dp.mono (imm_sub _ _) _ _ a, g.1, q _ _ _ g.2 (.refl _) (.str _)⟩
  · exact g.elim⟩
def dInt1 : List PyData → (PyData → Prop) → Prop := fun ds G => match ds with
  | [.int i] => G (.int i)
  | _ => False
instance cbdInt1 : CbD K mInt1 dInt1 := ⟨fun {M H vs ds Q G} m h g q => by
  unfold dInt1 at g
  split at g
  · cases h with
    | cons a b => cases a; cases b; exact q _ _ _ g (.refl _) (.int _)
  · exact g.elim⟩
def dTupOf : List PyData → (PyData → Prop) → Prop := fun ds G => match ds with
  | [.list es] => G (.tuple es)
  | _ => False
instance cbdTupOf : CbD K (mTupOf K) dTupOf := ⟨fun {M H vs ds Q G} m h g q => by
  unfold dTupOf at g
  split at g
  · cases h with
    | cons a b =>
      cases b
      cases a with
      | lst x y => exact ⟨_, sqL_same (imm_sub _ _) x, fun l nl => q _ _ _ g (same_upd nl) (.tup (.inl (.inl (new_imm m nl rfl))) (Dp.monoAll (Fr.of (same_upd nl)) _ _ y))⟩
  · exact g.elim⟩
/-- list(x): a new list -/
def alListOf (aa : AA) : AA := fun δ G => aa δ fun ds δ1 => match ds with
  | [.list es] => G es δ1
  | [.tuple es] => G es δ1
  | _ => False
instance simListOf {ta : TA} {aa : AA} [h1 : SimA K T ta aa] : SimL K T (tCB (mListOf K) ta) (alListOf aa) := ⟨fun S h q => h1.run S h fun vs M1 H1 ds δ1 g1 f1 S1 w1 => by
  split at g1
  · cases w1 with
    | cons a b =>
      cases b
      cases a with
      | lst x y =>
        refine ⟨_, .inl (sqL_same (imm_sub _ _) x), fun l nl => ?_⟩
        obtain ⟨ok, nB, fr, S2⟩ := S1.enter _ nl
        exact q _ _ _ _ _ _ g1 (f1.trans fr) S2 (Dp.monoAll fr _ _ y) ok nB
  · cases w1 with
    | cons a b =>
      cases b
      cases a with
      | tup x y =>
        refine ⟨_, .inr (sqT_same (imm_sub _ _) x), fun l nl => ?_⟩
        obtain ⟨ok, nB, fr, S2⟩ := S1.enter _ nl
        exact q _ _ _ _ _ _ g1 (f1.trans fr) S2 (Dp.monoAll fr _ _ y) ok nB
  · exact g1.elim⟩
/-! ### slices -/
abbrev AO := List SD → (Option Int → List SD → Prop) → Prop
class SimO (K : PySem.W.Frag) (T : List (Addr × Str)) (to_ : TO) (ao : outParam AO) : Prop where
  run : ∀ {B : Bas} {M : List Addr} {δ : List SD} {σ : L2.St} {H : Hp} {Q : Option Int → Hp → Prop} {G : Option Int → List SD → Prop}, Sta K T B M δ σ H → ao δ G →
    (∀ (x : Option Int) (M' : List Addr) (H' : Hp) (δ' : List SD), G x δ' → Fr M H M' H' → Sta K T B M' δ' σ H' → Q x H') → to_ σ H Q
def aoNo : AO := fun δ G => G none δ
instance simNoPart : SimO K T tNoPart aoNo := ⟨fun S h q => q _ _ _ _ h Fr.refl S⟩
def aoPart (ae : AE) : AO := fun δ G => ae δ fun d δ1 => match d with
  | .int i => G (some i) δ1
  | _ => False
instance simPart {te : TE} {ae : AE} [h1 : SimE K T te ae] : SimO K T (mPart te) (aoPart ae) := ⟨fun S h q => h1.run S h fun v M1 H1 d δ1 g1 f1 S1 w1 => by
  split at g1
  · cases w1
    exact q _ _ _ _ g1 f1 S1
  · exact g1.elim⟩
def cutD (ds : List PyData) (lo hi : Option Int) : List PyData := (ds.drop (HT.sIx ds.length 0 lo)).take (HT.sIx ds.length ds.length hi - HT.sIx ds.length 0 lo)
theorem dpAll_cut {M : List Addr} {H : Hp} {vs : List V} {ds : List PyData} (lo hi : Option Int) (h : DpAll K (imm M H) vs ds) : DpAll K (imm M H) (cutV vs lo hi) (cutD ds lo hi) := by
  unfold cutV cutD
  rw [dpAll_len h]
  exact dpAll_take _ (dpAll_drop _ h)
def aSl (ae : AE) (al ah : AO) : AE := fun δ G => ae δ fun d δ1 => al δ1 fun l δ2 => ah δ2 fun u δ3 => match d with
  | .str z => z.length ≤ sizeLine ∧ G (.str (cutS z l u)) δ3
  | .list ds => G (.list (cutD ds l u)) δ3
  | _ => False
instance simSl {te : TE} {tl th : TO} {ae : AE} {al ah : AO} [h1 : SimE K T te ae] [h2 : SimO K T tl al] [h3 : SimO K T th ah] : SimE K T (L2.tSl (mSl K) te tl th) (aSl ae al ah) := ⟨fun S h q =>
  h1.run S h fun v M1 H1 d δ1 g1 f1 S1 w1 => h2.run S1 g1 fun l M2 H2 δ2 g2 f2 S2 => h3.run S2 g2 fun u M3 H3 δ3 g3 f3 S3 => by
    split at g3
    · cases w1
      exact ⟨g3.1, q _ _ _ _ _ g3.2 ((f1.trans f2).trans f3) S3 (.str _)⟩
    · cases w1 with
      | lst a b =>
        refine ⟨_, sqL_same (imm_sub _ _) (sqL_same (f2.trans f3) a), fun p np => ?_⟩
        exact q _ _ _ _ _ g3 (((f1.trans f2).trans f3).trans (Fr.of (same_upd np))) (S3.same (same_upd np)) (.lst (.inl (.inl (new_imm S3.mu np rfl))) (Dp.monoAll (Fr.of (same_upd np)) _ _ (dpAll_cut _ _ (Dp.monoAll (f2.trans f3) _ _ b))))
    · exact g3.elim⟩
/-! ### chains, value forms of and, or, not -/
def aChain (o o' : PyData → PyData → (PyData → Prop) → Prop) (a b c : AE) : AE := fun δ G => a δ fun d δ1 => b δ1 fun e δ2 => o d e fun r => match r with
  | .bool k => if k = true then c δ2 fun f δ3 => o' e f fun r' => G r' δ3 else G (.bool false) δ2
  | _ => False
instance simChain {r r' : R2} {o o' : PyData → PyData → (PyData → Prop) → Prop} {ta tb tc : TE} {a b c : AE} [ho : OpD K r o] [ho' : OpD K r' o'] [h1 : SimE K T ta a] [h2 : SimE K T tb b] [h3 : SimE K T tc c] : SimE K T (tChain r r' ta tb tc) (aChain o o' a b c) := ⟨fun S h q =>
  h1.run S h fun x M1 H1 d δ1 g1 f1 S1 w1 => h2.run S1 g1 fun y M2 H2 e δ2 g2 f2 S2 w2 => ho.run S2.mu (Dp.mono f2 _ _ w1) w2 g2 fun v H3 r0 g3 s3 w3 => by
    have S3 := S2.same s3
    have f123 := (f1.trans f2).trans (Fr.of s3)
    split at g3
    · rename_i k
      cases w3
      refine ⟨k, rfl, ?_⟩
      cases k with
      | false => exact q _ _ _ _ _ g3 f123 S3 (.bl _)
      | true => exact h3.run S3 g3 fun z M4 H4 f δ4 g4 f4 S4 w4 => ho'.run S4.mu (Dp.mono ((Fr.of s3).trans f4) _ _ w2) w4 g4 fun v5 H5 r5 g5 s5 w5 => q _ _ _ _ _ g5 ((f123.trans f4).trans (Fr.of s5)) (S4.same s5) w5
    · exact g3.elim⟩
def aTest (ae : AE) : AT := fun δ G => ae δ fun d δ1 => match d with
  | .bool b => G b δ1
  | _ => False
instance simTest {te : TE} {ae : AE} [h1 : SimE K T te ae] : SimT K T (tTest te) (aTest ae) := ⟨fun S h q => h1.run S h fun v M1 H1 d δ1 g1 f1 S1 w1 => by
  split at g1
  · cases w1
    exact ⟨_, rfl, q _ _ _ _ g1 f1 S1⟩
  · exact g1.elim⟩
def aAndV (a b : AE) : AE := fun δ G => a δ fun d δ1 => match d with
  | .bool k => if k = true then b δ1 G else G (.bool false) δ1
  | _ => False
def aOrV (a b : AE) : AE := fun δ G => a δ fun d δ1 => match d with
  | .bool k => if k = true then G (.bool true) δ1 else b δ1 G
  | _ => False
def aNotV (a : AE) : AE := fun δ G => a δ fun d δ1 => match d with
  | .bool k => G (.bool (!k)) δ1
  | _ => False
instance simAndV {ta tb : TE} {a b : AE} [h1 : SimE K T ta a] [h2 : SimE K T tb b] : SimE K T (tAndV ta tb) (aAndV a b) := ⟨fun S h q => h1.run S h fun v M1 H1 d δ1 g1 f1 S1 w1 => by
  split at g1
  · rename_i k
    cases w1
    refine ⟨k, rfl, ?_⟩
    cases k with
    | true => exact h2.run S1 g1 fun v M2 H2 d δ2 g2 f2 S2 w2 => q _ _ _ _ _ g2 (f1.trans f2) S2 w2
    | false => exact q _ _ _ _ _ g1 f1 S1 (.bl _)
  · exact g1.elim⟩
instance simOrV {ta tb : TE} {a b : AE} [h1 : SimE K T ta a] [h2 : SimE K T tb b] : SimE K T (tOrV ta tb) (aOrV a b) := ⟨fun S h q => h1.run S h fun v M1 H1 d δ1 g1 f1 S1 w1 => by
  split at g1
  · rename_i k
    cases w1
    refine ⟨k, rfl, ?_⟩
    cases k with
    | false => exact h2.run S1 g1 fun v M2 H2 d δ2 g2 f2 S2 w2 => q _ _ _ _ _ g2 (f1.trans f2) S2 w2
    | true => exact q _ _ _ _ _ g1 f1 S1 (.bl _)
  · exact g1.elim⟩
instance simNotV {ta : TE} {a : AE} [h1 : SimE K T ta a] : SimE K T (tNotV ta) (aNotV a) := ⟨fun S h q => h1.run S h fun v M1 H1 d δ1 g1 f1 S1 w1 => by
  split at g1
  · rename_i k
    cases w1
    exact ⟨k, rfl, q _ _ _ _ _ g1 f1 S1 (.bl _)⟩
  · exact g1.elim⟩
/-! ### methods of texts -/
class MtD (K : PySem.W.Frag) (r : V → List V → Hp → VK → Prop) (o : outParam (Str → List PyData → (PyData → Prop) → Prop)) : Prop where
  run : ∀ {M : List Addr} {H : Hp} {z : Str} {vs : List V} {ds : List PyData} {Q : VK} {G : PyData → Prop}, MutOk M H → DpAll K (imm M H) vs ds → o z ds G →
    (∀ (v : V) (H' : Hp) (r' : PyData), G r' → Same H H' → Dp K (imm M H') v r' → Q v H') → r (.str z) vs H Q
def aM0 (o : Str → List PyData → (PyData → Prop) → Prop) (ae : AE) : AE := fun δ G => ae δ fun d δ1 => match d with
  | .str z => o z [] fun r => G r δ1
  | _ => False
instance simM0 {r : V → List V → Hp → VK → Prop} {o : Str → List PyData → (PyData → Prop) → Prop} {te : TE} {ae : AE} [ho : MtD K r o] [h1 : SimE K T te ae] : SimE K T (tM0 r te) (aM0 o ae) := ⟨fun S h q => h1.run S h fun v M1 H1 d δ1 g1 f1 S1 w1 => by
  split at g1
  · cases w1
    exact ⟨⟨_, rfl⟩, ho.run S1.mu .nil g1 fun v H3 r' g3 s3 w3 => q _ _ _ _ _ g3 (f1.trans (Fr.of s3)) (S1.same s3) w3⟩
  · exact g1.elim⟩
def aM1 (o : Str → List PyData → (PyData → Prop) → Prop) (ae ax : AE) : AE := fun δ G => ae δ fun d δ1 => match d with
  | .str z => ax δ1 fun e δ2 => o z [e] fun r => G r δ2
  | _ => False
instance simM1 {r : V → List V → Hp → VK → Prop} {o : Str → List PyData → (PyData → Prop) → Prop} {te tx : TE} {ae ax : AE} [ho : MtD K r o] [h1 : SimE K T te ae] [h2 : SimE K T tx ax] : SimE K T (tM1 r te tx) (aM1 o ae ax) := ⟨fun S h q => h1.run S h fun v M1 H1 d δ1 g1 f1 S1 w1 => by
  split at g1
  · cases w1
    exact ⟨⟨_, rfl⟩, h2.run S1 g1 fun y M2 H2 e δ2 g2 f2 S2 w2 => ho.run S2.mu (.cons w2 .nil) g2 fun v H3 r' g3 s3 w3 => q _ _ _ _ _ g3 ((f1.trans f2).trans (Fr.of s3)) (S2.same s3) w3⟩
  · exact g1.elim⟩
end
end Xia

set_option Elab.async false
set_option linter.all false
set_option maxRecDepth 100000
set_option maxHeartbeats 4000000
set_option autoImplicit false
/-! Own: the promises of defs at the level of data; the law's start. -/
namespace Xia
open PySem PySem.Spec PyProof.Rows L2 SX LamX
section
variable {K : PySem.W.Frag} {T : List (Addr × Str)}
theorem dp_trd {M : List Addr} {H : Hp} {v : V} {zs : List Str} {e : Str} (h : Dp K (imm M H) v (treadD zs e)) : ∃ t, v = .ref t ∧ TreadAt K H t zs e := TreadAt.of_dp (Dp.mono (imm_sub _ _) _ _ h)
theorem dp_rowT {M : List Addr} {H : Hp} {v : V} {zs : List Str} (h : Dp K (imm M H) v (.tuple (zs.map .str))) : ∃ t, v = .ref t ∧ SqT K H t (zs.map V.str) := by
  cases h with
  | tup a b =>
    rw [dpAll_strs b] at a
    exact ⟨_, rfl, sqT_same (imm_sub _ _) a⟩
theorem dp_rowL {M : List Addr} {H : Hp} {v : V} {zs : List Str} (h : Dp K (imm M H) v (.list (zs.map .str))) : ∃ t, v = .ref t ∧ SqL K H t (zs.map V.str) := by
  cases h with
  | lst a b =>
    rw [dpAll_strs b] at a
    exact ⟨_, rfl, sqL_same (imm_sub _ _) a⟩
theorem dp_str {M : List Addr} {H : Hp} {v : V} {z : Str} (h : Dp K (imm M H) v (.str z)) : v = .str z := by cases h; rfl
theorem dp_int {M : List Addr} {H : Hp} {v : V} {i : Int} (h : Dp K (imm M H) v (.int i)) : v = .int i := by cases h; rfl
theorem dp1 {M : List Addr} {H : Hp} {vs : List V} {d : PyData} (h : DpAll K (imm M H) vs [d]) : ∃ v, vs = [v] ∧ Dp K (imm M H) v d := by
  cases h with
  | cons a b => cases b; exact ⟨_, rfl, a⟩
theorem dp2 {M : List Addr} {H : Hp} {vs : List V} {d e : PyData} (h : DpAll K (imm M H) vs [d, e]) : ∃ v u, vs = [v, u] ∧ Dp K (imm M H) v d ∧ Dp K (imm M H) u e := by
  cases h with
  | cons a b => cases b with
    | cons b c => cases c; exact ⟨_, _, rfl, a, b⟩
theorem dp3 {M : List Addr} {H : Hp} {vs : List V} {d e f : PyData} (h : DpAll K (imm M H) vs [d, e, f]) : ∃ v u w, vs = [v, u, w] ∧ Dp K (imm M H) v d ∧ Dp K (imm M H) u e ∧ Dp K (imm M H) w f := by
  cases h with
  | cons a b => cases b with
    | cons b c => cases c with
      | cons c g => cases g; exact ⟨_, _, _, rfl, a, b, c⟩
/-! ### words -/
def dMirror : List PyData → (PyData → Prop) → Prop := fun ds G => ∃ u, ds = [.str (S u)] ∧ IsL u ∧ u.length ≤ 100000 ∧ G (.str (S (mir u)))
instance fnMirror : FnD K spMirror dMirror := ⟨fun {M H vs ds Q E G} m h g q => by
  obtain ⟨u, rfl, h1, h2, g⟩ := g
  obtain ⟨v, rfl, w⟩ := dp1 h
  cases dp_str w
  exact ⟨u, rfl, h1, h2, fun H' s => q _ _ _ g s (.str _)⟩⟩
instance fnTurn : FnD K spTurn dMirror := ⟨fun {M H vs ds Q E G} m h g q => by
  obtain ⟨u, rfl, h1, h2, g⟩ := g
  obtain ⟨v, rfl, w⟩ := dp1 h
  cases dp_str w
  exact ⟨u, rfl, h1, Nat.le_trans h2 (by decide), q _ _ _ g (.refl _) (.str _)⟩⟩
def dOther : List PyData → (PyData → Prop) → Prop := fun ds G => ∃ c, ds = [.str (S [c])] ∧ c ∈ letC ∧ G (.str (S [oth c]))
instance fnOther : FnD K spOther dOther := ⟨fun {M H vs ds Q E G} m h g q => by
  obtain ⟨u, rfl, h1, g⟩ := g
  obtain ⟨v, rfl, w⟩ := dp1 h
  cases dp_str w
  exact ⟨u, rfl, h1, q _ _ _ g (.refl _) (.str _)⟩⟩
def dFollow : List PyData → (PyData → Prop) → Prop := fun ds G => ∃ u v, ds = [.str (S u), .str (S v)] ∧ IsL v ∧ u.length + v.length ≤ 1000000 ∧ G (.str (S (fol u v)))
instance fnFollow : FnD K spFollow dFollow := ⟨fun {M H vs ds Q E G} m h g q => by
  obtain ⟨u, v, rfl, h1, h2, g⟩ := g
  obtain ⟨x, y, rfl, w1, w2⟩ := dp2 h
  cases dp_str w1
  cases dp_str w2
  exact ⟨u, v, rfl, rfl, h1, h2, q _ _ _ g (.refl _) (.str _)⟩⟩
def dOrd : List PyData → (PyData → Prop) → Prop := fun ds G => ∃ zs : List Str, (ds = [.list (zs.map .str)] ∨ ds = [.tuple (zs.map .str)]) ∧ zs.length ≤ 1200 ∧ (∀ z ∈ zs, z.length ≤ 100000) ∧ G (.tuple ((ordS zs).map .str))
instance fnOrd : FnD K (spOrd K) dOrd := ⟨fun {M H vs ds Q E G} m h g q => by
  obtain ⟨zs, h0, h1, h2, g⟩ := g
  have fin : ∀ l, TxtAt K H l zs → spOrd K [.ref l] H Q E := fun l hl => ⟨l, zs, rfl, hl, h1, h2, fun p H' s np hp => q _ _ _ g s (dp_tup_imm (m.same s) (.inl (.inl hp)))⟩
  rcases h0 with rfl | rfl
  · obtain ⟨v, rfl, w⟩ := dp1 h
    obtain ⟨t, rfl, ht⟩ := dp_rowL w
    exact fin t (.inl ht)
  · obtain ⟨v, rfl, w⟩ := dp1 h
    obtain ⟨t, rfl, ht⟩ := dp_rowT w
    exact fin t (.inr ht)⟩
def dWalked : List PyData → (PyData → Prop) → Prop := fun ds G => ∃ u, ds = [.str (S u)] ∧ IsL u ∧ u.length ≤ 1100 ∧ G (treadD (plc u) (S (fol [] u)))
instance fnWalked : FnD K (spWalked K) dWalked := ⟨fun {M H vs ds Q E G} m h g q => by
  obtain ⟨u, rfl, h1, h2, g⟩ := g
  obtain ⟨v, rfl, w⟩ := dp1 h
  cases dp_str w
  exact ⟨u, rfl, h1, h2, fun t H' s nt ht => q _ _ _ g s (ht.imm (m.same s))⟩⟩
/-! ### treads -/
def dSeenFrom : List PyData → (PyData → Prop) → Prop := fun ds G => ∃ zs e pl, ds = [treadD zs (S e), .str (S pl)] ∧ Trd zs e ∧ S pl ∈ zs ∧ G (treadD (turnS zs pl) (S (fol (mir pl) e)))
instance fnSeenFrom : FnD K (spSeenFrom K) dSeenFrom := ⟨fun {M H vs ds Q E G} m h g q => by
  obtain ⟨zs, e, pl, rfl, h1, h2, g⟩ := g
  obtain ⟨x, y, rfl, w1, w2⟩ := dp2 h
  obtain ⟨t, rfl, ht⟩ := dp_trd w1
  cases dp_str w2
  exact ⟨t, zs, e, pl, rfl, rfl, ht, h1, h2, fun r H' s nr hr => q _ _ _ g s (hr.imm (m.same s))⟩⟩
def dShiftOf : List PyData → (PyData → Prop) → Prop := fun ds G => ∃ zs ys e f, ds = [treadD zs (S e), treadD ys (S f)] ∧ Trd zs e ∧ Trd ys f ∧ G (shiftD zs ys)
instance fnShiftOf : FnD K (spShiftOf K) dShiftOf := ⟨fun {M H vs ds Q E G} m h g q => by
  obtain ⟨zs, ys, e, f, rfl, h1, h2, g⟩ := g
  obtain ⟨x, y, rfl, w1, w2⟩ := dp2 h
  obtain ⟨t, rfl, ht⟩ := dp_trd w1
  obtain ⟨t2, rfl, ht2⟩ := dp_trd w2
  exact ⟨t, t2, zs, ys, e, f, rfl, rfl, h1, ht, h2, ht2, fun H' s => q _ _ _ g s (shift_dp zs ys)⟩⟩
def dShiftRight : List PyData → (PyData → Prop) → Prop := fun ds G => ∃ zs ys e f, ds = [treadD zs (S e), treadD ys (S f)] ∧ Trd zs e ∧ Trd ys f ∧ G (.bool true)
instance fnShiftRight : FnD K (spShiftRight K) dShiftRight := ⟨fun {M H vs ds Q E G} m h g q => by
  obtain ⟨zs, ys, e, f, rfl, h1, h2, g⟩ := g
  obtain ⟨x, y, rfl, w1, w2⟩ := dp2 h
  obtain ⟨t, rfl, ht⟩ := dp_trd w1
  obtain ⟨t2, rfl, ht2⟩ := dp_trd w2
  exact ⟨t, t2, zs, ys, e, f, rfl, rfl, h1, ht, h2, ht2, fun H' s => q _ _ _ g s (.bl true)⟩⟩
def dProduct : List PyData → (PyData → Prop) → Prop := fun ds G => ∃ zs ys e f, ds = [treadD zs (S e), treadD ys (S f)] ∧ Trd zs e ∧ Trd ys f ∧ (joinS zs e ys).length ≤ 201 ∧ G (treadD (joinS zs e ys) (S (fol e f)))
instance fnProduct (C : Addr) : FnD K (spProduct K C) dProduct := ⟨fun {M H vs ds Q E G} m h g q => by
  obtain ⟨zs, ys, e, f, rfl, h1, h2, h3, g⟩ := g
  obtain ⟨x, y, rfl, w1, w2⟩ := dp2 h
  obtain ⟨t, rfl, ht⟩ := dp_trd w1
  obtain ⟨t2, rfl, ht2⟩ := dp_trd w2
  exact ⟨t, t2, rfl, rfl, zs, ys, e, f, h1, ht, h2, ht2, .inl ⟨h3, fun r H' s nr hr => q _ _ _ g s (hr.imm (m.same s))⟩⟩⟩
def dTurned : List PyData → (PyData → Prop) → Prop := fun ds G => ∃ zs e, ds = [treadD zs (S e)] ∧ Trd zs e ∧ G (treadD (turnS zs e) (S (mir e)))
instance fnTurned : FnD K (spTurned K) dTurned := ⟨fun {M H vs ds Q E G} m h g q => by
  obtain ⟨zs, e, rfl, h1, g⟩ := g
  obtain ⟨x, rfl, w1⟩ := dp1 h
  obtain ⟨t, rfl, ht⟩ := dp_trd w1
  exact ⟨t, zs, e, rfl, h1, ht, fun r H' s nr hr => q _ _ _ g s (hr.imm (m.same s))⟩⟩
/-! ### the pen -/
def nTake : List PyData → Nat → (PyData → Nat → Prop) → Prop := fun ds n G => ∃ many : Int, ds = [.int many] ∧ n < 4000000000 ∧ 0 < many ∧ many < 1073741824 ∧ ∀ r : Int, 0 ≤ r → r < many → G (.int r) (n + 1)
theorem mut_q {M : List Addr} {H H' : Hp} {p : Addr} {m : Nat} (h : MutOk M H) (s : SamQ p H H') (hp : PenAt m H' p) : MutOk M H' := fun b hb => by
  by_cases c : b = p
  · subst c
    obtain ⟨c', cells', a', r', g1, _⟩ := hp.ex
    exact ⟨_, g1⟩
  · obtain ⟨xs, e⟩ := h b hb
    exact ⟨xs, s.st _ _ c e⟩
instance fnTake : FnN K spTake nTake := ⟨fun {M H p n vs ds Q E G} m hM hp h g q => by
  have hp := hp.at_ hM
  obtain ⟨many, rfl, h1, h2, h3, g⟩ := g
  obtain ⟨v, rfl, w⟩ := dp1 h
  cases dp_int w
  exact ⟨p, n, many, rfl, rfl, hp, h1, h2, h3, fun r H' r0 r1 s hp' => q _ _ _ _ (g r r0 r1) s hp' (mut_q m s hp') (.int r)⟩⟩
def nPick : List PyData → Nat → (PyData → Nat → Prop) → Prop := fun ds n G => n < 4000000000 ∧ match ds with
  | [.str z] => 0 < z.length ∧ z.length ≤ sizeLine ∧ ∀ c ∈ z.cps.toList, G (.str ⟨#[c]⟩) (n + 1)
  | [.list es] => es ≠ [] ∧ es.length ≤ sizeLine ∧ ∀ d ∈ es, G d (n + 1)
  | [.tuple es] => es ≠ [] ∧ es.length ≤ sizeLine ∧ ∀ d ∈ es, G d (n + 1)
  | _ => False
instance fnPick : FnN K (spPick K) nPick := ⟨fun {M H p n vs ds Q E G} m hM hp h g q => by
  have hp := hp.at_ hM
  obtain ⟨hn, g⟩ := g
  split at g
  · obtain ⟨v, rfl, w⟩ := dp1 h
    cases dp_str w
    exact ⟨p, n, rfl, hp, hn, g.1, g.2.1, fun c hc H' s hp' => q _ _ _ _ (g.2.2 c hc) s hp' (mut_q m s hp') (.str _)⟩
  · rename_i es
    obtain ⟨v, rfl, w⟩ := dp1 h
    cases w with
    | lst a b =>
      rename_i l xs
      refine ⟨p, n, rfl, hp, hn, xs, .inl (sqL_same (imm_sub _ _) a), ?_, fun z => g.1 (by rw [z] at b; cases b; rfl), by rw [dpAll_len b]; exact g.2.1, fun v hv H' s hp' => ?_⟩
      · by_cases c : l = p
        · subst c
          rcases a with (a | ⟨o, a⟩) | a
          · exact absurd hM (of_imm a).1
          · exact absurd hM (of_imm a).1
          · exact .inr (.inr fun H' => .inr a)
        · exact .inl c
      · obtain ⟨d, hd, wd⟩ := dpAll_mem b hv
        exact q _ _ _ _ (g.2.2 d hd) s hp' (mut_q m s hp') (Dp.mono (Fr.sp s.st hM) _ _ wd)
  · obtain ⟨v, rfl, w⟩ := dp1 h
    cases w with
    | tup a b =>
      rename_i l xs
      refine ⟨p, n, rfl, hp, hn, xs, .inr (sqT_same (imm_sub _ _) a), .inr (.inl (sqT_same (imm_sub _ _) a)), fun z => g.1 (by rw [z] at b; cases b; rfl), by rw [dpAll_len b]; exact g.2.1, fun v hv H' s hp' => ?_⟩
      obtain ⟨d, hd, wd⟩ := dpAll_mem b hv
      exact q _ _ _ _ (g.2.2 d hd) s hp' (mut_q m s hp') (Dp.mono (Fr.sp s.st hM) _ _ wd)
  · exact g.elim⟩
def nSigns : List PyData → Nat → (PyData → Nat → Prop) → Prop := fun ds n G => ds = [] ∧ n < 4000000000 ∧ ∀ u ∈ signsL, G (.str (S u)) (n + 1)
instance fnSigns : FnN K spSigns nSigns := ⟨fun {M H p n vs ds Q E G} m hM hp h g q => by
  have hp := hp.at_ hM
  obtain ⟨rfl, h1, g⟩ := g
  cases h
  exact ⟨p, n, rfl, hp, h1, fun u H' hu s hp' => q _ _ _ _ (g u hu) s hp' (mut_q m s hp') (.str _)⟩⟩
def nPath : List PyData → Nat → (PyData → Nat → Prop) → Prop := fun ds n G => ∃ (most : Nat) (sg : List Nat), ds = [.int most, .str (S sg)] ∧ n < 3000000000 ∧ most ≤ 1000 ∧ sg ≠ [] ∧ IsL sg ∧ sg.length ≤ 100 ∧
  ∀ u, IsL u → u.length ≤ most → G (.str (S u)) (n + 1 + 2 * most)
instance fnPath : FnN K spPath nPath := ⟨fun {M H p n vs ds Q E G} m hM hp h g q => by
  have hp := hp.at_ hM
  obtain ⟨most, sg, rfl, h1, h2, h3, h4, h5, g⟩ := g
  obtain ⟨x, y, rfl, w1, w2⟩ := dp2 h
  cases dp_int w1
  cases dp_str w2
  exact ⟨p, n, most, sg, rfl, rfl, rfl, hp, h1, h2, h3, h4, h5, fun u H' u1 u2 s hp' => q _ _ _ _ (g u u1 u2) s hp' (mut_q m s hp') (.str _)⟩⟩
def nAnyTread : List PyData → Nat → (PyData → Nat → Prop) → Prop := fun ds n G => ∃ (most : Nat) (sg : List Nat), ds = [.int most, .str (S sg)] ∧ n < 2000000000 ∧ most ≤ 100 ∧ sg ≠ [] ∧ IsL sg ∧ sg.length ≤ 100 ∧
  ∀ zs e, Trd zs e → zs.length ≤ most + 1 → G (treadD zs (S e)) (n + 4 + 2 * most)
instance fnAnyTread : FnN K (spAnyTread K) nAnyTread := ⟨fun {M H p n vs ds Q E G} m hM hp h g q => by
  have hp := hp.at_ hM
  obtain ⟨most, sg, rfl, h1, h2, h3, h4, h5, g⟩ := g
  obtain ⟨x, y, rfl, w1, w2⟩ := dp2 h
  cases dp_int w1
  cases dp_str w2
  exact ⟨p, n, most, sg, rfl, rfl, rfl, hp, h1, h2, h3, h4, h5, fun t zs e H' T l ht s hp' => q _ _ _ _ (g zs e T l) s hp' (mut_q m s hp') (ht.imm (mut_q m s hp'))⟩⟩
def nFar : List PyData → Nat → (PyData → Nat → Prop) → Prop := fun ds n G => ∃ many : Nat, ds = [.int many] ∧ n < 4000000000 ∧ many ≤ 6000 ∧ ∀ u, IsL u → isP u = true → u.length = many → G (.str (S u)) (n + 1)
instance fnFar : FnN K spFar nFar := ⟨fun {M H p n vs ds Q E G} m hM hp h g q => by
  have hp := hp.at_ hM
  obtain ⟨many, rfl, h1, h2, g⟩ := g
  obtain ⟨v, rfl, w⟩ := dp1 h
  cases dp_int w
  exact ⟨p, n, many, rfl, rfl, hp, h1, h2, fun u H' u1 u2 u3 s hp' => q _ _ _ _ (g u u1 u2 u3) s hp' (mut_q m s hp') (.str _)⟩⟩
/-! ### starts -/
/-- no claim about the heap -/
def Bas.any : Bas := ⟨fun _ => True, fun _ => True, fun _ => True, [], fun _ _ _ _ => trivial, fun _ _ _ _ _ => trivial, fun _ _ _ _ _ _ => trivial, fun _ _ _ _ => trivial, True, fun _ _ _ _ _ => trivial⟩
/-- the law: its pen is opened, then the rest -/
theorem law_go {rest : TS} {as_ : AS} [hs : SimS K T rest as_] {N : List Str} {a : Addr} {ns : List Int} {H : Hp} {Q : VK} (k : Nat) (hN : N.length = k + 2) (hS : SqL K H a (ns.map V.int)) (hl : ns.length ≤ 63) (tb : Tabs T H)
    (q : ∀ H', Q (.bl true) H') (g : as_ ⟨fun _ => False, fun d _ => d = .bool true, fun _ => False, fun _ => False⟩ (.no :: .pe 0 :: List.replicate k .no)) :
    tSeq (tAsg (tCall (spOpen K) [] E0 (tCons (tV 0) tNil)) (gName 1)) rest { nx := fun _ H' => Q .non H', rt := Q } (L2.start N [.ref a]) H := by
  have e0 : L2.start N [.ref a] = some (V.ref a) :: none :: List.replicate k none := by
    unfold L2.start
    rw [hN]
    show some (V.ref a) :: List.replicate (k + 1) none = _
    rw [List.replicate_succ]
  rw [e0]
  refine ⟨a, ns, rfl, hS, hl, fun p H1 s1 np hp1 => ?_⟩
  obtain ⟨c, cells, a', r', g1, g2, g3, g4⟩ := hp1.ex
  have S1 : Sta K T Bas.any [p] (.no :: .pe 0 :: List.replicate k .no) (some (V.ref a) :: some (V.ref p) :: List.replicate k none) H1 := by
    refine ⟨trivial, ⟨tb.same s1, fun _ => trivial⟩, fun b hb => ?_, fun b hb => (nomatch hb), by simp, fun i s h => ?_, fun i j s t ne h1 h2 m1 m2 => ?_⟩
    · rw [List.mem_singleton.mp hb]; exact ⟨_, g1⟩
    · match i, h with
      | 0, h => cases h; trivial
      | 1, h => cases h; exact ⟨p, rfl, List.mem_singleton.mpr rfl, trivial, c, cells, a', r', g1, g2, fun z => g3 (List.mem_singleton.mp z), g4⟩
      | i + 2, h =>
        have h : (List.replicate k SD.no)[i]? = some s := h
        rw [List.mem_replicate.mp (List.mem_of_getElem? h) |>.2]
        trivial
    · have only : ∀ (i : Nat) (s : SD), (SD.no :: .pe 0 :: List.replicate k .no)[i]? = some s → s.mut = true → i = 1 := fun i s h m => by
        match i, h with
        | 0, h => cases h; cases m
        | 1, h => rfl
        | i + 2, h =>
          have h : (List.replicate k SD.no)[i]? = some s := h
          rw [List.mem_replicate.mp (List.mem_of_getElem? h) |>.2] at m
          cases m
      exact absurd ((only i s h1 m1).trans (only j t h2 m2).symm) ne
  exact hs.run S1 g ⟨fun M' δ' σ' H' z _ _ => z.elim, fun v d M' δ' σ' H' z _ _ w => by
    have z : d = .bool true := z
    subst z
    cases w
    exact q H', fun M' δ' σ' H' z _ _ => z.elim, fun M' δ' σ' H' z _ _ => z.elim⟩
/-- what was there is there -/
def Bas.keep (H0 : Hp) (M0 : List Addr) : Bas where
  Rel H := Same H0 H
  ok l := H0 l = none
  okp _ := False
  hid := M0
  same _ _ h s := h.trans s
  upd _ _ _ h n := h.upd_new n
  pen _ _ _ _ n _ := n.elim
  fresh _ _ h n := h.free n
  lam := False
  ext k := k.elim
/-- all but the pen at p -/
def Bas.pen1 (H0 : Hp) (M0 : List Addr) (p : Addr) : Bas where
  Rel H := SamQ p H0 H ∧ ∃ (c : Addr) (a r : Int), H p = some (.lst [.ref c, .int a, .int r])
  ok l := H0 l = none ∧ l ≠ p
  okp q := q = p
  hid := M0
  same _ _ h s := ⟨h.1.trans (.of s), by
    obtain ⟨c, a, r, e⟩ := h.2
    exact ⟨c, a, r, s _ _ e⟩⟩
  upd H l o h n := ⟨⟨fun b u nb e => by
    rw [upd_ne (fun z => by rw [z, n.1] at e; cases e)]
    exact h.1.st b u nb e, fun c a r e => by
    obtain ⟨a', r', k⟩ := h.1.kp c a r e
    exact ⟨a', r', by rw [upd_ne (Ne.symm n.2)]; exact k⟩⟩, by
    obtain ⟨c, a, r, e⟩ := h.2
    exact ⟨c, a, r, by rw [upd_ne (Ne.symm n.2)]; exact e⟩⟩
  pen H H' q h e s := by
    obtain ⟨c, a, r, k⟩ := h.2
    subst e
    exact ⟨h.1.trans s, by
        obtain ⟨a', r', k'⟩ := s.kp c a r k
        exact ⟨c, a', r', k'⟩⟩
  fresh H l h n := by
    obtain ⟨c, a, r, k⟩ := h.2
    have ne : l ≠ p := fun z => by rw [z, k] at n; cases n
    refine ⟨?_, ne⟩
    cases e : H0 l with
    | none => rfl
    | some o =>
      rw [h.1.st l o ne e] at n
      cases n
  lam := False
  ext k := k.elim
/-- a def of data: as many arguments as told -/
def spD (K : PySem.W.Frag) (n : Nat) (o : List PyData → (PyData → Prop) → Prop) : Sp := fun vs H Q _ => ∃ (M : List Addr) (ds : List PyData) (G : PyData → Prop), ds.length = n ∧ MutOk M H ∧ DpAll K (imm M H) vs ds ∧ o ds G ∧
  ∀ (v : V) (H' : Hp) (r : PyData), G r → Same H H' → Dp K (imm M H') v r → Q v H'
theorem spD.len {n : Nat} {o : List PyData → (PyData → Prop) → Prop} {vs : List V} {H : Hp} {Q : VK} {E : XK} (h : spD K n o vs H Q E) : vs.length = n := by
  obtain ⟨M, ds, G, e, _, w, _⟩ := h
  rw [dpAll_len w, e]
def dLenIs (n : Nat) (o : List PyData → (PyData → Prop) → Prop) : List PyData → (PyData → Prop) → Prop := fun ds G => ds.length = n ∧ o ds G
instance fnSpD {n : Nat} {o : List PyData → (PyData → Prop) → Prop} : FnD K (spD K n o) (dLenIs n o) := ⟨fun {M H vs ds Q E G} m h g q => ⟨M, ds, G, g.1, m, h, g.2, q⟩⟩
/-- a def that gets the pen first -/
def spN (K : PySem.W.Frag) (n : Nat) (o : List PyData → Nat → (PyData → Nat → Prop) → Prop) : Sp := fun vs H Q _ => ∃ (M : List Addr) (p : Addr) (m : Nat) (us : List V) (ds : List PyData) (G : PyData → Nat → Prop), vs = .ref p :: us ∧ ds.length + 1 = n ∧ MutOk M H ∧ p ∈ M ∧ PenI m M H p ∧ DpAll K (imm M H) us ds ∧ o ds m G ∧
  ∀ (v : V) (H' : Hp) (r : PyData) (m' : Nat), G r m' → SamQ p H H' → PenAt m' H' p → MutOk M H' → Dp K (imm M H') v r → Q v H'
theorem spN.len {n : Nat} {o : List PyData → Nat → (PyData → Nat → Prop) → Prop} {vs : List V} {H : Hp} {Q : VK} {E : XK} (h : spN K n o vs H Q E) : vs.length = n := by
  obtain ⟨M, p, m, us, ds, G, rfl, e, _, _, _, w, _⟩ := h
  rw [List.length_cons, dpAll_len w, e]
def nLenIs (n : Nat) (o : List PyData → Nat → (PyData → Nat → Prop) → Prop) : List PyData → Nat → (PyData → Nat → Prop) → Prop := fun ds m G => ds.length + 1 = n ∧ o ds m G
instance fnSpN {n : Nat} {o : List PyData → Nat → (PyData → Nat → Prop) → Prop} : FnN K (spN K n o) (nLenIs n o) := ⟨fun {M H p m vs ds Q E G} mu hM hp h g q => ⟨M, p, m, vs, ds, G, rfl, g.1, mu, hM, hp, h, g.2, q⟩⟩
theorem start_split {n k : Nat} {N : List Str} {vs : List V} (hN : N.length = n + k) (hv : vs.length = n) : L2.start N vs = vs.map some ++ List.replicate k none := by
  unfold L2.start
  rw [hN, hv, Nat.add_sub_cancel_left]
/-- the start of a def of data -/
theorem go_pure {n : Nat} {o : List PyData → (PyData → Prop) → Prop} {ts : TS} {as_ : AS} [hs : SimS K [] ts as_] {N : List Str} {vs : List V} {H : Hp} {Q : VK} {E : XK} (k : Nat) (hN : N.length = n + k) (h : spD K n o vs H Q E)
    (g : ∀ (ds : List PyData) (G : PyData → Prop), ds.length = n → o ds G → as_ ⟨fun _ => G .none, fun d _ => G d, fun _ => False, fun _ => False⟩ (ds.map .da ++ List.replicate k .no)) :
    ts { nx := fun _ H' => Q .non H', rt := Q } (L2.start N vs) H := by
  have hv := spD.len h
  obtain ⟨M, ds, G, e, mu, w, ho, q⟩ := h
  rw [start_split hN hv]
  have S1 : Sta K [] (Bas.keep H M) M (ds.map .da ++ List.replicate k .no) (vs.map some ++ List.replicate k none) H := by
    refine ⟨Same.refl H, ⟨fun p hp => (nomatch hp), fun z => absurd rfl z⟩, mu, fun b hb => hb, by simp [hv, e], fun i s h => ?_, fun i j s t ne h1 h2 m1 m2 => ?_⟩
    · by_cases c : i < ds.length
      · rw [List.getElem?_append_left (by rw [List.length_map]; exact c), List.getElem?_map] at h
        obtain ⟨d, e1, rfl⟩ := Option.map_eq_some_iff.mp h
        obtain ⟨v, e2, wd⟩ := dpAll_at' w e1
        refine ⟨v, ?_, wd⟩
        rw [List.getElem?_append_left (by rw [List.length_map, hv, ← e]; exact c), List.getElem?_map, e2]
        rfl
      · rw [List.getElem?_append_right (by rw [List.length_map]; omega)] at h
        rw [(List.mem_replicate.mp (List.mem_of_getElem? h)).2]
        trivial
    · exfalso
      have := List.mem_of_getElem? h1
      rcases List.mem_append.mp this with h | h
      · obtain ⟨d, _, rfl⟩ := List.mem_map.mp h
        cases m1
      · rw [(List.mem_replicate.mp h).2] at m1
        cases m1
  have back : ∀ {M' : List Addr} {δ' : List SD} {σ' : L2.St} {H' : Hp}, Sta K [] (Bas.keep H M) M' δ' σ' H' → Fr M' H' M H' := fun S => Fr.sub S.hd
  exact hs.run S1 (g ds G e ho) ⟨fun M' δ' σ' H' z f S => q _ _ _ z S.rel .non, fun v d M' δ' σ' H' z f S w => q _ _ _ z S.rel (Dp.mono (back S) _ _ w), fun M' δ' σ' H' z _ _ => z.elim, fun M' δ' σ' H' z _ _ => z.elim⟩
/-- the start of a def that gets the pen first -/
theorem go_pen {n : Nat} {o : List PyData → Nat → (PyData → Nat → Prop) → Prop} {ts : TS} {as_ : AS} [hs : SimS K [] ts as_] {N : List Str} {vs : List V} {H : Hp} {Q : VK} {E : XK} (k : Nat) (hN : N.length = n + k) (h : spN K n o vs H Q E)
    (g : ∀ (ds : List PyData) (m : Nat) (G : PyData → Nat → Prop), ds.length + 1 = n → o ds m G → as_ ⟨fun δ => ∃ m', δ[0]? = some (.pe m') ∧ G .none m', fun d δ => ∃ m', δ[0]? = some (.pe m') ∧ G d m', fun _ => False, fun _ => False⟩ (.pe m :: (ds.map .da ++ List.replicate k .no))) :
    ts { nx := fun _ H' => Q .non H', rt := Q } (L2.start N vs) H := by
  have hv := spN.len h
  obtain ⟨M, p, m, us, ds, G, rfl, e, mu, hM, hp, w, ho, q⟩ := h
  rw [start_split hN hv]
  have hu : us.length = ds.length := dpAll_len w
  have S1 : Sta K [] (Bas.pen1 H M p) M (.pe m :: (ds.map .da ++ List.replicate k .no)) ((V.ref p :: us).map some ++ List.replicate k none) H := by
    obtain ⟨c0, cells0, a0, r0, g0, _⟩ := hp.ex
    have old : ∀ (i : Nat) (s : SD), (ds.map SD.da ++ List.replicate k .no)[i]? = some s → SlotOk K (Bas.pen1 H M p) M H ((us.map some ++ List.replicate k none)[i]?) s ∧ s.mut = false := fun i s h => by
      by_cases c : i < ds.length
      · rw [List.getElem?_append_left (by rw [List.length_map]; exact c), List.getElem?_map] at h
        obtain ⟨d, e1, rfl⟩ := Option.map_eq_some_iff.mp h
        obtain ⟨v, e2, wd⟩ := dpAll_at' w e1
        refine ⟨⟨v, ?_, wd⟩, rfl⟩
        rw [List.getElem?_append_left (by rw [List.length_map, hu]; exact c), List.getElem?_map, e2]
        rfl
      · rw [List.getElem?_append_right (by rw [List.length_map]; omega)] at h
        rw [(List.mem_replicate.mp (List.mem_of_getElem? h)).2]
        exact ⟨trivial, rfl⟩
    refine ⟨⟨SamQ.refl p H, c0, a0, r0, g0⟩, ⟨fun p hp => (nomatch hp), fun z => absurd rfl z⟩, mu, fun b hb => hb, by simp [hu], fun i s h => ?_, fun i j s t ne h1 h2 m1 m2 => ?_⟩
    · match i, h with
      | 0, h => cases h; exact ⟨p, rfl, hM, rfl, hp⟩
      | i + 1, h => exact (old i s h).1
    · have only : ∀ (i : Nat) (s : SD), (SD.pe m :: (ds.map SD.da ++ List.replicate k .no))[i]? = some s → s.mut = true → i = 0 := fun i s h mm => by
        match i, h with
        | 0, h => rfl
        | i + 1, h => rw [(old i s h).2] at mm; cases mm
      exact absurd ((only i s h1 m1).trans (only j t h2 m2).symm) ne
  have back : ∀ {M' : List Addr} {δ' : List SD} {σ' : L2.St} {H' : Hp}, Sta K [] (Bas.pen1 H M p) M' δ' σ' H' → Fr M' H' M H' := fun S => Fr.sub S.hd
  have hp0 : ∀ {M' : List Addr} {δ' : List SD} {H' : Hp} {m' : Nat} {σ' : L2.St}, Sta K [] (Bas.pen1 H M p) M' δ' σ' H' → δ'[0]? = some (.pe m') → PenAt m' H' p := fun S e0 => by
    obtain ⟨p', k1, k2, k3, k4⟩ := S.sl _ _ e0
    have k3 : p' = p := k3
    subst k3
    exact k4.at_ k2
  have mk : ∀ {M' : List Addr} {δ' : List SD} {σ' : L2.St} {H' : Hp}, Sta K [] (Bas.pen1 H M p) M' δ' σ' H' → MutOk M H' := fun S b hb => S.mu b (S.hd b hb)
  exact hs.run S1 (g ds m G e ho) ⟨fun M' δ' σ' H' z f S => by
    obtain ⟨m', e0, z⟩ := z
    exact q _ _ _ _ z S.rel.1 (hp0 S e0) (mk S) .non, fun v d M' δ' σ' H' z f S w => by
    obtain ⟨m', e0, z⟩ := z
    exact q _ _ _ _ z S.rel.1 (hp0 S e0) (mk S) (Dp.mono (back S) _ _ w), fun M' δ' σ' H' z _ _ => z.elim, fun M' δ' σ' H' z _ _ => z.elim⟩
end
end Xia

set_option Elab.async false
set_option linter.all false
set_option maxRecDepth 100000
set_option maxHeartbeats 4000000
set_option autoImplicit false
/-! Own: comprehensions that choose or change texts, at the level of data; rows of places. -/
namespace Xia
open PySem PySem.Spec PyProof.Rows L2 SX LamX
theorem lc_filterS {ai : AI} {at_ : AT} {i : Nat} {vs : List Nat} {δ : List SD} {G : List PyData → List SD → Prop} (zs : List Str) (p : Str → Bool) (δ1 : List SD) (small : zs.length ≤ sizeLine) (hw : wipeD δ1 vs = δ1)
    (ht : ∀ z ∈ zs, wipeD (δ1.set i (.da (.str z))) vs = δ1 ∧ (δ1.set i (.da (.str z)))[i]? = some (.da (.str z)) ∧ ∀ G' : Bool → List SD → Prop, G' (p z) (δ1.set i (.da (.str z))) → at_ (δ1.set i (.da (.str z))) G')
    (hi : ∀ G' : List PyData → List SD → Prop, G' (zs.map .str) δ1 → ai δ G') (g : G ((zs.filter p).map .str) δ1) : alLc ai (agName i) at_ (aV i) vs δ G := by
  refine hi _ ⟨fun j acc δ' => acc = ((zs.take j).filter p).map .str ∧ δ' = δ1, ⟨rfl, rfl⟩, ?_, by rw [List.length_map]; exact small, ?_⟩
  · rintro j x acc δ' hx _ _ ⟨rfl, rfl⟩
    rw [List.getElem?_map] at hx
    obtain ⟨z, hz, rfl⟩ := Option.map_eq_some_iff.mp hx
    obtain ⟨h1, h2, h3⟩ := ht z (List.mem_of_getElem? hz)
    show at_ ((wipeD δ' vs).set i _) _
    rw [hw]
    refine h3 _ ?_
    have e : zs.take (j + 1) = zs.take j ++ [z] := by rw [List.take_succ, hz]; rfl
    cases hp : p z with
    | true =>
      rw [if_pos rfl]
      unfold aV
      rw [h2]
      refine ⟨?_, h1⟩
      rw [e, List.filter_append, List.map_append]
      simp [hp]
    | false =>
      rw [if_neg Bool.false_ne_true]
      refine ⟨?_, h1⟩
      rw [e, List.filter_append, List.map_append]
      simp [hp]
  · rintro acc δ' _ ⟨rfl, rfl⟩
    rw [List.length_map, List.take_length]
    exact g
theorem lc_mapS {ai : AI} {ae : AE} {i : Nat} {vs : List Nat} {δ : List SD} {G : List PyData → List SD → Prop} (zs : List Str) (f : Str → PyData) (δ1 : List SD) (small : zs.length ≤ sizeLine) (hw : wipeD δ1 vs = δ1)
    (ht : ∀ z ∈ zs, wipeD (δ1.set i (.da (.str z))) vs = δ1 ∧ ∀ G' : PyData → List SD → Prop, G' (f z) (δ1.set i (.da (.str z))) → ae (δ1.set i (.da (.str z))) G')
    (hi : ∀ G' : List PyData → List SD → Prop, G' (zs.map .str) δ1 → ai δ G') (g : G (zs.map f) δ1) : alLc ai (agName i) aYes ae vs δ G := by
  refine hi _ ⟨fun j acc δ' => acc = (zs.take j).map f ∧ δ' = δ1, ⟨rfl, rfl⟩, ?_, by rw [List.length_map]; exact small, ?_⟩
  · rintro j x acc δ' hx _ _ ⟨rfl, rfl⟩
    rw [List.getElem?_map] at hx
    obtain ⟨z, hz, rfl⟩ := Option.map_eq_some_iff.mp hx
    obtain ⟨h1, h3⟩ := ht z (List.mem_of_getElem? hz)
    show ae ((wipeD δ' vs).set i _) _
    rw [hw]
    refine h3 _ ?_
    have e : zs.take (j + 1) = zs.take j ++ [z] := by rw [List.take_succ, hz]; rfl
    refine ⟨?_, h1⟩
    rw [e, List.map_append]
    rfl
  · rintro acc δ' _ ⟨rfl, rfl⟩
    rw [List.length_map, List.take_length]
    exact g
/-- an item of ints in a row -/
theorem intsD_at {lo : Int} {n i : Nat} {x : PyData} (h : (intsD lo n)[i]? = some x) : i < n ∧ x = .int (lo + (i : Nat)) := by
  unfold intsD at h
  rw [List.getElem?_map] at h
  obtain ⟨j, hj, rfl⟩ := Option.map_eq_some_iff.mp h
  obtain ⟨h1, h2⟩ := List.getElem?_eq_some_iff.mp hj
  rw [List.length_range] at h1
  rw [List.getElem_range] at h2
  exact ⟨h1, by rw [h2]⟩
theorem letters8 {c : Nat} (h : c ∈ ("abcdABCD" : Str).cps.toList) : c ∈ letC := by
  have e : ("abcdABCD" : Str).cps.toList = [97, 98, 99, 100, 65, 66, 67, 68] := by decide +kernel
  rw [e] at h
  revert h
  revert c
  decide
theorem shift_one {zs : List Str} {e p : List Nat} (T : Trd zs e) (hp : S p ∈ zs) : shiftD zs (turnS zs p) = .str (S p) := by
  have h1 : ∀ z ∈ shiftL zs zs (turnS zs p), z = S p := fun z hz => by
    obtain ⟨a, b⟩ := List.mem_filter.mp hz
    obtain ⟨w, rfl, _⟩ := T.pl z a
    have b : turnS zs w = turnS zs p := of_decide_eq_true b
    rw [turn_once T a hp b]
  have h2 : S p ∈ shiftL zs zs (turnS zs p) := List.mem_filter.mpr ⟨hp, decide_eq_true rfl⟩
  unfold shiftD
  cases hh : shiftL zs zs (turnS zs p) with
  | nil => rw [hh] at h2; cases h2
  | cons z r => rw [h1 z (by rw [hh]; exact List.mem_cons_self ..)]
/-! ### leaves -/
def kidsL (ms : List Str) (z : Str) : List Str := ms.filter fun y => !decide (y = z) && decide (S y.cps.toList.dropLast = z)
def leafL (ms : List Str) : List Str := ms.filter fun z => decide (kidsL ms z = [])
theorem leaf_some {ms : List Str} {e : List Nat} (T : Trd ms e) : leafL ms ≠ [] := by
  have ne : ms ≠ [] := List.ne_nil_of_mem T.en
  have hl : 0 < ms.length := List.length_pos_iff.mpr ne
  have hm : ms[ms.length - 1] ∈ ms := List.getElem_mem _
  refine List.ne_nil_of_mem (a := ms[ms.length - 1]) (List.mem_filter.mpr ⟨hm, decide_eq_true ?_⟩)
  refine List.eq_nil_iff_forall_not_mem.mpr fun y hy => ?_
  obtain ⟨a, b⟩ := List.mem_filter.mp hy
  rw [Bool.and_eq_true] at b
  obtain ⟨b1, b2⟩ := b
  have b1 : y ≠ ms[ms.length - 1] := fun z => by rw [decide_eq_true z] at b1; cases b1
  have b2 := of_decide_eq_true b2
  obtain ⟨j, hj, ej⟩ := List.getElem_of_mem a
  have le : leS y ms[ms.length - 1] := by
    rcases Nat.lt_trichotomy j (ms.length - 1) with c | c | c
    · rw [← ej]
      exact List.pairwise_iff_getElem.mp T.up j _ hj (by omega) c
    · subst c
      exact absurd ej.symm b1
    · omega
  obtain ⟨w, rfl, _⟩ := T.pl y a
  have wn : w ≠ [] := fun z => by
    subst z
    exact b1 b2
  have e2 := congrArg Str.length b2
  rw [show (S w).cps.toList = w from rfl, S_len, List.length_dropLast] at e2
  have wl : 0 < w.length := List.length_pos_iff.mpr wn
  rcases le with z | ⟨z, _⟩
  · rw [S_len] at z; omega
  · rw [S_len] at z; omega
def fewL (ms : List Str) (leaf : Str) : List Str := ms.filter fun z => !decide (z = leaf) || decide (leaf = ("" : Str))
theorem Trd.fewer {ms : List Str} {e : List Nat} {leaf : Str} (T : Trd ms e) (h : leaf ∈ leafL ms) : Trd (fewL ms leaf) [] := by
  have mem : ∀ z, z ∈ fewL ms leaf ↔ z ∈ ms ∧ (z ≠ leaf ∨ leaf = "") := fun z => by
    unfold fewL
    rw [List.mem_filter, Bool.or_eq_true]
    simp
  obtain ⟨l1, l2⟩ := List.mem_filter.mp h
  have l2 := of_decide_eq_true l2
  refine ⟨ordS_id (T.nodup.filter _) (T.up.filter _), fun z hz => T.pl z ((mem z).mp hz).1, fun w hw => (mem _).mpr ?_, Nat.le_trans (List.length_filter_le ..) T.few, (mem _).mpr ⟨T.nil_mem, ?_⟩⟩
  · obtain ⟨a, b⟩ := (mem _).mp hw
    refine ⟨T.cl w a, ?_⟩
    by_cases c : S w.dropLast = leaf
    · by_cases d : leaf = ""
      · exact .inr d
      · exfalso
        have : S w ∈ kidsL ms leaf := List.mem_filter.mpr ⟨a, by
          rw [Bool.and_eq_true]
          refine ⟨?_, decide_eq_true c⟩
          rcases b with b | b
          · rw [decide_eq_false b]; rfl
          · exact absurd b d⟩
        rw [l2] at this
        cases this
    · exact .inl c
  · by_cases c : S [] = leaf
    · exact .inr c.symm
    · exact .inl c
theorem Trd.more {zs : List Str} {e pl : List Nat} {c : Nat} (T : Trd zs e) (hp : S pl ∈ zs) (hc : c ∈ letC) (few : zs.length + 2 ≤ 201) : Trd (ordS (zs ++ [S (fol pl [c])])) e := by
  obtain ⟨p1, p2, p3⟩ := T.word hp
  have e0 : ordS (zs ++ [S (fol pl [c])]) = ordS (zs ++ stepsL pl [c]) := by
    refine ordS_congr fun z => ?_
    have e2 : stepsL pl [c] = [S pl, S (fol pl [c])] := rfl
    rw [e2, List.mem_append, List.mem_append]
    constructor
    · rintro (h | h)
      · exact .inl h
      · exact .inr (List.mem_cons_of_mem _ h)
    · rintro (h | h)
      · exact .inl h
      · rcases List.mem_cons.mp h with rfl | h
        · exact .inl hp
        · exact .inr h
  rw [e0]
  exact T.branch hp (.one hc) (by simpa using few)
theorem ne_same {z : Str} {P : Prop} (c : (true != decide (z = z)) = true) : P := by
  rw [decide_eq_true rfl] at c
  cases c
theorem shown_ne {x y : Str} {P : Prop} (e : x = y) (c : (true != decide (x = y)) = true) : P := by
  rw [decide_eq_true e] at c
  cases c
theorem ff_ne (b : Bool) : (false != b) = b := by cases b <;> rfl
theorem tt_ne (b : Bool) : (true != b) = !b := by cases b <;> rfl
theorem eqv_strL (zs ys : List Str) : PyData.eqv (.list (zs.map .str)) (.list (ys.map .str)) = decide (zs = ys) := eqvAll_strs zs ys
theorem eqv_strT (zs ys : List Str) : PyData.eqv (.tuple (zs.map .str)) (.tuple (ys.map .str)) = decide (zs = ys) := eqvAll_strs zs ys
theorem shaped_strL {zs : List Str} (h : ∀ z ∈ zs, Ls 200 z) (hl : zs.length ≤ 201) : SeqAt.shaped (.list (zs.map .str)) = true := (nice_list (k := 0) (n := 10 * 200 + 2) (m := 201) (fun d hd => by
  obtain ⟨z, hz1, rfl⟩ := List.mem_map.mp hd
  exact nice_str (h z hz1)) (by rw [List.length_map]; exact hl)).shaped (by decide)
theorem Trd.ls {zs : List Str} {e : List Nat} (T : Trd zs e) : ∀ z ∈ zs, Ls 200 z := fun z hz => by
  obtain ⟨w1, rfl, _⟩ := T.pl z hz
  have := T.word hz
  exact ⟨w1, rfl, this.1, this.2.2⟩
theorem shows_strL {zs : List Str} (h : ∀ z ∈ zs, Ls 200 z) (hl : zs.length ≤ 201) : Shows (.list (zs.map .str)) := (nice_list (k := 0) (n := 10 * 200 + 2) (m := 201) (fun d hd => by
  obtain ⟨z, hz1, rfl⟩ := List.mem_map.mp hd
  exact nice_str (h z hz1)) (by rw [List.length_map]; exact hl)).shows (by decide) (by decide)
/-- [one for one in ms if [two for two in ms if two != one and two[:-1] == one] == []] -/
theorem Trd.small {zs : List Str} {e : List Nat} (T : Trd zs e) : zs.length ≤ sizeLine := Nat.le_trans T.few (by rw [sizeLine_eq]; decide)
theorem Trd.strLen {zs : List Str} {e : List Nat} (T : Trd zs e) {z : Str} (h : z ∈ zs) : z.length ≤ 200 := by
  obtain ⟨w, rfl, _⟩ := T.pl z h
  rw [S_len]
  exact (T.word h).2.2
/-! ### one step into a reading -/
theorem s_setL {al : AA} {i : Nat} {rest : AS} {A : AEnds} {δ : List SD} (h : al δ fun ds δ1 => rest A (δ1.set i (.da (.list ds))) ∨ rest A (δ1.set i (.ac ds))) : aSeq (aSetL al i) rest A δ := h
theorem s_set {ae : AE} {i : Nat} {rest : AS} {A : AEnds} {δ : List SD} (h : ae δ fun d δ1 => rest A (δ1.set i (.da d))) : aSeq (aSet ae i) rest A δ := h
theorem s_if {a : AT} {x y rest : AS} {A : AEnds} {δ : List SD} (h : a δ fun c δ1 => if c = true then x { A with nx := rest A } δ1 else y { A with nx := rest A } δ1) : aSeq (aIfS a x y) rest A δ := h
theorem s_ret {ae : AE} {A : AEnds} {δ : List SD} (h : ae δ fun d δ1 => A.rt d δ1) : aRet ae A δ := h
theorem t_mt {ae : AE} {δ : List SD} {G : Bool → List SD → Prop} (h : ae δ fun d δ1 => match d with | .bool b => G b δ1 | _ => False) : aMT ae δ G := h
theorem e_op {o : PyData → PyData → (PyData → Prop) → Prop} {ax ay : AE} {δ : List SD} {G : PyData → List SD → Prop} (h : ax δ fun d δ1 => ay δ1 fun e δ2 => o d e fun r => G r δ2) : aOp o ax ay δ G := h
theorem e_l {al : AA} {δ : List SD} {G : PyData → List SD → Prop} (h : al δ fun ds δ' => G (.list ds) δ') : aL al δ G := h
theorem e_tup {aa : AA} {δ : List SD} {G : PyData → List SD → Prop} (h : aa δ fun ds δ1 => ds.length ≤ sizeLine ∧ G (.tuple ds) δ1) : aTup aa δ G := h
theorem e_cb {o : List PyData → (PyData → Prop) → Prop} {aa : AA} {δ : List SD} {G : PyData → List SD → Prop} (h : aa δ fun ds δ1 => o ds fun r => G r δ1) : aCB o aa δ G := h
theorem a_cons {ae : AE} {aa : AA} {δ : List SD} {G : List PyData → List SD → Prop} (h : ae δ fun d δ1 => aa δ1 fun ds δ2 => G (d :: ds) δ2) : aCons ae aa δ G := h
end Xia

set_option Elab.async false
set_option linter.all false
set_option maxRecDepth 100000
set_option maxHeartbeats 4000000
/-! Own: products, powers, orders: promises, and these at the level of data. -/
namespace Xia
open PySem PySem.Spec PyProof.Rows L2 SX LamX
/-- are all of ys among zs -/
def hasB (zs ys : List Str) : Bool := ys.all fun z => decide (z ∈ zs)
def sharL (zs ys : List Str) : List Str := zs.filter fun z => decide (z ∈ ys)
theorem setIn {P : Program} {w : World} {zs : List Str} {B : List (Str × V)} (sub : ∀ b, b ∈ B → b ∈ zs.map fun z => (z, V.str z)) (all : ∀ b, b ∈ (zs.map fun z => (z, V.str z)) → b.1 ∈ B.map (·.1)) (z : Str) : z ∈ B.map (·.1) ↔ z ∈ zs := by
  constructor
  · intro h
    obtain ⟨b, h1, rfl⟩ := List.mem_map.mp h
    obtain ⟨y, h2, h3⟩ := List.mem_map.mp (sub b h1)
    rw [← h3]
    exact h2
  · intro h
    exact all (z, V.str z) (List.mem_map.mpr ⟨_, h, rfl⟩)
theorem mem_strs {zs : List Str} {i : Nat} {x : V} (h : (zs.map V.str)[i]? = some x) : ∃ z, x = .str z ∧ z ∈ zs ∧ zs[i]? = some z := by
  rw [List.getElem?_map] at h
  obtain ⟨z, e1, rfl⟩ := Option.map_eq_some_iff.mp h
  exact ⟨z, rfl, List.mem_of_getElem? e1, e1⟩
theorem small2 {zs ys : List Str} {e f : List Nat} (T : Trd zs e) (U : Trd ys f) : ∀ z ∈ zs ++ ys, z.length ≤ 200 := fun z hz => by
  rcases List.mem_append.mp hz with h | h
  · obtain ⟨w1, rfl, _⟩ := T.pl z h
    rw [S_len]
    exact (T.word h).2.2
  · obtain ⟨w1, rfl, _⟩ := U.pl z h
    rw [S_len]
    exact (U.word h).2.2
theorem sharL_len (zs ys : List Str) : (sharL zs ys).length ≤ zs.length := List.length_filter_le ..
def missL (zs ys : List Str) : List Str := ys.filter fun z => !decide (z ∈ zs)
theorem missL_none (zs ys : List Str) : decide (missL zs ys = []) = hasB zs ys := by
  unfold missL hasB
  rw [Bool.eq_iff_iff, decide_eq_true_iff, List.filter_eq_nil_iff, List.all_eq_true]
  constructor
  · intro h z hz
    have := h z hz
    cases hh : decide (z ∈ zs) with
    | true => rfl
    | false => rw [hh] at this; exact absurd rfl this
  · intro h z hz
    rw [h z hz]
    decide
theorem missL_len (zs ys : List Str) : (missL zs ys).length ≤ ys.length := List.length_filter_le ..
theorem nice_strs {zs : List Str} (h : ∀ z ∈ zs, Ls 200 z) (hl : zs.length ≤ 201) : SeqAt.shaped (.list (zs.map .str)) = true := (nice_list (k := 0) (n := 10 * 200 + 2) (m := 201) (fun d hd => by
    obtain ⟨z, hz1, rfl⟩ := List.mem_map.mp hd
    exact nice_str (h z hz1)) (by rw [List.length_map]; omega)).shaped (by decide)
theorem trd_Ls {zs : List Str} {e : List Nat} (T : Trd zs e) : ∀ z ∈ zs, Ls 200 z := fun z hz => by
  obtain ⟨w1, rfl, _⟩ := T.pl z hz
  have := T.word hz
  exact ⟨w1, rfl, this.1, this.2.2⟩
def spHasAll (K : PySem.W.Frag) : Sp := Sp2 fun x y H Q E => ∃ (a b : Addr) (zs ys : List Str), x = .ref a ∧ y = .ref b ∧ SqT K H a (zs.map V.str) ∧ SqT K H b (ys.map V.str) ∧ zs.length ≤ 500 ∧ (∀ z ∈ zs ++ ys, z.length ≤ 200) ∧ ∀ H', Same H H' → Q (.bl (hasB zs ys)) H'
def spShared (K : PySem.W.Frag) : Sp := Sp2 fun x y H Q E => ∃ (a b : Addr) (zs ys : List Str), x = .ref a ∧ y = .ref b ∧ SqT K H a (zs.map V.str) ∧ SqT K H b (ys.map V.str) ∧ zs.length ≤ 500 ∧ ys.length ≤ 500 ∧ (∀ z ∈ zs ++ ys, z.length ≤ 200) ∧ ∀ p H', Same H H' → H p = none → H' p = some (.tup ((sharL zs ys).map V.str)) → Q (.ref p) H'
def TwoTr (K : PySem.W.Frag) (R : Addr → Addr → List Str → List Str → List Nat → List Nat → Hp → VK → XK → Prop) : V → V → Hp → VK → XK → Prop := fun x y H Q E => ∃ s t zs ys e f, x = .ref s ∧ y = .ref t ∧ Trd zs e ∧ TreadAt K H s zs (S e) ∧ Trd ys f ∧ TreadAt K H t ys (S f) ∧ R s t zs ys e f H Q E
def spTreadsAll (K : PySem.W.Frag) : Sp := Sp2 (TwoTr K fun _ _ zs ys e f H Q _ => ∀ H', Same H H' → Q (.bl (decide (e = f) && hasB zs ys)) H')
def spLeastOver (K : PySem.W.Frag) (C : Addr) : Sp := Sp2 (TwoTr K fun _ _ zs ys e f H Q E => (e ≠ f ∧ ∀ H', Same H H' → Q .non H') ∨ (e = f ∧ (ordS (zs ++ ys)).length ≤ 201 ∧ ∀ r H', Same H H' → H r = none → TreadAt K H' r (ordS (zs ++ ys)) (S e) → Q (.ref r) H') ∨ (e = f ∧ 201 < (ordS (zs ++ ys)).length ∧ ∀ H', Same H H' → E (.ref C) none H'))
def spCommon (K : PySem.W.Frag) : Sp := Sp2 (TwoTr K fun _ _ zs ys e f H Q _ => (e ≠ f ∧ ∀ H', Same H H' → Q .non H') ∨ (e = f ∧ ∀ r H', Same H H' → H r = none → TreadAt K H' r (sharL zs ys) (S e) → Q (.ref r) H'))
def spSpare (K : PySem.W.Frag) : Sp := Sp1 fun x H Q E => ∃ t zs e, x = .ref t ∧ Trd zs e ∧ TreadAt K H t zs (S e) ∧ ∀ r H', Same H H' → H r = none → TreadAt K H' r zs (S []) → Q (.ref r) H'
def spBegin : Sp := Sp1 fun x H Q E => ∃ u, x = .str (S u) ∧ u.length ≤ 1000 ∧ ∀ l H', Same H H' → H l = none → H' l = some (.lst ((begs u).map V.str)) → Q (.ref l) H'
/-- no integer: a truth, or of a type that is none -/
def NoInt (K : PySem.W.Frag) (H : Hp) (v : V) : Prop := ∃ t, TyX K H v (.type t) ∧ (PySem.W.kitOne K (.type t) (.type "bool") = some true ∨ (PySem.W.kitOne K (.type t) (.type "bool") = some false ∧ PySem.W.kitOne K (.type t) (.type "int") = some false))
def spIsWhole (K : PySem.W.Frag) : Sp := Sp3 fun x y z H Q E => ∃ lo hi : Int, y = .int lo ∧ z = .int hi ∧ ((∃ n : Int, x = .int n ∧ Q (.bl (decide (lo ≤ n) && decide (n ≤ hi))) H) ∨ (NoInt K H x ∧ Q (.bl false) H))
/-- the places and the end of m times (zs, e) -/
def powZ (zs : List Str) (e : List Nat) : Nat → List Str × List Nat
  | 0 => ([S []], [])
  | m + 1 => (joinS (powZ zs e m).1 (powZ zs e m).2 zs, fol (powZ zs e m).2 e)
def fits (zs : List Str) (e : List Nat) (m : Nat) : Prop := ∀ j, j ≤ m → (powZ zs e j).1.length ≤ 201
theorem trd_nil : Trd [S []] [] := ⟨by decide +kernel, fun z hz => ⟨[], List.mem_singleton.mp hz, .nil, rfl⟩, fun w h => by
    cases S_inj (List.mem_singleton.mp h)
    exact List.mem_singleton.mpr rfl, by show 1 ≤ 201; decide, List.mem_singleton.mpr rfl⟩
theorem trd_pow {zs : List Str} {e : List Nat} (T : Trd zs e) : ∀ m, fits zs e m → Trd (powZ zs e m).1 (powZ zs e m).2
  | 0, _ => trd_nil
  | m + 1, h => (trd_pow T m fun j hj => h j (by omega)).join T (h (m + 1) (Nat.le_refl _))
/-- the factor of a power -/
def facZ (zs : List Str) (e : List Nat) (n : Int) : List Str := if n < 0 then turnS zs e else zs
def facE (e : List Nat) (n : Int) : List Nat := if n < 0 then mir e else e
theorem trd_fac {zs : List Str} {e : List Nat} (T : Trd zs e) (n : Int) : Trd (facZ zs e n) (facE e n) := by
  unfold facZ facE
  by_cases h : n < 0
  · rw [if_pos h, if_pos h]
    exact T.turn
  · rw [if_neg h, if_neg h]
    exact T
def spPower (K : PySem.W.Frag) (C D : Addr) : Sp := Sp2 fun x y H Q E => ∃ t zs e, x = .ref t ∧ Trd zs e ∧ TreadAt K H t zs (S e) ∧
  ((∃ n : Int, y = .int n ∧ -20 ≤ n ∧ n ≤ 20 ∧ ((fits (facZ zs e n) (facE e n) n.natAbs ∧ ∀ r H', Same H H' → TreadAt K H' r (powZ (facZ zs e n) (facE e n) n.natAbs).1 (S (powZ (facZ zs e n) (facE e n) n.natAbs).2) → Q (.ref r) H') ∨ ((∃ j, j ≤ n.natAbs ∧ 201 < (powZ (facZ zs e n) (facE e n) j).1.length) ∧ ∀ H', Same H H' → E (.ref D) none H'))) ∨
    (((∃ n : Int, y = .int n ∧ ¬ (-20 ≤ n ∧ n ≤ 20)) ∨ ∀ H', Same H H' → NoInt K H' y) ∧ ∀ H', Same H H' → E (.ref C) none H'))
def powD (zs : List Str) (e : List Nat) (m : Nat) : PyData := if (powZ zs e m).1.length ≤ 201 then treadD (powZ zs e m).1 (S (powZ zs e m).2) else .str "great"
def spPowL (K : PySem.W.Frag) : Sp := Sp2 fun x y H Q E => ∃ t zs e, ∃ n : Int, x = .ref t ∧ y = .int n ∧ -20 ≤ n ∧ n ≤ 20 ∧ Trd zs e ∧ TreadAt K H t zs (S e) ∧
  ((fits (facZ zs e n) (facE e n) n.natAbs ∧ ∀ r H', Same H H' → TreadAt K H' r (powZ (facZ zs e n) (facE e n) n.natAbs).1 (S (powZ (facZ zs e n) (facE e n) n.natAbs).2) → Q (.ref r) H') ∨ ((∃ j, j ≤ n.natAbs ∧ 201 < (powZ (facZ zs e n) (facE e n) j).1.length) ∧ ∀ H', Same H H' → Q (.str "great") H'))
theorem emptyAt {K : PySem.W.Frag} {ea eb : Addr} {oa ob : Option Addr} {sa sb : Array (Option Value)} {t1 t2 : Tok} {n1 n2 : Nat} (h1 : K.lookup ea = some ⟨.type "tuple", oa, .seq #[.ref eb, .str "" t1] n1, sa⟩) (h2 : K.lookup eb = some ⟨.type "tuple", ob, .seq #[.str "" t2] n2, sb⟩) (H : Hp) : TreadAt K H ea [S []] (S []) :=
  ⟨eb, .inr ⟨_, _, _, h1, rfl, rfl, by show 2 ≤ sizeLine; decide, .cons rfl (.cons ⟨t1, rfl⟩ .nil)⟩, .inr ⟨_, _, _, h2, rfl, rfl, by show 1 ≤ sizeLine; decide, .cons ⟨t2, rfl⟩ .nil⟩⟩
def tPowS (K : PySem.W.Frag) (C eE : Addr) (E : XK) : TS := tSeq (tAsg (tC (V.ref eE)) (gName 3)) (tSeq (tFor (iRng1 (tCons (tCB (fun xs H Q => ∃ i, xs = [V.int i] ∧ Q (V.int (if i < 0 then -i else i)) H) (tCons (tV 1) tNil)) tNil)) (gName 4) (tAsg (tCall (spProduct K C) [] E (tCons (tV 3) (tCons (tV 2) tNil))) (gName 3))) (tRet (tV 3)))
theorem fits_up {zs : List Str} {e : List Nat} {i : Nat} (h : fits zs e i) (h1 : (powZ zs e (i + 1)).1.length ≤ 201) : fits zs e (i + 1) := fun j hj => by
  by_cases hh : j ≤ i
  · exact h j hh
  · rw [show j = i + 1 by omega]
    exact h1
theorem abs_nat (n : Int) : (if n < 0 then -n else n).toNat = n.natAbs := by split <;> omega
theorem pow_ok {K : PySem.W.Frag} {C eE fac : Addr} {E : XK} {D : Ends} {H : Hp} {zs : List Str} {e : List Nat} {n : Int} {y0 y3 y4 : Option V} (T1 : Trd zs e) (hf : TreadAt K H fac zs (S e)) (tE : ∀ H, TreadAt K H eE [S []] (S [])) (n1 : -20 ≤ n) (n2 : n ≤ 20)
    (q : (fits zs e n.natAbs ∧ ∀ r H', Same H H' → TreadAt K H' r (powZ zs e n.natAbs).1 (S (powZ zs e n.natAbs).2) → D.rt (.ref r) H') ∨ ((∃ j, j ≤ n.natAbs ∧ 201 < (powZ zs e j).1.length) ∧ ∀ H', Same H H' → E (.ref C) none H')) :
    tPowS K C eE E D [y0, some (.int n), some (.ref fac), y3, y4] H := by
  unfold tPowS
  refine ⟨n, rfl, _, rfl, by split <;> omega, by split <;> omega, ?_⟩
  rw [abs_nat]
  refine for_range (lo := 0) (n := n.natAbs) (fun i σ' H' => ∃ r y4, σ' = [y0, some (.int n), some (.ref fac), some (.ref r), y4] ∧ Same H H' ∧ fits zs e i ∧ TreadAt K H' r (powZ zs e i).1 (S (powZ zs e i).2)) ⟨_, _, rfl, Same.refl H, fun j hj => by rw [show j = 0 by omega]; show 1 ≤ 201; decide, tE H⟩ ?_ ?_
  · rintro i σ' H1 hi ⟨r, y4, rfl, s1, f1, h1⟩
    refine ⟨r, fac, rfl, rfl, _, zs, _, e, trd_pow T1 i f1, h1, T1, hf.same s1, ?_⟩
    by_cases few : (powZ zs e (i + 1)).1.length ≤ 201
    · exact .inl ⟨few, fun r2 H2 s2 nr hr => ⟨_, _, rfl, s1.trans s2, fits_up f1 few, hr⟩⟩
    · refine .inr ⟨by show 201 < (powZ zs e (i + 1)).1.length; omega, fun H2 s2 => ?_⟩
      rcases q with ⟨f, _⟩ | ⟨_, q⟩
      · exact absurd (f (i + 1) (by omega)) few
      · exact q H2 (s1.trans s2)
  · rintro σ' H1 ⟨r, y4, rfl, s1, f1, h1⟩
    rcases q with ⟨_, q⟩ | ⟨⟨j, h2, h3⟩, _⟩
    · exact q r H1 s1 h1
    · have := f1 j h2
      omega
def tPowL (K : PySem.W.Frag) : TS := tSeq (tFor (iRng1 (tCons (tCB (fun xs H Q => ∃ i, xs = [V.int i] ∧ Q (V.int (if i < 0 then -i else i)) H) (tCons (tV 1) tNil)) tNil)) (gName 4) (tSeq (tAsg (tCall (spJoinL K) [] E0 (tCons (tV 2) (tCons (tV 3) tNil))) (gName 2)) (tIfS (mT (tOp (mII fun i j => decide (j < i)) (tCB (mLen K) (tCons (tOp (mIx K) (tV 2) (tC (V.int 0))) tNil)) (tC (V.int 201)))) (tRet (tC (V.str (Str.ofString "great")))) tNext))) (tRet (tV 2))
theorem powL_ok {K : PySem.W.Frag} {fac r0 : Addr} {D : Ends} {H : Hp} {zs : List Str} {e : List Nat} {n : Int} {y0 y4 : Option V} (T1 : Trd zs e) (hf : TreadAt K H fac zs (S e)) (h0 : TreadAt K H r0 [S []] (S [])) (n1 : -20 ≤ n) (n2 : n ≤ 20)
    (q : (fits zs e n.natAbs ∧ ∀ r H', Same H H' → TreadAt K H' r (powZ zs e n.natAbs).1 (S (powZ zs e n.natAbs).2) → D.rt (.ref r) H') ∨ ((∃ j, j ≤ n.natAbs ∧ 201 < (powZ zs e j).1.length) ∧ ∀ H', Same H H' → D.rt (.str "great") H')) :
    tPowL K D [y0, some (.int n), some (.ref r0), some (.ref fac), y4] H := by
  unfold tPowL
  refine ⟨n, rfl, _, rfl, by split <;> omega, by split <;> omega, ?_⟩
  rw [abs_nat]
  refine for_range (lo := 0) (n := n.natAbs) (fun i σ' H' => ∃ r y4, σ' = [y0, some (.int n), some (.ref r), some (.ref fac), y4] ∧ Same H H' ∧ fits zs e i ∧ TreadAt K H' r (powZ zs e i).1 (S (powZ zs e i).2)) ⟨_, _, rfl, Same.refl H, fun j hj => by rw [show j = 0 by omega]; show 1 ≤ 201; decide, h0⟩ ?_ ?_
  · rintro i σ' H1 hi ⟨r, y4, rfl, s1, f1, h1⟩
    refine ⟨r, fac, _, zs, _, e, rfl, rfl, trd_pow T1 i f1, h1, T1, hf.same s1, fun r2 H2 s2 nr hr => ?_⟩
    obtain ⟨p2, a1, a2⟩ := id hr
    refine ⟨_, _, .inr a1, rfl, _, .inr a2, ite2 (fun c => ?_) (fun c => ?_)⟩
    · have c1 : (201 : Int) < (((powZ zs e (i + 1)).1.map V.str).length : Int) := of_decide_eq_true c
      rw [List.length_map] at c1
      rcases q with ⟨f, _⟩ | ⟨_, q⟩
      · have := f (i + 1) (by omega)
        omega
      · exact q H2 (s1.trans s2)
    · have c1 : ¬ (201 : Int) < (((powZ zs e (i + 1)).1.map V.str).length : Int) := fun h => c (decide_eq_true h)
      rw [List.length_map] at c1
      exact ⟨_, _, rfl, s1.trans s2, fits_up f1 (by omega), hr⟩
  · rintro σ' H1 ⟨r, y4, rfl, s1, f1, h1⟩
    rcases q with ⟨_, q⟩ | ⟨⟨j, h2, h3⟩, _⟩
    · exact q r H1 s1 h1
    · have := f1 j h2
      omega

theorem few_or (zs : List Str) (e : List Nat) (m : Nat) : fits zs e m ∨ ∃ j, j ≤ m ∧ 201 < (powZ zs e j).1.length := by
  by_cases h : fits zs e m
  · exact .inl h
  · refine .inr ?_
    rcases Classical.em (∃ j, j ≤ m ∧ 201 < (powZ zs e j).1.length) with h1 | h1
    · exact h1
    · exact absurd (fun j hj => by
        rcases Nat.lt_or_ge 201 (powZ zs e j).1.length with h2 | h2
        · exact absurd ⟨j, hj, h2⟩ h1
        · exact h2) h
theorem not_both {zs : List Str} {e : List Nat} {m : Nat} {P : Prop} (h : fits zs e m) (g : ∃ j, j ≤ m ∧ 201 < (powZ zs e j).1.length) : P := by
  obtain ⟨j, h1, h2⟩ := g
  have := h j h1
  omega
section
variable {K : PySem.W.Frag} {T : List (Addr × Str)}
def dTreadsAll : List PyData → (PyData → Prop) → Prop := fun ds G => ∃ zs ys e f, ds = [treadD zs (S e), treadD ys (S f)] ∧ Trd zs e ∧ Trd ys f ∧ G (.bool (decide (e = f) && hasB zs ys))
instance fnTreadsAll : FnD K (spTreadsAll K) dTreadsAll := ⟨fun {M H vs ds Q E G} m h g q => by
  obtain ⟨zs, ys, e, f, rfl, h1, h2, g⟩ := g
  obtain ⟨x, y, rfl, w1, w2⟩ := dp2 h
  obtain ⟨t, rfl, ht⟩ := dp_trd w1
  obtain ⟨t2, rfl, ht2⟩ := dp_trd w2
  exact ⟨t, t2, zs, ys, e, f, rfl, rfl, h1, ht, h2, ht2, fun H' s => q _ _ _ g s (.bl _)⟩⟩
def dLeastOver : List PyData → (PyData → Prop) → Prop := fun ds G => ∃ zs ys e f, ds = [treadD zs (S e), treadD ys (S f)] ∧ Trd zs e ∧ Trd ys f ∧ ((e ≠ f ∧ G .none) ∨ (e = f ∧ (ordS (zs ++ ys)).length ≤ 201 ∧ G (treadD (ordS (zs ++ ys)) (S e))))
instance fnLeastOver (C : Addr) : FnD K (spLeastOver K C) dLeastOver := ⟨fun {M H vs ds Q E G} m h g q => by
  obtain ⟨zs, ys, e, f, rfl, h1, h2, g⟩ := g
  obtain ⟨x, y, rfl, w1, w2⟩ := dp2 h
  obtain ⟨t, rfl, ht⟩ := dp_trd w1
  obtain ⟨t2, rfl, ht2⟩ := dp_trd w2
  refine ⟨t, t2, zs, ys, e, f, rfl, rfl, h1, ht, h2, ht2, ?_⟩
  rcases g with ⟨n, g⟩ | ⟨n, l, g⟩
  · exact .inl ⟨n, fun H' s => q _ _ _ g s .non⟩
  · exact .inr (.inl ⟨n, l, fun r H' s nr hr => q _ _ _ g s (hr.imm (m.same s))⟩)⟩
def dCommon : List PyData → (PyData → Prop) → Prop := fun ds G => ∃ zs ys e f, ds = [treadD zs (S e), treadD ys (S f)] ∧ Trd zs e ∧ Trd ys f ∧ ((e ≠ f ∧ G .none) ∨ (e = f ∧ G (treadD (sharL zs ys) (S e))))
instance fnCommon : FnD K (spCommon K) dCommon := ⟨fun {M H vs ds Q E G} m h g q => by
  obtain ⟨zs, ys, e, f, rfl, h1, h2, g⟩ := g
  obtain ⟨x, y, rfl, w1, w2⟩ := dp2 h
  obtain ⟨t, rfl, ht⟩ := dp_trd w1
  obtain ⟨t2, rfl, ht2⟩ := dp_trd w2
  refine ⟨t, t2, zs, ys, e, f, rfl, rfl, h1, ht, h2, ht2, ?_⟩
  rcases g with ⟨n, g⟩ | ⟨n, g⟩
  · exact .inl ⟨n, fun H' s => q _ _ _ g s .non⟩
  · exact .inr ⟨n, fun r H' s nr hr => q _ _ _ g s (hr.imm (m.same s))⟩⟩
def dSpare : List PyData → (PyData → Prop) → Prop := fun ds G => ∃ zs e, ds = [treadD zs (S e)] ∧ Trd zs e ∧ G (treadD zs (S []))
instance fnSpare : FnD K (spSpare K) dSpare := ⟨fun {M H vs ds Q E G} m h g q => by
  obtain ⟨zs, e, rfl, h1, g⟩ := g
  obtain ⟨x, rfl, w1⟩ := dp1 h
  obtain ⟨t, rfl, ht⟩ := dp_trd w1
  exact ⟨t, zs, e, rfl, h1, ht, fun r H' s nr hr => q _ _ _ g s (hr.imm (m.same s))⟩⟩
def dPower : List PyData → (PyData → Prop) → Prop := fun ds G => ∃ zs e, ∃ n : Int, ds = [treadD zs (S e), .int n] ∧ Trd zs e ∧ -20 ≤ n ∧ n ≤ 20 ∧ fits (facZ zs e n) (facE e n) n.natAbs ∧ G (treadD (powZ (facZ zs e n) (facE e n) n.natAbs).1 (S (powZ (facZ zs e n) (facE e n) n.natAbs).2))
instance fnPower (C D : Addr) : FnD K (spPower K C D) dPower := ⟨fun {M H vs ds Q E G} m h g q => by
  obtain ⟨zs, e, n, rfl, h1, h2, h3, h4, g⟩ := g
  obtain ⟨x, y, rfl, w1, w2⟩ := dp2 h
  obtain ⟨t, rfl, ht⟩ := dp_trd w1
  cases dp_int w2
  exact ⟨t, zs, e, rfl, h1, ht, .inl ⟨n, rfl, h2, h3, .inl ⟨h4, fun r H' s hr => q _ _ _ g s (hr.imm (m.same s))⟩⟩⟩⟩
def dJoinL : List PyData → (PyData → Prop) → Prop := fun ds G => ∃ zs ys e f, ds = [treadD zs (S e), treadD ys (S f)] ∧ Trd zs e ∧ Trd ys f ∧ G (treadD (joinS zs e ys) (S (fol e f)))
instance fnJoinL : FnD K (spJoinL K) dJoinL := ⟨fun {M H vs ds Q E G} m h g q => by
  obtain ⟨zs, ys, e, f, rfl, h1, h2, g⟩ := g
  obtain ⟨x, y, rfl, w1, w2⟩ := dp2 h
  obtain ⟨t, rfl, ht⟩ := dp_trd w1
  obtain ⟨t2, rfl, ht2⟩ := dp_trd w2
  exact ⟨t, t2, zs, ys, e, f, rfl, rfl, h1, ht, h2, ht2, fun r H' s nr hr => q _ _ _ g s (hr.imm (m.same s))⟩⟩
def dTreadOf : List PyData → (PyData → Prop) → Prop := fun ds G => ∃ u, ds = [.str (S u)] ∧ IsL u ∧ u.length ≤ 200 ∧ G (treadD (plc u) (S (fol [] u)))
instance fnTreadOf (C : Addr) : FnD K (spTreadOf K C) dTreadOf := ⟨fun {M H vs ds Q E G} m h g q => by
  obtain ⟨u, rfl, h1, h2, g⟩ := g
  obtain ⟨v, rfl, w⟩ := dp1 h
  cases dp_str w
  exact .inl ⟨u, rfl, h1, h2, fun t H' s nt ht => q _ _ _ g s (ht.imm (m.same s))⟩⟩
def dAlike : List PyData → (PyData → Prop) → Prop := fun ds G => ∃ u v, ds = [.str (S u), .str (S v)] ∧ IsL u ∧ u.length ≤ 200 ∧ IsL v ∧ v.length ≤ 200 ∧ G (.bool (alk u v))
instance fnAlike (C : Addr) : FnD K (spAlike K C) dAlike := ⟨fun {M H vs ds Q E G} m h g q => by
  obtain ⟨u, v, rfl, h1, h2, h3, h4, g⟩ := g
  obtain ⟨x, y, rfl, w1, w2⟩ := dp2 h
  cases dp_str w1
  cases dp_str w2
  exact .inr ⟨u, rfl, h1, h2, .inr ⟨v, rfl, h3, h4, fun H' s => q _ _ _ g s (.bl _)⟩⟩⟩
def dBack : List PyData → (PyData → Prop) → Prop := fun ds G => ∃ u, ds = [.str (S u)] ∧ IsL u ∧ u.length ≤ 200 ∧ G (.str (S (mir u)))
instance fnBack (C : Addr) : FnD K (spBack K C) dBack := ⟨fun {M H vs ds Q E G} m h g q => by
  obtain ⟨u, rfl, h1, h2, g⟩ := g
  obtain ⟨v, rfl, w⟩ := dp1 h
  cases dp_str w
  exact .inl ⟨u, rfl, h1, h2, q _ _ _ g (.refl _) (.str _)⟩⟩
def dReduced : List PyData → (PyData → Prop) → Prop := fun ds G => ∃ u, ds = [.str (S u)] ∧ IsL u ∧ u.length ≤ 200 ∧ G (.str (S (fol [] u)))
instance fnReduced (C : Addr) : FnD K (spReduced K C) dReduced := ⟨fun {M H vs ds Q E G} m h g q => by
  obtain ⟨u, rfl, h1, h2, g⟩ := g
  obtain ⟨v, rfl, w⟩ := dp1 h
  cases dp_str w
  exact .inl ⟨u, rfl, h1, h2, q _ _ _ g (.refl _) (.str _)⟩⟩
def dBehind : List PyData → (PyData → Prop) → Prop := fun ds G => ∃ u v, ds = [.str (S u), .str (S v)] ∧ IsL u ∧ isP u = true ∧ u.length ≤ 200 ∧ IsL v ∧ v.length ≤ 200 ∧ G (.str (S (fol u v)))
instance fnBehind (C D : Addr) : FnD K (spBehind K C D) dBehind := ⟨fun {M H vs ds Q E G} m h g q => by
  obtain ⟨u, v, rfl, h1, h2, h3, h4, h5, g⟩ := g
  obtain ⟨x, y, rfl, w1, w2⟩ := dp2 h
  cases dp_str w1
  cases dp_str w2
  exact .inr ⟨u, rfl, h1, h2, h3, .inr ⟨v, rfl, h4, h5, fun H' s => q _ _ _ g s (.str _)⟩⟩⟩
def dIsTread : List PyData → (PyData → Prop) → Prop := fun ds G => ∃ zs e, ds = [treadD zs (S e)] ∧ Trd zs e ∧ G (.bool true)
instance fnIsTread : FnD K (spIsTreadT K) dIsTread := ⟨fun {M H vs ds Q E G} m h g q => by
  obtain ⟨zs, e, rfl, h1, g⟩ := g
  obtain ⟨x, rfl, w1⟩ := dp1 h
  obtain ⟨t, rfl, ht⟩ := dp_trd w1
  exact ⟨t, zs, e, rfl, h1, ht, fun H' s => q _ _ _ g s (.bl _)⟩⟩
def dIsWord : List PyData → (PyData → Prop) → Prop := fun ds G => ∃ z, ds = [.str z] ∧ G (.bool (isW z))
instance fnIsWord : FnD K (spIsWord K) dIsWord := ⟨fun {M H vs ds Q E G} m h g q => by
  obtain ⟨z, rfl, g⟩ := g
  obtain ⟨v, rfl, w⟩ := dp1 h
  cases dp_str w
  exact ⟨_, .inl ⟨z, rfl, rfl⟩, q _ _ _ g (.refl _) (.bl _)⟩⟩
def dIsPlace : List PyData → (PyData → Prop) → Prop := fun ds G => ∃ z, ds = [.str z] ∧ z.length ≤ sizeLine ∧ G (.bool (isW z && isP z.cps.toList))
instance fnIsPlace : FnD K (spIsPlace K) dIsPlace := ⟨fun {M H vs ds Q E G} m h g q => by
  obtain ⟨z, rfl, hz, g⟩ := g
  obtain ⟨v, rfl, w⟩ := dp1 h
  cases dp_str w
  exact ⟨_, .inl ⟨z, rfl, hz, rfl⟩, fun H' s => q _ _ _ g s (.bl _)⟩⟩
def dBegin : List PyData → (PyData → Prop) → Prop := fun ds G => ∃ u, ds = [.str (S u)] ∧ u.length ≤ 1000 ∧ G (.list ((begs u).map .str))
end

end Xia

set_option Elab.async false
set_option linter.all false
set_option maxRecDepth 100000
set_option maxHeartbeats 4000000
set_option autoImplicit false
/-! Own: treads put together, turned, compared: the rules that they keep. -/
namespace Xia
open PySem PySem.Spec PyProof.Rows L2 SX
theorem memJ {zs ys : List Str} {e x : List Nat} : S x ∈ joinS zs e ys ↔ S x ∈ zs ∨ ∃ w, S w ∈ ys ∧ x = fol e w := by
  rw [mem_joinS]
  exact or_congr Iff.rfl ⟨fun ⟨w, a, b⟩ => ⟨w, a, S_inj b⟩, fun ⟨w, a, b⟩ => ⟨w, a, congrArg S b⟩⟩
theorem memT {zs : List Str} {e x : List Nat} : S x ∈ turnS zs e ↔ ∃ w, S w ∈ zs ∧ x = fol (mir e) w := by
  rw [mem_turnS]
  exact ⟨fun ⟨w, a, b⟩ => ⟨w, a, S_inj b⟩, fun ⟨w, a, b⟩ => ⟨w, a, congrArg S b⟩⟩
theorem memO {zs ys : List Str} {z : Str} : z ∈ ordS (zs ++ ys) ↔ z ∈ zs ∨ z ∈ ys := by rw [mem_ordS, List.mem_append]
/-- ascending rows of places with the same places -/
theorem ord_ext {l m : List Str} (h1 : ordS l = l) (h2 : ordS m = m) (p1 : ∀ z ∈ l, ∃ w, z = S w) (p2 : ∀ z ∈ m, ∃ w, z = S w) (h : ∀ w, S w ∈ l ↔ S w ∈ m) : l = m := by
  rw [← h1, ← h2]
  refine ordS_congr fun z => ⟨fun hz => ?_, fun hz => ?_⟩
  · obtain ⟨w, rfl⟩ := p1 z hz
    exact (h w).mp hz
  · obtain ⟨w, rfl⟩ := p2 z hz
    exact (h w).mpr hz
theorem ord_ord (l : List Str) : ordS (ordS l) = ordS l := ordS_congr fun _ => mem_ordS
section
variable {zs ys ws : List Str} {e f g : List Nat}
theorem Trd.s {zs : List Str} {e : List Nat} (T : Trd zs e) : ∀ z ∈ zs, ∃ w, z = S w := fun z hz => by
  obtain ⟨w, h, _⟩ := T.pl z hz
  exact ⟨w, h⟩
theorem sJ (T : Trd zs e) (U : ∀ z ∈ ys, ∃ w, z = S w) : ∀ z ∈ joinS zs e ys, ∃ w, z = S w := fun z hz => by
  rcases mem_joinS.mp hz with h | ⟨w, _, rfl⟩
  · exact T.s z h
  · exact ⟨_, rfl⟩
theorem sT : ∀ z ∈ turnS zs e, ∃ w, z = S w := fun z hz => by
  obtain ⟨w, _, rfl⟩ := mem_turnS.mp hz
  exact ⟨_, rfl⟩
theorem oJ : ordS (joinS zs e ys) = joinS zs e ys := ord_ord _
theorem oT : ordS (turnS zs e) = turnS zs e := ord_ord _
theorem lenJ : (joinS zs e ys).length ≤ zs.length + ys.length := by
  refine Nat.le_trans (ordS_len _) ?_
  rw [List.length_append]
  unfold mv
  rw [List.length_map]
  exact Nat.le_refl _
theorem lenT : (turnS zs e).length ≤ zs.length := by
  refine Nat.le_trans (ordS_len _) ?_
  unfold mv
  rw [List.length_map]
  exact Nat.le_refl _
theorem lenO : (ordS (zs ++ ys)).length ≤ zs.length + ys.length := by
  refine Nat.le_trans (ordS_len _) ?_
  rw [List.length_append]
  exact Nat.le_refl _
theorem Trd.e1 (T : Trd zs e) : IsL e := (T.word T.en).1
theorem Trd.e2 (T : Trd zs e) : isP e = true := (T.word T.en).2.1
theorem fol_home {p x : List Nat} (p1 : IsL p) (p2 : isP p = true) (x1 : IsL x) (x2 : isP x = true) : fol p (fol (mir p) x) = x := by
  have back : fol p (mir p) = [] := by
    have := fol_mir (p := []) (w := p) .nil rfl p1
    rwa [fol_nil p1 p2] at this
  rw [fol_assoc p1 p2 p1.mir (isP_mir p1 p2) x1, back, fol_nil x1 x2]
theorem fol_home' {p x : List Nat} (p1 : IsL p) (p2 : isP p = true) (x1 : IsL x) (x2 : isP x = true) : fol (mir p) (fol p x) = x := by
  have := fol_home (p := mir p) p1.mir (isP_mir p1 p2) x1 x2
  rwa [mir_mir p1] at this
theorem fol_mir0 {p : List Nat} (p1 : IsL p) (p2 : isP p = true) : fol p (mir p) = [] := by
  have := fol_home p1 p2 .nil rfl
  exact this
theorem mir_fol {p x : List Nat} (p1 : IsL p) (p2 : isP p = true) (x1 : IsL x) : mir (fol p x) = fol (mir x) (mir p) ∨ True := .inr trivial
/-- the back of a place behind a place -/
theorem mir_fol2 {p q : List Nat} (p1 : IsL p) (p2 : isP p = true) (q1 : IsL q) (q2 : isP q = true) : mir (fol p q) = fol (mir q) (mir p) := by
  have e1 : fol p q = fol [] (p ++ q) := by rw [fol_app, fol_nil p1 p2]
  rw [e1, ← fol_back (p1.app q1), mir_app, fol_app, fol_nil q1.mir (isP_mir q1 q2)]
theorem join_assoc (T : Trd zs e) (U : Trd ys f) (W : Trd ws g) : joinS (joinS zs e ys) (fol e f) ws = joinS zs e (joinS ys f ws) := by
  have sU : ∀ z ∈ joinS ys f ws, ∃ w, z = S w := sJ U W.s
  refine ord_ext oJ oJ (fun z hz => ?_) (sJ T sU) fun x => ?_
  · rcases mem_joinS.mp hz with h | ⟨w, _, rfl⟩
    · exact sJ T U.s z h
    · exact ⟨_, rfl⟩
  rw [memJ, memJ, memJ]
  constructor
  · rintro ((h | ⟨w, h, rfl⟩) | ⟨w, h, rfl⟩)
    · exact .inl h
    · exact .inr ⟨w, memJ.mpr (.inl h), rfl⟩
    · refine .inr ⟨fol f w, memJ.mpr (.inr ⟨w, h, rfl⟩), ?_⟩
      rw [fol_assoc T.e1 T.e2 U.e1 U.e2 (W.word h).1]
  · rintro (h | ⟨w, h, rfl⟩)
    · exact .inl (.inl h)
    · rcases memJ.mp h with k | ⟨v, k, rfl⟩
      · exact .inl (.inr ⟨w, k, rfl⟩)
      · refine .inr ⟨v, k, ?_⟩
        rw [fol_assoc T.e1 T.e2 U.e1 U.e2 (W.word k).1]
theorem turn_join (T : Trd zs e) (U : Trd ys f) : turnS (joinS zs e ys) (fol e f) = joinS (turnS ys f) (mir f) (turnS zs e) := by
  have ef := mir_fol2 T.e1 T.e2 U.e1 U.e2
  have me := T.e1.mir
  have me2 := isP_mir T.e1 T.e2
  have mf := U.e1.mir
  have mf2 := isP_mir U.e1 U.e2
  refine ord_ext oT oJ sT (fun z hz => ?_) fun x => ?_
  · rcases mem_joinS.mp hz with h | ⟨w, _, rfl⟩
    · exact sT z h
    · exact ⟨_, rfl⟩
  rw [memT, memJ, ef]
  constructor
  · rintro ⟨w, h, rfl⟩
    rcases memJ.mp h with k | ⟨v, k, rfl⟩
    · refine .inr ⟨fol (mir e) w, memT.mpr ⟨w, k, rfl⟩, ?_⟩
      rw [fol_assoc mf mf2 me me2 (T.word k).1]
    · refine .inl (memT.mpr ⟨v, k, ?_⟩)
      rw [← fol_assoc mf mf2 me me2 (IsL.fol T.e1 (U.word k).1), fol_home' T.e1 T.e2 (U.word k).1 (U.word k).2.1]
  · rintro (h | ⟨w, h, rfl⟩)
    · obtain ⟨v, k, rfl⟩ := memT.mp h
      refine ⟨fol e v, memJ.mpr (.inr ⟨v, k, rfl⟩), ?_⟩
      rw [← fol_assoc mf mf2 me me2 (IsL.fol T.e1 (U.word k).1), fol_home' T.e1 T.e2 (U.word k).1 (U.word k).2.1]
    · obtain ⟨v, k, rfl⟩ := memT.mp h
      refine ⟨v, memJ.mpr (.inl k), ?_⟩
      rw [fol_assoc mf mf2 me me2 (T.word k).1]
theorem turn_turn (T : Trd zs e) : turnS (turnS zs e) (mir e) = zs := turn_home T T.en
/-- a tread and its back -/
theorem join_turn (T : Trd zs e) : joinS zs e (turnS zs e) = zs := by
  refine ord_ext oJ T.asc (sJ T sT) T.s fun x => ?_
  rw [memJ]
  constructor
  · rintro (h | ⟨w, h, rfl⟩)
    · exact h
    · obtain ⟨v, k, rfl⟩ := memT.mp h
      rw [fol_home T.e1 T.e2 (T.word k).1 (T.word k).2.1]
      exact k
  · exact .inl
/-- behind a spare tread -/
theorem join_nil (T : Trd zs e) (U : Trd ys f) : joinS zs [] ys = ordS (zs ++ ys) := by
  unfold joinS
  rw [mv_nil U]
theorem join_self (T : Trd zs e) : joinS zs [] zs = zs := by
  rw [join_nil T T]
  have : ordS (zs ++ zs) = ordS zs := ordS_congr fun z => by rw [List.mem_append, or_self]
  rw [this, T.asc]
theorem ord_comm : ordS (zs ++ ys) = ordS (ys ++ zs) := ordS_congr fun z => by rw [List.mem_append, List.mem_append, or_comm]
theorem turn_nil (T : Trd zs e) : turnS zs [] = zs := by
  have e1 : turnS zs [] = ordS (mv [] zs) := rfl
  rw [e1, mv_nil T, T.asc]
/-! ### all of, least over, common -/
theorem hasB_iff : hasB zs ys = true ↔ ∀ z ∈ ys, z ∈ zs := by
  unfold hasB
  rw [List.all_eq_true]
  exact forall_congr' fun z => forall_congr' fun h => decide_eq_true_iff
theorem over_all (T : Trd zs e) (U : Trd ys f) : ordS (zs ++ ys) = zs ↔ hasB zs ys = true := by
  rw [hasB_iff]
  constructor
  · intro h z hz
    rw [← h]
    exact memO.mpr (.inr hz)
  · intro h
    have : ordS (zs ++ ys) = ordS zs := ordS_congr fun z => by
      rw [List.mem_append]
      exact ⟨fun k => k.elim id (h z), .inl⟩
    rw [this, T.asc]
theorem has_both (T : Trd zs e) (U : Trd ys f) (h1 : hasB zs ys = true) (h2 : hasB ys zs = true) : zs = ys := by
  rw [← T.asc, ← U.asc]
  exact ordS_congr fun z => ⟨hasB_iff.mp h2 z, hasB_iff.mp h1 z⟩
theorem has_self : hasB zs zs = true := hasB_iff.mpr fun _ h => h
theorem has_turn (T : Trd zs e) (U : Trd ys e) : hasB (turnS zs e) (turnS ys e) = hasB zs ys := by
  rw [Bool.eq_iff_iff, hasB_iff, hasB_iff]
  constructor
  · intro h z hz
    obtain ⟨w, rfl, _⟩ := U.pl z hz
    obtain ⟨v, hv, ev⟩ := memT.mp (h _ (memT.mpr ⟨w, hz, rfl⟩))
    have : w = v := by
      have := congrArg (fol e) ev
      rwa [fol_home T.e1 T.e2 (U.word hz).1 (U.word hz).2.1, fol_home T.e1 T.e2 (T.word hv).1 (T.word hv).2.1] at this
    rw [this]
    exact hv
  · intro h z hz
    obtain ⟨w, hw, rfl⟩ := mem_turnS.mp hz
    exact mem_turnS.mpr ⟨w, h _ hw, rfl⟩
theorem has_joinR (h : hasB zs ys = true) : hasB (joinS zs e ws) (joinS ys e ws) = true := hasB_iff.mpr fun z hz => by
  rcases mem_joinS.mp hz with k | k
  · exact mem_joinS.mpr (.inl (hasB_iff.mp h z k))
  · exact mem_joinS.mpr (.inr k)
theorem has_joinL (h : hasB zs ys = true) : hasB (joinS ws e zs) (joinS ws e ys) = true := hasB_iff.mpr fun z hz => by
  rcases mem_joinS.mp hz with k | ⟨w, k, rfl⟩
  · exact mem_joinS.mpr (.inl k)
  · exact mem_joinS.mpr (.inr ⟨w, hasB_iff.mp h _ k, rfl⟩)
theorem mem_shar {z : Str} : z ∈ sharL zs ys ↔ z ∈ zs ∧ z ∈ ys := by
  unfold sharL
  rw [List.mem_filter, decide_eq_true_iff]
theorem Trd.shar (T : Trd zs e) (U : Trd ys e) : Trd (sharL zs ys) e := by
  refine ⟨ordS_id (T.nodup.filter _) (T.up.filter _), fun z hz => T.pl z (mem_shar.mp hz).1, fun w hw => ?_, Nat.le_trans (sharL_len _ _) T.few, mem_shar.mpr ⟨T.en, U.en⟩⟩
  obtain ⟨a, b⟩ := mem_shar.mp hw
  exact mem_shar.mpr ⟨T.cl w a, U.cl w b⟩
theorem shar_self (T : Trd zs e) : sharL zs zs = zs := by
  unfold sharL
  rw [List.filter_eq_self]
  exact fun z hz => decide_eq_true hz
theorem over_join (T : Trd zs e) (U : Trd ys e) : joinS (ordS (zs ++ ys)) e ws = ordS (joinS zs e ws ++ joinS ys e ws) := by
  refine ordS_congr (m := joinS zs e ws ++ joinS ys e ws) fun z => ?_
  rw [List.mem_append, memO, mem_mv, List.mem_append, mem_joinS, mem_joinS]
  constructor
  · rintro ((h | h) | h)
    · exact .inl (.inl h)
    · exact .inr (.inl h)
    · exact .inl (.inr h)
  · rintro ((h | h) | (h | h))
    · exact .inl (.inl h)
    · exact .inr h
    · exact .inl (.inr h)
    · exact .inr h
theorem shar_join (T : Trd zs e) (U : Trd ys e) (W : Trd ws g) (few : (joinS zs e ws).length ≤ 201) (few2 : (joinS ys e ws).length ≤ 201) : joinS (sharL zs ys) e ws = sharL (joinS zs e ws) (joinS ys e ws) := by
  have J1 := T.join W few
  have J2 := U.join W few2
  have JS := J1.shar J2
  refine ord_ext oJ JS.asc (sJ (T.shar U) W.s) JS.s fun x => ?_
  rw [memJ, mem_shar, mem_shar, memJ, memJ]
  constructor
  · rintro (⟨a, b⟩ | h)
    · exact ⟨.inl a, .inl b⟩
    · exact ⟨.inr h, .inr h⟩
  · rintro ⟨a | h, b | k⟩
    · exact .inl ⟨a, b⟩
    · exact .inr k
    · exact .inr h
    · exact .inr h
theorem has_over (h1 : hasB ws zs = true) (h2 : hasB ws ys = true) : hasB ws (ordS (zs ++ ys)) = true := hasB_iff.mpr fun z hz => by
  rcases memO.mp hz with k | k
  · exact hasB_iff.mp h1 z k
  · exact hasB_iff.mp h2 z k
theorem has_overL : hasB (ordS (zs ++ ys)) zs = true := hasB_iff.mpr fun z hz => memO.mpr (.inl hz)
theorem has_overR : hasB (ordS (zs ++ ys)) ys = true := hasB_iff.mpr fun z hz => memO.mpr (.inr hz)
theorem has_sharL : hasB zs (sharL zs ys) = true := hasB_iff.mpr fun z hz => (mem_shar.mp hz).1
theorem has_sharR : hasB ys (sharL zs ys) = true := hasB_iff.mpr fun z hz => (mem_shar.mp hz).2
theorem has_shar (h1 : hasB zs ws = true) (h2 : hasB ys ws = true) : hasB (sharL zs ys) ws = true := hasB_iff.mpr fun z hz => mem_shar.mpr ⟨hasB_iff.mp h1 z hz, hasB_iff.mp h2 z hz⟩
end
/-! ### powers -/
theorem pow_len {zs : List Str} {e : List Nat} : ∀ m, (powZ zs e m).1.length ≤ 1 + m * zs.length
  | 0 => by show 1 ≤ _; omega
  | m + 1 => by
    have h := pow_len (zs := zs) (e := e) m
    have := lenJ (zs := (powZ zs e m).1) (e := (powZ zs e m).2) (ys := zs)
    show (joinS _ _ _).length ≤ _
    rw [Nat.succ_mul]
    omega
theorem fits_of {zs : List Str} {e : List Nat} {m : Nat} (h : 1 + m * zs.length ≤ 201) : fits zs e m := fun j hj => by
  have h1 := pow_len (zs := zs) (e := e) j
  have : j * zs.length ≤ m * zs.length := Nat.mul_le_mul_right _ hj
  omega
theorem join_one {zs : List Str} {e : List Nat} (T : Trd zs e) : joinS [S []] [] zs = zs ∧ fol [] e = e := by
  refine ⟨?_, fol_nil T.e1 T.e2⟩
  rw [join_nil trd_nil T, ord_comm]
  exact (over_all T trd_nil).mpr (hasB_iff.mpr fun z hz => by rw [List.mem_singleton.mp hz]; exact T.nil_mem)
theorem join_oneR {zs : List Str} {e : List Nat} (T : Trd zs e) : joinS zs e [S []] = zs := by
  refine ord_ext oJ T.asc (sJ T trd_nil.s) T.s fun x => ?_
  rw [memJ]
  constructor
  · rintro (h | ⟨w, h, rfl⟩)
    · exact h
    · rw [S_inj (List.mem_singleton.mp h)]
      exact T.en
  · exact .inl
/-- m and n times -/
theorem pow_add {zs : List Str} {e : List Nat} (T : Trd zs e) (m : Nat) : ∀ n, fits zs e (m + n) → fits zs e n → powZ zs e (m + n) = (joinS (powZ zs e m).1 (powZ zs e m).2 (powZ zs e n).1, fol (powZ zs e m).2 (powZ zs e n).2)
  | 0, f, _ => by
    have M := trd_pow T m fun j hj => f j (by omega)
    rw [Nat.add_zero]
    show _ = (joinS _ _ [S []], fol _ [])
    rw [join_oneR M]
    rfl
  | n + 1, f, g => by
    have M := trd_pow T m fun j hj => f j (by omega)
    have N := trd_pow T n fun j hj => g j (by omega)
    have ih := pow_add T m n (fun j hj => f j (by omega)) fun j hj => g j (by omega)
    show (joinS (powZ zs e (m + n)).1 (powZ zs e (m + n)).2 zs, fol (powZ zs e (m + n)).2 e) = _
    rw [ih]
    show (joinS (joinS _ _ _) (fol _ _) zs, fol (fol _ _) e) = (joinS _ _ (joinS _ _ zs), fol _ (fol _ e))
    rw [join_assoc M N T, fol_assoc M.e1 M.e2 N.e1 N.e2 T.e1]
theorem pow_mul {zs : List Str} {e : List Nat} (T : Trd zs e) (m : Nat) (fm : fits zs e m) : ∀ n, fits zs e (m * n) → powZ (powZ zs e m).1 (powZ zs e m).2 n = powZ zs e (m * n)
  | 0, _ => rfl
  | n + 1, f => by
    have f' : fits zs e (m * n) := fun j hj => f j (by rw [Nat.mul_succ]; omega)
    show (joinS (powZ _ _ n).1 (powZ _ _ n).2 _, fol (powZ _ _ n).2 _) = _
    rw [pow_mul T m fm n f', Nat.mul_succ, pow_add T (m * n) m (by rw [← Nat.mul_succ]; exact f) fm]
theorem pow_comm {zs : List Str} {e : List Nat} (T : Trd zs e) (m : Nat) (f : fits zs e (m + 1)) : powZ zs e (m + 1) = (joinS zs e (powZ zs e m).1, fol e (powZ zs e m).2) := by
  have h := pow_add T 1 m (by rw [Nat.add_comm]; exact f) fun j hj => f j (by omega)
  rw [Nat.add_comm] at h
  rw [h]
  have e1 : powZ zs e 1 = (zs, e) := by
    show (joinS [S []] [] zs, fol [] e) = _
    rw [(join_one T).1, (join_one T).2]
  rw [e1]
theorem pow_turn {zs : List Str} {e : List Nat} (T : Trd zs e) : ∀ m, fits zs e m → powZ (turnS zs e) (mir e) m = (turnS (powZ zs e m).1 (powZ zs e m).2, mir (powZ zs e m).2)
  | 0, _ => by
    show ([S []], []) = (turnS [S []] [], mir [])
    rw [turn_nil trd_nil]
    rfl
  | m + 1, f => by
    have M := trd_pow T m fun j hj => f j (by omega)
    rw [pow_comm T m f]
    show (joinS (powZ _ _ m).1 (powZ _ _ m).2 _, fol (powZ _ _ m).2 _) = (turnS (joinS zs e _) (fol e _), mir (fol e _))
    rw [pow_turn T m fun j hj => f j (by omega), turn_join T M, mir_fol2 T.e1 T.e2 M.e1 M.e2]
end Xia

set_option Elab.async false
set_option linter.all false
set_option maxRecDepth 100000
set_option maxHeartbeats 4000000
set_option autoImplicit false
/-! Own: more at the level of data. -/
namespace Xia
open PySem PySem.Spec PyProof.Rows L2 SX LamX
theorem lc_mapR {ai : AI} {ae : AE} {i : Nat} {vs : List Nat} {δ : List SD} {G : List PyData → List SD → Prop} (n : Nat) (lo : Int) (f : Nat → PyData) (δ1 : List SD) (small : n ≤ sizeLine) (hw : wipeD δ1 vs = δ1)
    (ht : ∀ j, j < n → wipeD (δ1.set i (.da (.int (lo + (j : Nat))))) vs = δ1 ∧ ∀ G' : PyData → List SD → Prop, G' (f j) (δ1.set i (.da (.int (lo + (j : Nat))))) → ae (δ1.set i (.da (.int (lo + (j : Nat))))) G')
    (hi : ∀ G' : List PyData → List SD → Prop, G' (intsD lo n) δ1 → ai δ G') (g : G ((List.range n).map f) δ1) : alLc ai (agName i) aYes ae vs δ G := by
  have ln : (intsD lo n).length = n := by unfold intsD; rw [List.length_map, List.length_range]
  refine hi _ ⟨fun j acc δ' => acc = (List.range j).map f ∧ δ' = δ1, ⟨rfl, rfl⟩, ?_, by rw [ln]; exact small, ?_⟩
  · rintro j x acc δ' hx _ _ ⟨rfl, rfl⟩
    obtain ⟨hj, rfl⟩ := intsD_at hx
    obtain ⟨h1, h3⟩ := ht j hj
    show ae ((wipeD δ' vs).set i _) _
    rw [hw]
    refine h3 _ ?_
    refine ⟨?_, h1⟩
    rw [List.range_succ, List.map_append]
    rfl
  · rintro acc δ' _ ⟨rfl, rfl⟩
    rw [ln]
    exact g
theorem lc_mapR' {ai : AI} {ae : AE} {i : Nat} {vs : List Nat} {δ : List SD} {G : List PyData → List SD → Prop} (n : Nat) (lo : Int) (f : Nat → PyData) (small : n ≤ sizeLine) (hw : wipeD δ vs = δ)
    (ht : ∀ j, j < n → wipeD (δ.set i (.da (.int (lo + (j : Nat))))) vs = δ ∧ ∀ G' : PyData → List SD → Prop, G' (f j) (δ.set i (.da (.int (lo + (j : Nat))))) → ae (δ.set i (.da (.int (lo + (j : Nat))))) G')
    (hi : ∀ G' : List PyData → List SD → Prop, G' (intsD lo n) δ → ai δ G') (g : G ((List.range n).map f) δ) : alLc ai (agName i) aYes ae vs δ G := lc_mapR n lo f δ small hw ht hi g
theorem lc_filterS' {ai : AI} {at_ : AT} {i : Nat} {vs : List Nat} {δ : List SD} {G : List PyData → List SD → Prop} (zs : List Str) (p : Str → Bool) (small : zs.length ≤ sizeLine) (hw : wipeD δ vs = δ)
    (ht : ∀ z ∈ zs, wipeD (δ.set i (.da (.str z))) vs = δ ∧ (δ.set i (.da (.str z)))[i]? = some (.da (.str z)) ∧ ∀ G' : Bool → List SD → Prop, G' (p z) (δ.set i (.da (.str z))) → at_ (δ.set i (.da (.str z))) G')
    (hi : ∀ G' : List PyData → List SD → Prop, G' (zs.map .str) δ → ai δ G') (g : G ((zs.filter p).map .str) δ) : alLc ai (agName i) at_ (aV i) vs δ G := lc_filterS zs p δ small hw ht hi g
theorem lc_mapS' {ai : AI} {ae : AE} {i : Nat} {vs : List Nat} {δ : List SD} {G : List PyData → List SD → Prop} (zs : List Str) (f : Str → PyData) (small : zs.length ≤ sizeLine) (hw : wipeD δ vs = δ)
    (ht : ∀ z ∈ zs, wipeD (δ.set i (.da (.str z))) vs = δ ∧ ∀ G' : PyData → List SD → Prop, G' (f z) (δ.set i (.da (.str z))) → ae (δ.set i (.da (.str z))) G')
    (hi : ∀ G' : List PyData → List SD → Prop, G' (zs.map .str) δ → ai δ G') (g : G (zs.map f) δ) : alLc ai (agName i) aYes ae vs δ G := lc_mapS zs f δ small hw ht hi g
theorem e_v {i : Nat} {δ : List SD} {d : PyData} {G : PyData → List SD → Prop} (h : δ[i]? = some (.da d)) (g : G d δ) : aV i δ G := by
  unfold aV
  rw [h]
  exact g
theorem s_if1 {a : AT} {x y : AS} {A : AEnds} {δ : List SD} (h : a δ fun c δ1 => if c = true then x A δ1 else y A δ1) : aIfS a x y A δ := h
/-! ### rows of pairs that are shown alike -/
structure PairsOk (n : Nat) (ds : List PyData) : Prop where
  len : ds.length ≤ n
  all : ∀ d ∈ ds, ∃ x y, d = .tuple [x, y] ∧ Shows x ∧ Shows y ∧ x.shown = y.shown
theorem PairsOk.one {x y : PyData} (e : x = y) (s : Shows y) : PairsOk 1 [.tuple [x, y]] := ⟨Nat.le_refl _, fun d hd => by
  subst e
  exact ⟨_, _, List.mem_singleton.mp hd, s, s, rfl⟩⟩
theorem PairsOk.app {n m : Nat} {ds es : List PyData} (h : PairsOk n ds) (k : PairsOk m es) : PairsOk (n + m) (ds ++ es) := ⟨by
  rw [List.length_append]
  have := h.len
  have := k.len
  omega, fun d hd => (List.mem_append.mp hd).elim (h.all d) (k.all d)⟩
theorem PairsOk.snoc {n : Nat} {ds : List PyData} {x y : PyData} (h : PairsOk n ds) (e : x = y) (s : Shows y) : PairsOk (n + 1) (ds ++ [.tuple [x, y]]) := h.app (.one e s)
theorem PairsOk.cons {n : Nat} {ds : List PyData} {x y : PyData} (e : x = y) (s : Shows y) (h : PairsOk n ds) : PairsOk (n + 1) (.tuple [x, y] :: ds) := by
  have := (PairsOk.one e s).app h
  rw [Nat.add_comm] at this
  exact this
theorem PairsOk.nil : PairsOk 0 [] := ⟨Nat.le_refl _, fun _ h => nomatch h⟩
theorem ac_gen {A : List SD → Prop} {δ : List SD} {i n : Nat} {ds : List PyData} (P : PairsOk n ds) (h : ∀ L, PairsOk n L → A (δ.set i (.ac L))) : A (δ.set i (.ac ds)) := h _ P
theorem pairs_none {ai : AI} {i : Nat} {vs : List Nat} {δ δ1 : List SD} {G : List PyData → List SD → Prop} {n : Nat} {ds : List PyData} (P : PairsOk n ds) (hn : n ≤ 1000) (hi : ∀ G' : List PyData → List SD → Prop, G' ds δ1 → ai δ G')
    (hw : wipeD δ1 vs = δ1) (hs : ∀ x, wipeD (δ1.set i (.da x)) vs = δ1 ∧ (δ1.set i (.da x))[i]? = some (.da x)) (g : G [] δ1) :
    alLc ai (agName i) (aMT (aOp (dEq true) (aCB dRepr (aCons (aOp dIx (aV i) (aC (.int 0))) aNil)) (aCB dRepr (aCons (aOp dIx (aV i) (aC (.int 1))) aNil)))) (aV i) vs δ G := by
  have hz := sizeLine_eq
  have hl := P.len
  refine hi _ ⟨fun j acc δ' => acc = [] ∧ δ' = δ1, ⟨rfl, rfl⟩, ?_, by omega, ?_⟩
  · rintro j x acc δ' hx _ _ ⟨rfl, rfl⟩
    obtain ⟨h1, h2⟩ := hs x
    obtain ⟨y, y', rfl, s1, s2, e⟩ := P.all x (List.mem_of_getElem? hx)
    show (aMT (aOp (dEq true) (aCB dRepr (aCons (aOp dIx (aV i) (aC (.int 0))) aNil)) (aCB dRepr (aCons (aOp dIx (aV i) (aC (.int 1))) aNil)))) ((wipeD δ' vs).set i _) _
    rw [hw]
    refine t_mt (e_op (e_cb (a_cons (e_op (e_v h2 ?_)))))
    refine ⟨y, rfl, s1, ?_⟩
    refine e_cb (a_cons (e_op (e_v h2 ?_)))
    refine ⟨y', rfl, s2, ?_⟩
    show if (true != decide (y.shown = y'.shown)) = true then _ else _
    rw [e, decide_eq_true rfl]
    rw [if_neg (by decide)]
    exact ⟨rfl, h1⟩
  · rintro acc δ' _ ⟨rfl, rfl⟩
    exact g
/-- a statement behind which the ways meet again -/
def aCut (a b : AS) : AS := fun A δ => ∃ I : List SD → Prop, a { A with nx := I } δ ∧ ∀ δ', I δ' → b A δ'
instance simCut {K : PySem.W.Frag} {T : List (Addr × Str)} {t u : TS} {a b : AS} [h1 : SimS K T t a] [h2 : SimS K T u b] : SimS K T (C8.tCut t u) (aCut a b) := ⟨fun {B M δ σ H D A} S h c => by
  obtain ⟨I, h, hI⟩ := h
  refine ⟨fun σ' H' => ∃ M' δ', I δ' ∧ Fr M H M' H' ∧ Sta K T B M' δ' σ' H', h1.run (A := { A with nx := I }) S h ⟨fun M' δ' σ' H' x f S' => ⟨M', δ', x, f, S'⟩, c.rt, c.bk, c.ct⟩, ?_⟩
  rintro σ' H' ⟨M', δ', x, f, S'⟩
  exact h2.run S' (hI δ' x) (c.fr f)⟩
theorem shaped_trd {zs : List Str} {e : List Nat} (T : Trd zs e) : SeqAt.shaped (treadD zs (S e)) = true :=
  (nice_tread (m := 201) (n := 200) T.ls T.few (by
    have := T.word T.en
    exact ⟨e, rfl, this.1, this.2.2⟩)).shaped (by decide)
theorem eqv_trd {zs ys : List Str} {e f : List Nat} : PyData.eqv (treadD zs (S e)) (treadD ys (S f)) = decide (zs = ys ∧ e = f) := by
  rw [eqv_tread]
  exact decide_eq_decide.mpr (and_congr Iff.rfl ⟨S_inj, congrArg S⟩)
theorem facZ_nat (zs : List Str) (e : List Nat) (m : Nat) : facZ zs e (m : Int) = zs := by
  unfold facZ
  rw [if_neg (by omega)]
theorem facE_nat (e : List Nat) (m : Nat) : facE e (m : Int) = e := by
  unfold facE
  rw [if_neg (by omega)]
theorem fits_mul {zs : List Str} {e : List Nat} (T : Trd zs e) {m n : Nat} (fm : fits zs e m) (f : fits zs e (m * n)) : fits (powZ zs e m).1 (powZ zs e m).2 n := fun j hj => by
  have f' : fits zs e (m * j) := fun i hi => f i (Nat.le_trans hi (Nat.mul_le_mul_left _ hj))
  rw [pow_mul T m fm j f']
  exact f' _ (Nat.le_refl _)
theorem pow_neg {zs : List Str} {e : List Nat} (T : Trd zs e) {m : Nat} (f : fits zs e m) : powZ (facZ zs e (-(m : Int))) (facE e (-(m : Int))) (-(m : Int)).natAbs = (turnS (powZ zs e m).1 (powZ zs e m).2, mir (powZ zs e m).2) := by
  have en : (-(m : Int)).natAbs = m := by omega
  rw [en]
  by_cases c : m = 0
  · subst c
    show ([S []], []) = (turnS [S []] [], mir [])
    rw [turn_nil trd_nil]
    rfl
  · unfold facZ facE
    rw [if_pos (by omega), if_pos (by omega)]
    exact pow_turn T m f
theorem fits_neg {zs : List Str} {e : List Nat} (T : Trd zs e) {m : Nat} (h : 1 + m * zs.length ≤ 201) : fits (facZ zs e (-(m : Int))) (facE e (-(m : Int))) (-(m : Int)).natAbs := by
  have en : (-(m : Int)).natAbs = m := by omega
  rw [en]
  have : (facZ zs e (-(m : Int))).length ≤ zs.length := by
    unfold facZ
    split
    · exact lenT
    · exact Nat.le_refl _
  exact fits_of (by
    have := Nat.mul_le_mul_left m this
    omega)
section
variable {K : PySem.W.Frag} {T : List (Addr × Str)}
def alBegin (ae : AE) : AA := fun δ G => ae δ fun d δ1 => ∃ u, d = .str (S u) ∧ u.length ≤ 1000 ∧ G ((begs u).map .str) δ1
instance simLBegin {E : XK} {te : TE} {ae : AE} [h1 : SimE K T te ae] : SimL K T (tCall spBegin [] E (tCons te tNil)) (alBegin ae) := ⟨fun {B M δ σ H Q G} S0 h q => h1.run S0 h fun v M1 H1 d δ1 g1 f1 S1 w1 => by
  obtain ⟨u, rfl, hu, g⟩ := g1
  cases dp_str w1
  refine ⟨u, rfl, hu, fun l H' s nl hl => ?_⟩
  have S2 := S1.same s
  have nM : l ∉ M1 := fun z => by obtain ⟨xs, e⟩ := S1.mu l z; rw [nl] at e; cases e
  have fr : Fr M1 H1 (l :: M1) H' := fun b o e => by
    obtain ⟨k1, k2, k3⟩ := of_imm e
    refine imm_of (fun z => ?_) (s _ _ k2) k3
    rcases List.mem_cons.mp z with rfl | z
    · rw [nl] at k2; cases k2
    · exact k1 z
  have nB : l ∉ B.hid := fun z => nM (S1.hd l z)
  refine q l ((begs u).map V.str) (l :: M1) H' ((begs u).map .str) δ1 g (f1.trans fr) ?_ ?_ (B.fresh _ _ S1.rel nl) nB
  · refine ⟨⟨S2.rel, hl⟩, S2.tb, fun b hb => ?_, fun b hb => ?_, S2.len, fun j x hx => ?_, S2.di⟩
    · rcases List.mem_cons.mp hb with rfl | hb
      · exact ⟨_, hl⟩
      · exact S2.mu b hb
    · rcases List.mem_cons.mp hb with rfl | hb
      · exact List.mem_cons_self ..
      · exact List.mem_cons_of_mem _ (S2.hd b hb)
    · have w := S1.sl j x hx
      cases x with
      | no => trivial
      | da d =>
        obtain ⟨v, e, w⟩ := w
        exact ⟨v, e, Dp.mono fr _ _ w⟩
      | pe n' =>
        obtain ⟨p2, e, w1, w2, w3⟩ := w
        obtain ⟨c1, cells1, a1, r1, k1, k2, k3, k4⟩ := w3.ex
        refine ⟨p2, e, List.mem_cons_of_mem _ w1, ⟨w2, fun z => by rw [z, nl] at k1; cases k1⟩, c1, cells1, a1, r1, s _ _ k1, s _ _ k2, fun z => ?_, k4⟩
        rcases List.mem_cons.mp z with rfl | z
        · rw [nl] at k2; cases k2
        · exact k3 z
      | ac ds' =>
        obtain ⟨l', vs', e, w1, w2, w3, w4, w5⟩ := w
        have ne : l' ≠ l := fun z => by rw [z, nl] at w3; cases w3
        refine ⟨l', vs', e, List.mem_cons_of_mem _ w1, ⟨w2, ne⟩, s _ _ w3, Dp.monoAll fr _ _ w4, fun z => ?_⟩
        rcases List.mem_cons.mp z with z | z
        · exact ne z
        · exact w5 z
      | ob R =>
        obtain ⟨p2, o, e, w1, w2⟩ := w
        exact ⟨p2, o, e, fr _ _ w1, w2⟩
      | di z kvs =>
        obtain ⟨p2, e, w1, w2⟩ := w
        exact ⟨p2, e, ⟨w1, w2.new nl⟩, w2.move (fun o h => s _ _ h) fr⟩
  · have := dp_strs (K := K) (H := imm (l :: M1) H') (begs u)
    exact this⟩
def nPartner : List PyData → Nat → (PyData → Nat → Prop) → Prop := fun ds n G => ∃ zs e sg, ds = [treadD zs (S e), .str (S sg)] ∧ n < 1000000000 ∧ Trd zs e ∧ zs.length ≤ 100 ∧ sg ≠ [] ∧ IsL sg ∧ sg.length ≤ 100 ∧
  ∀ ys f m, Trd ys f → ys.length ≤ zs.length + 9 → m ≤ n + 40 → G (treadD ys (S f)) m
end
end Xia

set_option Elab.async false
set_option linter.all false
set_option maxRecDepth 100000
set_option maxHeartbeats 4000000
set_option autoImplicit false
/-! Own: methods of texts at the level of data. -/
namespace Xia
open PySem PySem.Spec PyProof.Rows L2 SX LamX
def mLower : V → List V → Hp → VK → Prop := fun x xs H Q => ∃ a, x = .str a ∧ xs = [] ∧ a.length ≤ 5592405 ∧ Q (.str (Txt.lower a)) H
def mUpper : V → List V → Hp → VK → Prop := fun x xs H Q => ∃ a, x = .str a ∧ xs = [] ∧ a.length ≤ 5592405 ∧ Q (.str (Txt.upper a)) H
def dMt0 (f : Str → Str) : Str → List PyData → (PyData → Prop) → Prop := fun z ds G => ds = [] ∧ z.length ≤ 5592405 ∧ G (.str (f z))
section
variable {K : PySem.W.Frag} {T : List (Addr × Str)}
instance mtdLower : MtD K mLower (dMt0 Txt.lower) := ⟨fun {M H z vs ds Q G} m h g q => by
  obtain ⟨rfl, h1, g⟩ := g
  cases h
  exact ⟨z, rfl, rfl, h1, q _ _ _ g (.refl _) (.str _)⟩⟩
instance mtdUpper : MtD K mUpper (dMt0 Txt.upper) := ⟨fun {M H z vs ds Q G} m h g q => by
  obtain ⟨rfl, h1, g⟩ := g
  cases h
  exact ⟨z, rfl, rfl, h1, q _ _ _ g (.refl _) (.str _)⟩⟩
instance mtdSwap : MtD K (fun x xs H Q => ∃ a, x = V.str a ∧ xs = [] ∧ a.length ≤ 5592405 ∧ Q (.str (Txt.swapcase a)) H) (dMt0 Txt.swapcase) := ⟨fun {M H z vs ds Q G} m h g q => by
  obtain ⟨rfl, h1, g⟩ := g
  cases h
  exact ⟨z, rfl, rfl, h1, q _ _ _ g (.refl _) (.str _)⟩⟩
def dJoin : Str → List PyData → (PyData → Prop) → Prop := fun z ds G => ∃ ys : List Str, (ds = [.list (ys.map .str)] ∨ ds = [.tuple (ys.map .str)]) ∧ (ys.map (·.length)).sum + ys.length * z.length ≤ 16777216 ∧ G (.str (Txt.join z ys))
instance mtdJoin : MtD K (mJoin K) dJoin := ⟨fun {M H z vs ds Q G} m h g q => by
  obtain ⟨ys, h0, h1, g⟩ := g
  rcases h0 with rfl | rfl
  · obtain ⟨v, rfl, w⟩ := dp1 h
    obtain ⟨t, rfl, ht⟩ := dp_rowL w
    exact ⟨z, t, ys, rfl, rfl, .inl ht, h1, q _ _ _ g (.refl _) (.str _)⟩
  · obtain ⟨v, rfl, w⟩ := dp1 h
    obtain ⟨t, rfl, ht⟩ := dp_rowT w
    exact ⟨z, t, ys, rfl, rfl, .inr ht, h1, q _ _ _ g (.refl _) (.str _)⟩⟩
def aBack (ae : AE) : AE := fun δ G => ae δ fun d δ1 => match d with
  | .str z => z.length ≤ sizeLine ∧ G (.str (S z.cps.toList.reverse)) δ1
  | _ => False
instance simBack {te : TE} {ae : AE} [h1 : SimE K T te ae] : SimE K T (mBack K te) (aBack ae) := ⟨fun S h q => h1.run S h fun v M1 H1 d δ1 g1 f1 S1 w1 => by
  split at g1
  · cases w1
    exact ⟨g1.1, q _ _ _ _ _ g1.2 f1 S1 (.str _)⟩
  · exact g1.elim⟩
end
/-! ### letters -/
theorem up_low : ∀ c ∈ letC, (Txt.upper (S [c]) = S [c] ∧ Txt.lower (S [c]) = S [oth c]) ∨ (Txt.upper (S [c]) ≠ S [c] ∧ Txt.upper (S [c]) = S [oth c]) := by decide +kernel
theorem e_oth {i : Nat} {δ : List SD} {c : Nat} {G : PyData → List SD → Prop} (h : δ[i]? = some (.da (.str (S [c])))) (hc : c ∈ letC) (g : G (.str (S [oth c])) δ) :
    aIf (aMT (aOp (dEq false) (aM0 (dMt0 Txt.upper) (aV i)) (aV i))) (aM0 (dMt0 Txt.lower) (aV i)) (aM0 (dMt0 Txt.upper) (aV i)) δ G := by
  have l1 : (S [c]).length ≤ 5592405 := by rw [S_len]; show 1 ≤ _; decide
  have up : ∀ G' : PyData → List SD → Prop, G' (.str (Txt.upper (S [c]))) δ → aM0 (dMt0 Txt.upper) (aV i) δ G' := fun G' g' => by
    unfold aM0
    refine e_v h ?_
    exact ⟨rfl, l1, g'⟩
  have lo : ∀ G' : PyData → List SD → Prop, G' (.str (Txt.lower (S [c]))) δ → aM0 (dMt0 Txt.lower) (aV i) δ G' := fun G' g' => by
    unfold aM0
    refine e_v h ?_
    exact ⟨rfl, l1, g'⟩
  refine t_mt (e_op (up _ ?_))
  refine e_v h ?_
  show if (false != decide (Txt.upper (S [c]) = S [c])) = true then _ else _
  rw [ff_ne]
  rcases up_low c hc with ⟨h1, h2⟩ | ⟨h1, h2⟩
  · rw [decide_eq_true h1, if_pos rfl]
    refine lo _ ?_
    rw [h2]
    exact g
  · rw [decide_eq_false h1, if_neg Bool.false_ne_true]
    refine up _ ?_
    rw [h2]
    exact g
theorem signs_map (u : List Nat) : (u.map fun c => PyData.str ⟨#[c]⟩) = (u.map fun c => S [c]).map .str := by
  rw [List.map_map]
  rfl
theorem ones_sum (u : List Nat) : (((u.map fun c => S [c]).map (·.length)).sum) = u.length := by
  rw [List.map_map]
  induction u with
  | nil => rfl
  | cons c u ih =>
    rw [List.map_cons, List.sum_cons, ih]
    show (S [c]).length + _ = _
    rw [S_len]
    show 1 + u.length = u.length + 1
    omega
theorem e_m1s {o : Str → List PyData → (PyData → Prop) → Prop} {z : Str} {ax : AE} {δ : List SD} {G : PyData → List SD → Prop} (h : ax δ fun e δ2 => o z [e] fun r => G r δ2) : aM1 o (aC (.str z)) ax δ G := h
/-- a step of a walk, as the laws write it -/
theorem step_is (p : List Nat) (c : Nat) : (if (false != decide (cutS (S p) (some (-1)) none = S [oth c])) = true then S p.dropLast else S (p ++ [c])) = S (stp p c) := by
  rw [ff_ne, cut_last]
  unfold stp
  by_cases h : p.getLast? = some (oth c)
  · rw [if_pos h, decide_eq_true ((last_is p (oth c)).mpr h), if_pos rfl]
  · rw [if_neg h, decide_eq_false (fun z => h ((last_is p (oth c)).mp z)), if_neg Bool.false_ne_true]
theorem seen_prod {zs : List Str} {e p : List Nat} (T : Trd zs e) (hp : S p ∈ zs) : joinS (plc (mir p)) (mir p) zs = turnS zs p := by
  obtain ⟨p1, p2, p3⟩ := T.word hp
  have m1 := p1.mir
  have m2 := isP_mir p1 p2
  have Tm : Trd (plc (mir p)) (mir p) := plc_trd m1 (by rw [mir_len]; exact p3) (mem_plc.mpr ⟨_, trodL_end _, by rw [fol_nil m1 m2]⟩)
  refine ord_ext oJ oT (sJ Tm T.s) sT fun x => ?_
  rw [memJ, memT]
  constructor
  · rintro (h | h)
    · obtain ⟨w, hw, ew⟩ := mem_plc.mp h
      cases S_inj ew
      obtain ⟨i, _, rfl⟩ := trodL_mem hw
      rw [fol_nil (m1.take i) (isP_take m2 i)]
      obtain ⟨j, hj⟩ := pre_back p1 p2 i
      exact ⟨p.take j, shut_pre (A := fun w => S w ∈ zs) T.cl hp j, hj⟩
    · exact h
  · exact .inr
theorem home_prod {zs : List Str} {e p : List Nat} (T : Trd zs e) (hp : S p ∈ zs) : joinS (plc p) p (turnS zs p) = zs := by
  obtain ⟨p1, p2, p3⟩ := T.word hp
  have Tm : Trd (plc p) p := plc_trd p1 p3 (mem_plc.mpr ⟨_, trodL_end _, by rw [fol_nil p1 p2]⟩)
  refine ord_ext oJ T.asc (sJ Tm sT) T.s fun x => ?_
  rw [memJ]
  constructor
  · rintro (h | ⟨w, h, rfl⟩)
    · obtain ⟨w, hw, ew⟩ := mem_plc.mp h
      cases S_inj ew
      obtain ⟨i, _, rfl⟩ := trodL_mem hw
      rw [fol_nil (p1.take i) (isP_take p2 i)]
      exact shut_pre (A := fun w => S w ∈ zs) T.cl hp i
    · obtain ⟨v, k, rfl⟩ := memT.mp h
      rw [fol_home p1 p2 (T.word k).1 (T.word k).2.1]
      exact k
  · intro h
    refine .inr ⟨fol (mir p) x, memT.mpr ⟨x, h, rfl⟩, ?_⟩
    rw [fol_home p1 p2 (T.word h).1 (T.word h).2.1]
/-- a pair put in makes no difference to the end -/
theorem fol_pair {u v : List Nat} (hu : IsL u) (hv : IsL v) : fol (fol [] u) (v ++ mir v) = fol [] u := by
  rw [fol_app]
  exact fol_mir (IsL.fol .nil hu) (isP_fol .nil hu rfl) hv
end Xia

set_option Elab.async false
set_option linter.all false
set_option maxRecDepth 100000
set_option maxHeartbeats 4000000
set_option autoImplicit false
/-! Own: lambdas handed on, at the level of data; defs that use them. -/
namespace Xia
open PySem PySem.Spec PyProof.Rows L2 SX LamX
section
variable {K : PySem.W.Frag} {T : List (Addr × Str)}
/-- what a def does that may raise -/
class FnE (K : PySem.W.Frag) (sp : Sp) (o : outParam (List PyData → (PyData → Prop) → (Addr → Prop) → Prop)) : Prop where
  run : ∀ {M : List Addr} {H : Hp} {vs : List V} {ds : List PyData} {Q : VK} {E : XK} {G : PyData → Prop} {W : Addr → Prop}, MutOk M H → DpAll K (imm M H) vs ds → o ds G W →
    (∀ (v : V) (H' : Hp) (r' : PyData), G r' → Same H H' → Dp K (imm M H') v r' → Q v H') → (∀ (D : Addr) (H' : Hp), W D → Same H H' → E (.ref D) none H') → sp vs H Q E
def eProduct (C : Addr) : List PyData → (PyData → Prop) → (Addr → Prop) → Prop := fun ds G W => ∃ zs ys e f, ds = [treadD zs (S e), treadD ys (S f)] ∧ Trd zs e ∧ Trd ys f ∧
  (((joinS zs e ys).length ≤ 201 ∧ G (treadD (joinS zs e ys) (S (fol e f)))) ∨ (201 < (joinS zs e ys).length ∧ W C))
instance fnEProduct (C : Addr) : FnE K (spProduct K C) (eProduct C) := ⟨fun {M H vs ds Q E G W} m h g q w => by
  obtain ⟨zs, ys, e, f, rfl, h1, h2, g⟩ := g
  obtain ⟨x, y, rfl, w1, w2⟩ := dp2 h
  obtain ⟨t, rfl, ht⟩ := dp_trd w1
  obtain ⟨t2, rfl, ht2⟩ := dp_trd w2
  rcases g with ⟨h3, g⟩ | ⟨h3, g⟩
  · exact ⟨t, t2, rfl, rfl, zs, ys, e, f, h1, ht, h2, ht2, .inl ⟨h3, fun r H' s nr hr => q _ _ _ g s (hr.imm (m.same s))⟩⟩
  · exact ⟨t, t2, rfl, rfl, zs, ys, e, f, h1, ht, h2, ht2, .inr ⟨h3, fun H' s => w _ _ g s⟩⟩⟩
/-- x(lambda: f(..)), where x tells "great" for C -/
def aGreat (T : List (Addr × Str)) (C : Addr) (o : List PyData → (PyData → Prop) → (Addr → Prop) → Prop) (aa : AA) : AE := fun δ G => T ≠ [] ∧ aa δ fun ds δ1 => o ds (fun r => G r δ1) fun D => D = C ∧ G (.str "great") δ1
instance simGreat {C : Addr} {sp : Sp} {o : List PyData → (PyData → Prop) → (Addr → Prop) → Prop} {ta : TA} {aa : AA} [h1 : FnE K sp o] [h2 : SimA K T ta aa] : SimE K T (tLam T (TTgreat C) fun E => tCall sp [] E ta) (aGreat T C o aa) := ⟨fun S h q =>
  ⟨S.tb.1, fun H1 x1 t1 => h2.run (S.ext (S.tb.2 h.1) x1 t1) h.2 fun vs M2 H2 ds δ2 g f S2 w => by
    rw [List.append_nil]
    have f' := (Fr.ext x1).trans f
    refine h1.run S2.mu w g (fun v H' r' gr s w' => q _ _ _ _ _ gr (f'.trans (Fr.of s)) (S2.same s) w') fun D H' gW s => ⟨rfl, by rw [gW.1], fun H'' s'' => ?_⟩
    have s2 := s.trans s''
    exact q _ _ _ _ _ gW.2 (f'.trans (Fr.of s2)) (S2.same s2) (.str _)⟩⟩
/-- x(lambda: f(..)), where x tells the name of the class raised, "fine" for none -/
def aErr (T : List (Addr × Str)) (ws : List (Addr × Str)) (o : List PyData → (PyData → Prop) → (Addr → Prop) → Prop) (aa : AA) : AE := fun δ G => T ≠ [] ∧ aa δ fun ds δ1 => o ds (fun _ => G (.str "fine") δ1) fun D => ∃ z, (D, z) ∈ ws ∧ G (.str z) δ1
instance simErr {ws : List (Addr × Str)} {sp : Sp} {o : List PyData → (PyData → Prop) → (Addr → Prop) → Prop} {ta : TA} {aa : AA} [h1 : FnE K sp o] [h2 : SimA K T ta aa] : SimE K T (tLam T (TTerr ws) fun E => tCall sp [] E ta) (aErr T ws o aa) := ⟨fun S h q =>
  ⟨S.tb.1, fun H1 x1 t1 => h2.run (S.ext (S.tb.2 h.1) x1 t1) h.2 fun vs M2 H2 ds δ2 g f S2 w => by
    rw [List.append_nil]
    have f' := (Fr.ext x1).trans f
    refine h1.run S2.mu w g (fun v H' r' gr s w' => q _ _ _ _ _ gr (f'.trans (Fr.of s)) (S2.same s) (.str _)) fun D H' gW s => ?_
    obtain ⟨z, hz, g2⟩ := gW
    refine ⟨rfl, D, z, rfl, hz, fun H'' s'' => ?_⟩
    have s2 := s.trans s''
    exact q _ _ _ _ _ g2 (f'.trans (Fr.of s2)) (S2.same s2) (.str _)⟩⟩
/-! ### defs that use lambdas -/
/-- all but the tables and the pen's place stays -/
structure SamX (p : Addr) (H H' : Hp) : Prop where
  st : ∀ (b : Addr) (o : HO), b ≠ p → H b = some o → (∀ ps, o ≠ .tbl ps) → H' b = some o
  kp : ∀ c a r, H p = some (.lst [.ref c, .int a, .int r]) → ∃ a' r', H' p = some (.lst [.ref c, .int a', .int r'])
theorem SamX.trans {p : Addr} {H H1 H2 : Hp} (a : SamX p H H1) (b : SamX p H1 H2) : SamX p H H2 := ⟨fun x o n h t => b.st x o n (a.st x o n h t) t, fun c x y h => by
  obtain ⟨x', y', h'⟩ := a.kp c x y h
  exact b.kp c x' y' h'⟩
theorem SamX.of {p : Addr} {H H' : Hp} (s : SamQ p H H') : SamX p H H' := ⟨fun b o n h _ => s.st b o n h, s.kp⟩
theorem SamX.ext {p : Addr} {H H' : Hp} (x : ExtN H H') : SamX p H H' := ⟨fun b o _ h t => x b o h t, fun c a r h => ⟨a, r, x _ _ h (by intro ps z; cases z)⟩⟩
theorem SamX.refl (p : Addr) (H : Hp) : SamX p H H := .ext fun _ _ h _ => h
/-- the pen was used by a def with lambdas -/
theorem Sta.penX {B : Bas} {M : List Addr} {δ : List SD} {σ : L2.St} {H H' : Hp} (S : Sta K T B M δ σ H) (k : B.lam) {i n m : Nat} {p : Addr} (h : δ[i]? = some (.pe n)) (hp : σ[i]? = some (some (.ref p))) (s : SamX p H H') (q : PenAt m H' p) (t : Tabs T H') :
    Sta K T B M (δ.set i (.pe m)) σ H' ∧ Fr M H M H' := by
  obtain ⟨p', e, h1, h2, h3⟩ := S.sl i _ h
  rw [hp] at e
  cases e
  obtain ⟨c, cells, a, r, k1, k2, k3, k4⟩ := h3.ex
  obtain ⟨a', r', k5⟩ := s.kp c a r k1
  have nc : c ≠ p := fun z => k3 (z ▸ h1)
  have sQ : SamQ p H (upd H p (.lst [.ref c, .int a', .int r'])) := .upd k1
  have x2 : ExtN (upd H p (.lst [.ref c, .int a', .int r'])) H' := fun b o hb t => by
    by_cases z : b = p
    · subst z
      rw [upd_same] at hb
      cases hb
      exact k5
    · rw [upd_ne z] at hb
      exact s.st b o z hb t
  have q2 : PenAt m (upd H p (.lst [.ref c, .int a', .int r'])) p := by
    obtain ⟨c', cells', a2, r2, g1, g2, g3, g4⟩ := q.ex
    rw [k5] at g1
    cases g1
    exact ⟨c, cells, a', r', upd_same, by rw [upd_ne nc]; exact k2, nc, g4⟩
  exact ⟨(S.pen h hp sQ q2).ext k x2 t, (Fr.sp sQ.st h1).trans (Fr.ext x2)⟩
/-- what a def does that uses the pen and lambdas -/
class FnNX (K : PySem.W.Frag) (T : List (Addr × Str)) (sp : Sp) (o : outParam (List PyData → Nat → (PyData → Nat → Prop) → Prop)) : Prop where
  run : ∀ {M : List Addr} {H : Hp} {p : Addr} {n : Nat} {vs : List V} {ds : List PyData} {Q : VK} {E : XK} {G : PyData → Nat → Prop}, MutOk M H → p ∈ M → PenI n M H p → Tabs T H → DpAll K (imm M H) vs ds → o ds n G →
    (∀ (v : V) (H' : Hp) (r' : PyData) (m : Nat), G r' m → SamX p H H' → PenAt m H' p → MutOk M H' → Tabs T H' → Dp K (imm M H') v r' → Q v H') → sp (.ref p :: vs) H Q E
class FnDX (K : PySem.W.Frag) (T : List (Addr × Str)) (sp : Sp) (o : outParam (List PyData → (PyData → Prop) → Prop)) : Prop where
  run : ∀ {M : List Addr} {H : Hp} {vs : List V} {ds : List PyData} {Q : VK} {E : XK} {G : PyData → Prop}, MutOk M H → Tabs T H → DpAll K (imm M H) vs ds → o ds G →
    (∀ (v : V) (H' : Hp) (r' : PyData), G r' → ExtN H H' → Tabs T H' → Dp K (imm M H') v r' → Q v H') → sp vs H Q E
def aCBX (T : List (Addr × Str)) (o : List PyData → (PyData → Prop) → Prop) (aa : AA) : AE := fun δ G => T ≠ [] ∧ aa δ fun ds δ1 => o ds fun r => G r δ1
instance simCallX {sp : Sp} {E : XK} {o : List PyData → (PyData → Prop) → Prop} {ta : TA} {aa : AA} [ho : FnDX K T sp o] [ha : SimA K T ta aa] : SimE K T (tCall sp [] E ta) (aCBX T o aa) := ⟨fun S h q =>
  ha.run S h.2 fun vs M1 H1 ds δ1 g1 f1 S1 w1 => by
    rw [List.append_nil]
    exact ho.run S1.mu S1.tb.1 w1 g1 fun v H3 r' g3 x3 t3 w3 => q _ _ _ _ _ g3 (f1.trans (Fr.ext x3)) (S1.ext (S1.tb.2 h.1) x3 t3) w3⟩
def aPenX (T : List (Addr × Str)) (i : Nat) (o : List PyData → Nat → (PyData → Nat → Prop) → Prop) (aa : AA) : AE := fun δ G => T ≠ [] ∧ aPen i o aa δ G
instance simPenX {sp : Sp} {E : XK} {i : Nat} {o : List PyData → Nat → (PyData → Nat → Prop) → Prop} {ta : TA} {aa : AA} [ho : FnNX K T sp o] [ha : SimA K T ta aa] : SimE K T (tCall sp [] E (tCons (tV i) ta)) (aPenX T i o aa) := ⟨fun {B M δ σ H Q G} S h q => by
  obtain ⟨hT, h⟩ := h
  unfold aPen at h
  split at h
  · rename_i n0 e0
    obtain ⟨p, e2, _⟩ := S.sl _ _ e0
    show tV i σ H fun v H1 => ta σ H1 fun vs H2 => sp ((v :: vs) ++ []) H2 Q E
    unfold tV
    rw [e2]
    refine ha.run S h fun vs M1 H1 ds δ1 g1 f1 S1 w1 => ?_
    rw [List.append_nil]
    split at g1
    · rename_i n1 e1
      obtain ⟨p', e3, h1, h2, h3⟩ := S1.sl _ _ e1
      rw [e2] at e3
      cases e3
      exact ho.run S1.mu h1 h3 S1.tb.1 w1 g1 fun v H3 r' m g3 s3 p3 m3 t3 w3 => by
        obtain ⟨S3, f3⟩ := S1.penX (S1.tb.2 hT) e1 e2 s3 p3 t3
        exact q _ _ _ _ _ g3 (f1.trans f3) S3 w3
    · exact g1.elim
  · exact h.elim⟩
def spDX (K : PySem.W.Frag) (T : List (Addr × Str)) (n : Nat) (o : List PyData → (PyData → Prop) → Prop) : Sp := fun vs H Q _ => ∃ (M : List Addr) (ds : List PyData) (G : PyData → Prop), ds.length = n ∧ MutOk M H ∧ Tabs T H ∧ DpAll K (imm M H) vs ds ∧ o ds G ∧
  ∀ (v : V) (H' : Hp) (r : PyData), G r → ExtN H H' → Tabs T H' → Dp K (imm M H') v r → Q v H'
theorem spDX.len {n : Nat} {o : List PyData → (PyData → Prop) → Prop} {vs : List V} {H : Hp} {Q : VK} {E : XK} (h : spDX K T n o vs H Q E) : vs.length = n := by
  obtain ⟨M, ds, G, e, _, _, w, _⟩ := h
  rw [dpAll_len w, e]
instance fnSpDX {n : Nat} {o : List PyData → (PyData → Prop) → Prop} : FnDX K T (spDX K T n o) (dLenIs n o) := ⟨fun {M H vs ds Q E G} m t h g q => ⟨M, ds, G, g.1, m, t, h, g.2, q⟩⟩
def spNX (K : PySem.W.Frag) (T : List (Addr × Str)) (n : Nat) (o : List PyData → Nat → (PyData → Nat → Prop) → Prop) : Sp := fun vs H Q _ => ∃ (M : List Addr) (p : Addr) (m : Nat) (us : List V) (ds : List PyData) (G : PyData → Nat → Prop), vs = .ref p :: us ∧ ds.length + 1 = n ∧ MutOk M H ∧ p ∈ M ∧ PenI m M H p ∧ Tabs T H ∧ DpAll K (imm M H) us ds ∧ o ds m G ∧
  ∀ (v : V) (H' : Hp) (r : PyData) (m' : Nat), G r m' → SamX p H H' → PenAt m' H' p → MutOk M H' → Tabs T H' → Dp K (imm M H') v r → Q v H'
theorem spNX.len {n : Nat} {o : List PyData → Nat → (PyData → Nat → Prop) → Prop} {vs : List V} {H : Hp} {Q : VK} {E : XK} (h : spNX K T n o vs H Q E) : vs.length = n := by
  obtain ⟨M, p, m, us, ds, G, rfl, e, _, _, _, _, w, _⟩ := h
  rw [List.length_cons, dpAll_len w, e]
instance fnSpNX {n : Nat} {o : List PyData → Nat → (PyData → Nat → Prop) → Prop} : FnNX K T (spNX K T n o) (nLenIs n o) := ⟨fun {M H p m vs ds Q E G} mu hM hp t h g q => ⟨M, p, m, vs, ds, G, rfl, g.1, mu, hM, hp, t, h, g.2, q⟩⟩
/-- what was there is there, but for tables -/
def Bas.keepX (H0 : Hp) (M0 : List Addr) : Bas where
  Rel H := ExtN H0 H
  ok l := ∀ o, H0 l = some o → ∃ ps, o = .tbl ps
  okp _ := False
  hid := M0
  same _ _ h s := fun b o e t => s _ _ (h b o e t)
  upd _ l _ h n := fun b o e t => by
    have ne : b ≠ l := fun z => by
      subst z
      obtain ⟨ps, rfl⟩ := n o e
      exact t ps rfl
    rw [upd_ne ne]
    exact h b o e t
  pen _ _ _ _ n _ := n.elim
  fresh _ l h n := fun o e => by
    cases o with
    | tbl ps => exact ⟨ps, rfl⟩
    | _ => rw [h l _ e (by intro ps z; cases z)] at n; cases n
  lam := True
  ext _ _ _ h x := fun b o e t => x b o (h b o e t) t
/-- all but the pen at p and tables -/
def Bas.penX (H0 : Hp) (M0 : List Addr) (p : Addr) : Bas where
  Rel H := SamX p H0 H ∧ ∃ (c : Addr) (a r : Int), H p = some (.lst [.ref c, .int a, .int r])
  ok l := (∀ o, H0 l = some o → ∃ ps, o = .tbl ps) ∧ l ≠ p
  okp q := q = p
  hid := M0
  same _ _ h s := ⟨h.1.trans (.of (.of s)), by
    obtain ⟨c, a, r, e⟩ := h.2
    exact ⟨c, a, r, s _ _ e⟩⟩
  upd H l o h n := ⟨⟨fun b u nb e t => by
    have ne : b ≠ l := fun z => by
      subst z
      obtain ⟨ps, rfl⟩ := n.1 u e
      exact t ps rfl
    rw [upd_ne ne]
    exact h.1.st b u nb e t, fun c a r e => by
    obtain ⟨a', r', k⟩ := h.1.kp c a r e
    exact ⟨a', r', by rw [upd_ne (Ne.symm n.2)]; exact k⟩⟩, by
    obtain ⟨c, a, r, e⟩ := h.2
    exact ⟨c, a, r, by rw [upd_ne (Ne.symm n.2)]; exact e⟩⟩
  pen H H' q h e s := by
    obtain ⟨c, a, r, k⟩ := h.2
    subst e
    exact ⟨h.1.trans (.of s), by
        obtain ⟨a', r', k'⟩ := s.kp c a r k
        exact ⟨c, a', r', k'⟩⟩
  fresh H l h n := by
    obtain ⟨c, a, r, k⟩ := h.2
    have ne : l ≠ p := fun z => by rw [z, k] at n; cases n
    refine ⟨fun o e => ?_, ne⟩
    cases o with
    | tbl ps => exact ⟨ps, rfl⟩
    | _ => rw [h.1.st l _ ne e (by intro ps z; cases z)] at n; cases n
  lam := True
  ext _ _ _ h x := ⟨h.1.trans (.ext x), by
    obtain ⟨c, a, r, e⟩ := h.2
    exact ⟨c, a, r, x _ _ e (by intro ps z; cases z)⟩⟩
theorem go_pureX {n : Nat} {o : List PyData → (PyData → Prop) → Prop} {ts : TS} {as_ : AS} [hs : SimS K T ts as_] {N : List Str} {vs : List V} {H : Hp} {Q : VK} {E : XK} (k : Nat) (hN : N.length = n + k) (h : spDX K T n o vs H Q E)
    (g : ∀ (ds : List PyData) (G : PyData → Prop), ds.length = n → o ds G → as_ ⟨fun _ => G .none, fun d _ => G d, fun _ => False, fun _ => False⟩ (ds.map .da ++ List.replicate k .no)) :
    ts { nx := fun _ H' => Q .non H', rt := Q } (L2.start N vs) H := by
  have hv := spDX.len h
  obtain ⟨M, ds, G, e, mu, tb, w, ho, q⟩ := h
  rw [start_split hN hv]
  have S1 : Sta K T (Bas.keepX H M) M (ds.map .da ++ List.replicate k .no) (vs.map some ++ List.replicate k none) H := by
    refine ⟨(fun _ _ e _ => e : ExtN H H), ⟨tb, fun _ => trivial⟩, mu, fun b hb => hb, by simp [hv, e], fun i s h => ?_, fun i j s t ne h1 h2 m1 m2 => ?_⟩
    · by_cases c : i < ds.length
      · rw [List.getElem?_append_left (by rw [List.length_map]; exact c), List.getElem?_map] at h
        obtain ⟨d, e1, rfl⟩ := Option.map_eq_some_iff.mp h
        obtain ⟨v, e2, wd⟩ := dpAll_at' w e1
        refine ⟨v, ?_, wd⟩
        rw [List.getElem?_append_left (by rw [List.length_map, hv, ← e]; exact c), List.getElem?_map, e2]
        rfl
      · rw [List.getElem?_append_right (by rw [List.length_map]; omega)] at h
        rw [(List.mem_replicate.mp (List.mem_of_getElem? h)).2]
        trivial
    · exfalso
      have := List.mem_of_getElem? h1
      rcases List.mem_append.mp this with h | h
      · obtain ⟨d, _, rfl⟩ := List.mem_map.mp h
        cases m1
      · rw [(List.mem_replicate.mp h).2] at m1
        cases m1
  have back : ∀ {M' : List Addr} {δ' : List SD} {σ' : L2.St} {H' : Hp}, Sta K T (Bas.keepX H M) M' δ' σ' H' → Fr M' H' M H' := fun S => Fr.sub S.hd
  exact hs.run S1 (g ds G e ho) ⟨fun M' δ' σ' H' z f S => q _ _ _ z S.rel S.tb.1 .non, fun v d M' δ' σ' H' z f S w => q _ _ _ z S.rel S.tb.1 (Dp.mono (back S) _ _ w), fun M' δ' σ' H' z _ _ => z.elim, fun M' δ' σ' H' z _ _ => z.elim⟩
theorem go_penX {n : Nat} {o : List PyData → Nat → (PyData → Nat → Prop) → Prop} {ts : TS} {as_ : AS} [hs : SimS K T ts as_] {N : List Str} {vs : List V} {H : Hp} {Q : VK} {E : XK} (k : Nat) (hN : N.length = n + k) (h : spNX K T n o vs H Q E)
    (g : ∀ (ds : List PyData) (m : Nat) (G : PyData → Nat → Prop), ds.length + 1 = n → o ds m G → as_ ⟨fun δ => ∃ m', δ[0]? = some (.pe m') ∧ G .none m', fun d δ => ∃ m', δ[0]? = some (.pe m') ∧ G d m', fun _ => False, fun _ => False⟩ (.pe m :: (ds.map .da ++ List.replicate k .no))) :
    ts { nx := fun _ H' => Q .non H', rt := Q } (L2.start N vs) H := by
  have hv := spNX.len h
  obtain ⟨M, p, m, us, ds, G, rfl, e, mu, hM, hp, tb, w, ho, q⟩ := h
  rw [start_split hN hv]
  have hu : us.length = ds.length := dpAll_len w
  have S1 : Sta K T (Bas.penX H M p) M (.pe m :: (ds.map .da ++ List.replicate k .no)) ((V.ref p :: us).map some ++ List.replicate k none) H := by
    obtain ⟨c0, cells0, a0, r0, g0, _⟩ := hp.ex
    have old : ∀ (i : Nat) (s : SD), (ds.map SD.da ++ List.replicate k .no)[i]? = some s → SlotOk K (Bas.penX H M p) M H ((us.map some ++ List.replicate k none)[i]?) s ∧ s.mut = false := fun i s h => by
      by_cases c : i < ds.length
      · rw [List.getElem?_append_left (by rw [List.length_map]; exact c), List.getElem?_map] at h
        obtain ⟨d, e1, rfl⟩ := Option.map_eq_some_iff.mp h
        obtain ⟨v, e2, wd⟩ := dpAll_at' w e1
        refine ⟨⟨v, ?_, wd⟩, rfl⟩
        rw [List.getElem?_append_left (by rw [List.length_map, hu]; exact c), List.getElem?_map, e2]
        rfl
      · rw [List.getElem?_append_right (by rw [List.length_map]; omega)] at h
        rw [(List.mem_replicate.mp (List.mem_of_getElem? h)).2]
        exact ⟨trivial, rfl⟩
    refine ⟨⟨SamX.refl p H, c0, a0, r0, g0⟩, ⟨tb, fun _ => trivial⟩, mu, fun b hb => hb, by simp [hu], fun i s h => ?_, fun i j s t ne h1 h2 m1 m2 => ?_⟩
    · match i, h with
      | 0, h => cases h; exact ⟨p, rfl, hM, rfl, hp⟩
      | i + 1, h => exact (old i s h).1
    · have only : ∀ (i : Nat) (s : SD), (SD.pe m :: (ds.map SD.da ++ List.replicate k .no))[i]? = some s → s.mut = true → i = 0 := fun i s h mm => by
        match i, h with
        | 0, h => rfl
        | i + 1, h => rw [(old i s h).2] at mm; cases mm
      exact absurd ((only i s h1 m1).trans (only j t h2 m2).symm) ne
  have back : ∀ {M' : List Addr} {δ' : List SD} {σ' : L2.St} {H' : Hp}, Sta K T (Bas.penX H M p) M' δ' σ' H' → Fr M' H' M H' := fun S => Fr.sub S.hd
  have hp0 : ∀ {M' : List Addr} {δ' : List SD} {H' : Hp} {m' : Nat} {σ' : L2.St}, Sta K T (Bas.penX H M p) M' δ' σ' H' → δ'[0]? = some (.pe m') → PenAt m' H' p := fun S e0 => by
    obtain ⟨p', k1, k2, k3, k4⟩ := S.sl _ _ e0
    have k3 : p' = p := k3
    subst k3
    exact k4.at_ k2
  have mk : ∀ {M' : List Addr} {δ' : List SD} {σ' : L2.St} {H' : Hp}, Sta K T (Bas.penX H M p) M' δ' σ' H' → MutOk M H' := fun S b hb => S.mu b (S.hd b hb)
  exact hs.run S1 (g ds m G e ho) ⟨fun M' δ' σ' H' z f S => by
    obtain ⟨m', e0, z⟩ := z
    exact q _ _ _ _ z S.rel.1 (hp0 S e0) (mk S) S.tb.1 .non, fun v d M' δ' σ' H' z f S w => by
    obtain ⟨m', e0, z⟩ := z
    exact q _ _ _ _ z S.rel.1 (hp0 S e0) (mk S) S.tb.1 (Dp.mono (back S) _ _ w), fun M' δ' σ' H' z _ _ => z.elim, fun M' δ' σ' H' z _ _ => z.elim⟩
/-- the law, when lambdas are in it or in what it calls -/
def spLawX (K : PySem.W.Frag) (T : List (Addr × Str)) : Sp := Sp1 fun x H Q E => ∃ (a : Addr) (ns : List Int), x = .ref a ∧ SqL K H a (ns.map V.int) ∧ ns.length ≤ 63 ∧ Tabs T H ∧ ∀ H', Q (.bl true) H'
theorem uniq_of {P : Addr} {q : Str} : ∀ {T : List (Addr × Str)}, (T.map (·.1)).Nodup → (P, q) ∈ T → ∀ p ∈ T, p.1 = P → p.2 = q
  | [], _, h, _, _, _ => nomatch h
  | (a, b) :: T, n, h, p, hp, e => by
    have n1 : a ∉ T.map (·.1) ∧ (T.map (·.1)).Nodup := List.nodup_cons.mp n
    rcases List.mem_cons.mp h with h | h
    · cases h
      rcases List.mem_cons.mp hp with hp | hp
      · rw [hp]
      · exact absurd (List.mem_map.mpr ⟨p, hp, e⟩) n1.1
    · rcases List.mem_cons.mp hp with hp | hp
      · subst hp
        exact absurd (List.mem_map.mpr ⟨(P, q), h, e.symm⟩) n1.1
      · exact uniq_of n1.2 h p hp e
/-- x(lambda: body), one of several tables -/
theorem pLamN {X : Cx} {T : List (Addr × Str)} {TT : (XK → Hp → VK → Prop) → Hp → VK → Prop} {x a : Str} {c P : Addr} {k j : Nat} {params : Arguments} {body : Expr} {scope : Scope} {t : XK → TE} {p lpos pos : Pos}
    (D : LamD X.prog X.w X.K X.mg X.base j x a TT) (hr : Room (k + 2) X.A) (hr2 : Room (j + 1) X.A) (TB : TabB X.base X.mg c P) (hcode : X.env.code = .ref c) (hT : (P, X.env.qual ++ "<lambda>") ∈ T) (hU : ∀ p ∈ T, p.1 = P → p.2 = X.env.qual ++ "<lambda>") (L : LamS X.env.scope scope) (hdef : defaultsOf params X.env = ([], []))
    (hbind : ∀ (q : Str) (cl : List (Str × Addr)) (pm cv ctv : Value), bindArgs (PySem.W.kla_fn "<lambda>" q params body scope cl pm cv ctv) ⟨[], []⟩ = pure [])
    (hbody : ∀ (A : Around) (out : List Env) (s : Shared) (H : Hp) (E : XK) (f c' : Addr), Room k (A.deeper (lamEnv X scope s.heap.objs.size f c')) → PE (lamCx X A out s H E scope f c') body (t E)) (hg : Gl X x := by rfl)
    (hdb : (x == ("__debug__" : Str)) = false := by decide) (hd : (a == ("__debug__" : Str)) = false := by decide) (hcd : (a == ("__classdict__" : Str)) = false := by decide) :
    PE X (.Call (.Name x p) [.Lambda params body scope lpos] [] pos) (tLam T TT t) := by
  obtain ⟨g, oc, kV, doc, pm, cdv, ct, od, an, osl, pg, bg, sg, Ng, lk, hcg, hm, hk, hb, Sg, hN, hv, hG⟩ := D.ex
  exact pe_lamcall (c := c) (P := P) hg hm hk lk hcg hb Sg hN hv (hG X _ rfl rfl rfl rfl rfl hr2) TB hcode hT hU hr L hdef hbind hbody hdb hd hcd
theorem dpAll_ints {H : Hp} : ∀ {ns : List Int} {vs : List V}, DpAll K H vs (ns.map .int) → vs = ns.map V.int
  | [], _, h => by cases h; rfl
  | n :: ns, _, h => by
    cases h with
    | cons a b =>
      cases a
      rw [dpAll_ints b]
      rfl
def dMin : List PyData → (PyData → Prop) → Prop := fun ds G => ∃ ns : List Int, ds = [.list (ns.map .int)] ∧ 0 < ns.length ∧ ∀ m ∈ ns, (∀ y ∈ ns, m ≤ y) → G (.int m)
def dMax : List PyData → (PyData → Prop) → Prop := fun ds G => ∃ ns : List Int, ds = [.list (ns.map .int)] ∧ 0 < ns.length ∧ ∀ m ∈ ns, (∀ y ∈ ns, y ≤ m) → G (.int m)
instance cbdMin : CbD K (rMin K) dMin := ⟨fun {M H vs ds Q G} m h g q => by
  obtain ⟨ns, rfl, g1, g2⟩ := g
  cases h with
  | cons a b =>
    cases b
    cases a with
    | lst x y =>
      rw [dpAll_ints y] at x
      exact ⟨_, ns, rfl, sqL_same (imm_sub _ _) x, g1, fun m hm hy => q _ _ _ (g2 m hm hy) (.refl _) (.int _)⟩⟩
instance cbdMax : CbD K (rMax K) dMax := ⟨fun {M H vs ds Q G} m h g q => by
  obtain ⟨ns, rfl, g1, g2⟩ := g
  cases h with
  | cons a b =>
    cases b
    cases a with
    | lst x y =>
      rw [dpAll_ints y] at x
      exact ⟨_, ns, rfl, sqL_same (imm_sub _ _) x, g1, fun m hm hy => q _ _ _ (g2 m hm hy) (.refl _) (.int _)⟩⟩
theorem tabs_nil {H : Hp} : ∀ {T : List (Addr × Str)}, (∀ p ∈ T, H p.1 = some (.tbl #[])) → Tabs T H := fun h p hp => LamX.TabS.nil (h p hp)
end
end Xia

set_option Elab.async false
set_option linter.all false
set_option maxRecDepth 100000
set_option maxHeartbeats 4000000
set_option autoImplicit false
/-! Own: ways between places; the first of the shortest walks by all goals. -/
namespace Xia
/-- y begins p -/
abbrev pr (y p : List Nat) : Bool := y.isPrefixOf p
theorem pr_iff {y p : List Nat} : pr y p = true ↔ y <+: p := List.isPrefixOf_iff_prefix
theorem pr_self (p : List Nat) : pr p p = true := pr_iff.mpr (List.prefix_refl p)
theorem pr_long {y p : List Nat} (h : p.length < y.length) : pr y p = false := by
  rw [Bool.eq_false_iff]
  intro z
  have := (pr_iff.mp z).length_le
  omega
theorem pr_snoc (y p : List Nat) (c : Nat) : pr y (p ++ [c]) = (pr y p || decide (y = p ++ [c])) := by
  rw [Bool.eq_iff_iff, Bool.or_eq_true, pr_iff, pr_iff, decide_eq_true_eq, List.prefix_concat_iff]
  exact or_comm
/-- the longer one of p and of the place behind it -/
def edg (p : List Nat) (c : Nat) : List Nat := if p.getLast? = some (oth c) then p else p ++ [c]
theorem last_split {p : List Nat} {d : Nat} (e : p.getLast? = some d) : ∃ q, p = q ++ [d] := by
  refine ⟨p.dropLast, ?_⟩
  have hne : p ≠ [] := fun z => by rw [z] at e; cases e
  rw [List.getLast?_eq_some_getLast hne] at e
  rw [← Option.some.inj e, List.dropLast_concat_getLast]
/-- a step goes over just one edge -/
theorem pr_stp (p : List Nat) (c : Nat) (y : List Nat) : pr y (stp p c) = (pr y p ^^ decide (y = edg p c)) := by
  by_cases e : p.getLast? = some (oth c)
  · have e1 : stp p c = p.dropLast := if_pos e
    have e2 : edg p c = p := if_pos e
    obtain ⟨q, rfl⟩ := last_split e
    rw [e1, e2, List.dropLast_concat, pr_snoc]
    by_cases h : y = q ++ [oth c]
    · have : pr y q = false := pr_long (by rw [h, List.length_append]; exact Nat.lt_succ_self _)
      rw [this, decide_eq_true h]
      rfl
    · rw [decide_eq_false h]
      cases pr y q <;> rfl
  · have e1 : stp p c = p ++ [c] := if_neg e
    have e2 : edg p c = p ++ [c] := if_neg e
    rw [e1, e2, pr_snoc]
    by_cases h : y = p ++ [c]
    · have : pr y p = false := pr_long (by rw [h, List.length_append]; exact Nat.lt_succ_self _)
      rw [this, decide_eq_true h]
      rfl
    · rw [decide_eq_false h]
      cases pr y p <;> rfl
theorem pr_ne {p y : List Nat} {c : Nat} (h : y ≠ edg p c) : pr y (stp p c) = pr y p := by
  rw [pr_stp, decide_eq_false h]
  cases pr y p <;> rfl
theorem pr_eq (p : List Nat) (c : Nat) : pr (edg p c) (stp p c) = !pr (edg p c) p := by
  rw [pr_stp, decide_eq_true rfl]
  cases pr (edg p c) p <;> rfl
theorem edg_back {p : List Nat} {c : Nat} (hp : IsL p) (h : isP p = true) (hc : c ∈ letC) : edg (stp p c) (oth c) = edg p c := by
  have k := pr_stp (stp p c) (oth c) (edg p c)
  rw [stp_stp hp h hc, pr_eq] at k
  apply Classical.byContradiction
  intro ne
  rw [decide_eq_false (Ne.symm ne)] at k
  revert k
  cases pr (edg p c) p <;> decide
/-- x lies on the way from p to g -/
def onw (p g x : List Nat) : Prop := ∀ y, pr y x = pr y p ∨ pr y x = pr y g
theorem onw_l (p g : List Nat) : onw p g p := fun _ => .inl rfl
theorem onw_r (p g : List Nat) : onw p g g := fun _ => .inr rfl
theorem onw_sub {p g x : List Nat} (h : onw p g x) : x <+: p ∨ x <+: g := by
  rcases h x with k | k
  · exact .inl (pr_iff.mp (k.symm.trans (pr_self x)))
  · exact .inr (pr_iff.mp (k.symm.trans (pr_self x)))
/-- the way to what is beyond an edge has just one place on this side, if it starts there -/
theorem near_one {p g x : List Nat} {c : Nat} (hg : pr (edg p c) g ≠ pr (edg p c) p) (h : onw p g x) (hx : pr (edg p c) x = pr (edg p c) p) : x = p := by
  by_cases e : p.getLast? = some (oth c)
  · have e2 : edg p c = p := if_pos e
    rw [e2] at hg hx
    rw [pr_self] at hg hx
    have px := pr_iff.mp hx
    rcases onw_sub h with k | k
    · exact (px.eq_of_length (Nat.le_antisymm px.length_le k.length_le)).symm
    · exact absurd (pr_iff.mpr (px.trans k)) hg
  · have e2 : edg p c = p ++ [c] := if_neg e
    rw [e2] at hg hx
    have f : pr (p ++ [c]) p = false := pr_long (by rw [List.length_append]; exact Nat.lt_succ_self _)
    rw [f] at hg hx
    have gt : p ++ [c] <+: g := pr_iff.mp (by cases hh : pr (p ++ [c]) g with | true => rfl | false => exact absurd hh hg)
    have pg : p <+: g := (List.prefix_append p [c]).trans gt
    have px : p <+: x := by
      rcases h p with k | k
      · exact pr_iff.mp (k.trans (pr_self p))
      · exact pr_iff.mp (k.trans (pr_iff.mpr pg))
    rcases onw_sub h with k | k
    · exact (px.eq_of_length (Nat.le_antisymm px.length_le k.length_le)).symm
    · have l : x.length ≤ p.length := by
        rcases Nat.lt_or_ge p.length x.length with l | l
        · have : p ++ [c] <+: x := List.prefix_of_prefix_length_le gt k (by rw [List.length_append]; exact l)
          rw [pr_iff.mpr this] at hx
          cases hx
        · exact l
      exact (px.eq_of_length (Nat.le_antisymm px.length_le l)).symm
/-- the first letter of the way from p to g -/
def tow (p g : List Nat) : Option Nat := if p = g then none else if pr p g = true then g[p.length]? else p.getLast?.map oth
theorem tow_sep {p g : List Nat} {c : Nat} (hp : IsL p) (pg : isP g = true) (hc : c ∈ letC) : tow p g = some c ↔ pr (edg p c) g ≠ pr (edg p c) p := by
  by_cases e : p.getLast? = some (oth c)
  · have e2 : edg p c = p := if_pos e
    rw [e2, pr_self]
    unfold tow
    constructor
    · intro h
      split at h
      · cases h
      · split at h
        · rename_i k
          obtain ⟨t, rfl⟩ := pr_iff.mp k
          exfalso
          have l1 : 0 < p.length := by
            cases p with
            | nil => cases e
            | cons _ _ => exact Nat.succ_pos _
          refine isP_iff.mp pg (p.length - 1) (oth c) c ?_ ?_ (oth_oth hc).symm
          · rw [List.getElem?_append_left (by omega), ← List.getLast?_eq_getElem?]
            exact e
          · rw [show p.length - 1 + 1 = p.length by omega]
            exact h
        · assumption
    · intro h
      rw [if_neg (fun z => h (by rw [← z]; exact pr_self p)), if_neg h, e]
      show some (oth (oth c)) = some c
      rw [oth_oth hc]
  · have e2 : edg p c = p ++ [c] := if_neg e
    have f : pr (p ++ [c]) p = false := pr_long (by rw [List.length_append]; exact Nat.lt_succ_self _)
    rw [e2, f]
    unfold tow
    constructor
    · intro h
      split at h
      · cases h
      · split at h
        · rename_i k
          obtain ⟨t, rfl⟩ := pr_iff.mp k
          rw [List.getElem?_append_right (Nat.le_refl _), Nat.sub_self] at h
          cases t with
          | nil => cases h
          | cons a t =>
            cases h
            rw [pr_iff.mpr ⟨t, by rw [List.append_assoc]; rfl⟩]
            decide
        · obtain ⟨d, hd, k⟩ := Option.map_eq_some_iff.mp h
          exact absurd (by rw [hd, ← k, oth_oth (hp d (List.mem_of_getLast? hd))]) e
    · intro h
      have k : p ++ [c] <+: g := pr_iff.mp (by cases hh : pr (p ++ [c]) g with | true => rfl | false => exact absurd hh h)
      obtain ⟨t, rfl⟩ := k
      rw [if_neg (fun z => ?_), if_pos (pr_iff.mpr ⟨[c] ++ t, by rw [List.append_assoc]⟩), List.append_assoc, List.getElem?_append_right (Nat.le_refl _), Nat.sub_self]
      · rfl
      · have := congrArg List.length z
        rw [List.length_append, List.length_append] at this
        have : ([c] : List Nat).length = 1 := rfl
        omega
theorem tow_some {p g : List Nat} (hp : IsL p) (hg : IsL g) (h : p ≠ g) : ∃ c ∈ letC, tow p g = some c := by
  unfold tow
  rw [if_neg h]
  split
  · rename_i k
    obtain ⟨t, rfl⟩ := pr_iff.mp k
    cases t with
    | nil => exact absurd (List.append_nil p).symm h
    | cons a t => exact ⟨a, hg a (by simp), by rw [List.getElem?_append_right (Nat.le_refl _), Nat.sub_self]; rfl⟩
  · rename_i k
    rcases List.eq_nil_or_concat p with rfl | ⟨q, d, e⟩
    · exact absurd rfl k
    · rw [List.concat_eq_append] at e
      subst e
      exact ⟨oth d, oth_mem (hp d (by simp)), by rw [List.getLast?_concat]; rfl⟩
/-- a step to a place on the way to g -/
theorem onw_step {p g : List Nat} {c : Nat} (h : pr (edg p c) g ≠ pr (edg p c) p) : onw p g (stp p c) := fun y => by
  by_cases e : y = edg p c
  · subst e
    refine .inr ?_
    rw [pr_eq]
    cases h1 : pr (edg p c) p <;> cases h2 : pr (edg p c) g <;> first | rfl | exact absurd (h2.trans h1.symm) h
  · exact .inl (pr_ne e)
/-- what lies on the way from behind an edge to what is beyond it -/
theorem onw_far {p g x : List Nat} {c : Nat} (hg : pr (edg p c) g ≠ pr (edg p c) p) (h : onw (stp p c) g x) : onw p g x ∧ pr (edg p c) x ≠ pr (edg p c) p := by
  have key : pr (edg p c) x = pr (edg p c) g := by
    rcases h (edg p c) with k | k
    · rw [k, pr_eq]
      cases h1 : pr (edg p c) p <;> cases h2 : pr (edg p c) g <;> first | rfl | exact absurd (h2.trans h1.symm) hg
    · exact k
  refine ⟨fun y => ?_, by rw [key]; exact hg⟩
  by_cases e : y = edg p c
  · subst e
    exact .inr key
  · rcases h y with k | k
    · exact .inl (k.trans (pr_ne e))
    · exact .inr k
/-- the same from this side -/
theorem onw_fwd {p g x : List Nat} {c : Nat} (hg : pr (edg p c) g ≠ pr (edg p c) p) (h : onw p g x) (hx : x ≠ p) : onw (stp p c) g x := fun y => by
  have fx : pr (edg p c) x ≠ pr (edg p c) p := fun z => hx (near_one hg h z)
  by_cases e : y = edg p c
  · subst e
    refine .inl ?_
    rw [pr_eq]
    cases h1 : pr (edg p c) p <;> cases h2 : pr (edg p c) x <;> first | rfl | exact absurd (h2.trans h1.symm) fx
  · rcases h y with k | k
    · exact .inl (k.trans (pr_ne e).symm)
    · exact .inr k
/-- towards what is on this side -/
theorem onw_near {p g x : List Nat} {c : Nat} (hg : pr (edg p c) g = pr (edg p c) p) (h : onw p g x) : onw (stp p c) g x := fun y => by
  by_cases e : y = edg p c
  · subst e
    rcases h (edg p c) with k | k
    · exact .inr (k.trans hg.symm)
    · exact .inr k
  · rcases h y with k | k
    · exact .inl (k.trans (pr_ne e).symm)
    · exact .inr k
theorem onw_nearB {p g x : List Nat} {c : Nat} (hp : IsL p) (pp : isP p = true) (hc : c ∈ letC) (hg : pr (edg p c) g = pr (edg p c) p) (h : onw (stp p c) g x) : x = stp p c ∨ onw p g x := by
  by_cases hx : pr (edg p c) x = pr (edg p c) p
  · refine .inr fun y => ?_
    by_cases e : y = edg p c
    · subst e
      exact .inl hx
    · rcases h y with k | k
      · exact .inl (k.trans (pr_ne e))
      · exact .inr k
  · refine .inl ?_
    have eb := edg_back hp pp hc
    refine near_one (c := oth c) (g := g) ?_ h ?_
    · rw [eb, hg, pr_eq]
      cases pr (edg p c) p <;> decide
    · rw [eb, pr_eq]
      cases h1 : pr (edg p c) p <;> cases h2 : pr (edg p c) x <;> first | rfl | exact absurd (h2.trans h1.symm) hx
/-- between neighbors lies nothing -/
theorem onw_two {p x : List Nat} {c : Nat} (hp : IsL p) (pp : isP p = true) (hc : c ∈ letC) (h : onw p (stp p c) x) : x = p ∨ x = stp p c := by
  have far : pr (edg p c) (stp p c) ≠ pr (edg p c) p := by rw [pr_eq]; cases pr (edg p c) p <;> decide
  by_cases hx : pr (edg p c) x = pr (edg p c) p
  · exact .inl (near_one far h hx)
  · refine .inr ?_
    have eb := edg_back hp pp hc
    refine near_one (c := oth c) (g := p) ?_ (fun y => (h y).symm) ?_
    · rw [eb]; exact far.symm
    · rw [eb, pr_eq]
      cases h1 : pr (edg p c) p <;> cases h2 : pr (edg p c) x <;> first | rfl | exact absurd (h2.trans h1.symm) hx
/-! ### the walk -/
/-- the letter beyond which is a goal, and not the end -/
def aheadB (G : List (List Nat)) (p e : List Nat) (c : Nat) : Bool := decide (tow p e ≠ some c) && G.any fun g => pr (edg p c) g != pr (edg p c) p
def nxtG (G : List (List Nat)) (p e : List Nat) : Option Nat := match letC.find? (aheadB G p e) with
  | some c => some c
  | none => tow p e
def gnx (G : List (List Nat)) (q e : List Nat) : List (List Nat) := G.filter fun g => decide (g ≠ q) || decide (g = e)
theorem mem_gnx {G : List (List Nat)} {q e g : List Nat} : g ∈ gnx G q e ↔ g ∈ G ∧ (g ≠ q ∨ g = e) := by
  unfold gnx
  rw [List.mem_filter, Bool.or_eq_true, decide_eq_true_eq, decide_eq_true_eq]
/-- what is left of a walk: the goals G, the end among them -/
structure Goals (G : List (List Nat)) (p e : List Nat) : Prop where
  p1 : IsL p
  p2 : isP p = true
  g1 : ∀ g ∈ G, IsL g ∧ isP g = true
  en : e ∈ G
  gp : p ∈ G → p = e
theorem Goals.nx {G : List (List Nat)} {p e : List Nat} {c : Nat} (W : Goals G p e) (hc : c ∈ letC) : Goals (gnx G (stp p c) e) (stp p c) e :=
  ⟨W.p1.stp hc, isP_stp W.p1 W.p2, fun g h => W.g1 g (mem_gnx.mp h).1, mem_gnx.mpr ⟨W.en, .inr rfl⟩, fun h => (mem_gnx.mp h).2.elim (fun z => absurd rfl z) id⟩
theorem ahead_iff {G : List (List Nat)} {p e : List Nat} {c : Nat} : aheadB G p e c = true ↔ tow p e ≠ some c ∧ ∃ g ∈ G, pr (edg p c) g ≠ pr (edg p c) p := by
  unfold aheadB
  rw [Bool.and_eq_true, decide_eq_true_eq, List.any_eq_true]
  simp only [bne_iff_ne]
/-- at the end nothing is left -/
theorem Goals.done {G : List (List Nat)} {p e : List Nat} (W : Goals G p e) (h : nxtG G p e = none) : p = e ∧ ∀ g ∈ G, g = p := by
  unfold nxtG at h
  split at h
  · cases h
  · rename_i hf
    have hpe : p = e := by
      apply Classical.byContradiction
      intro ne
      obtain ⟨c, _, k⟩ := tow_some W.p1 (W.g1 e W.en).1 ne
      rw [k] at h
      cases h
    refine ⟨hpe, fun g hg => Classical.byContradiction fun ne => ?_⟩
    obtain ⟨c, hc, k⟩ := tow_some W.p1 (W.g1 g hg).1 (Ne.symm ne)
    have := List.find?_eq_none.mp hf c hc
    exact this (ahead_iff.mpr ⟨by rw [h]; exact (fun z => nomatch z), g, hg, (tow_sep W.p1 (W.g1 g hg).2 hc).mp k⟩)
/-- the next letter is one, and leads on a way to a goal -/
theorem Goals.next {G : List (List Nat)} {p e : List Nat} {c : Nat} (W : Goals G p e) (h : nxtG G p e = some c) : c ∈ letC ∧ ∃ g ∈ G, pr (edg p c) g ≠ pr (edg p c) p := by
  unfold nxtG at h
  split at h
  · rename_i d hf
    cases h
    have k := ahead_iff.mp (List.find?_some hf)
    exact ⟨List.mem_of_find?_eq_some hf, k.2⟩
  · have ne : p ≠ e := fun z => by
      rw [z] at h
      unfold tow at h
      rw [if_pos rfl] at h
      cases h
    obtain ⟨d, hd, k⟩ := tow_some W.p1 (W.g1 e W.en).1 ne
    rw [h] at k
    cases k
    exact ⟨hd, e, W.en, (tow_sep W.p1 (W.g1 e W.en).2 hd).mp h⟩
/-- when it leads toward the end, all goals are there -/
theorem Goals.home {G : List (List Nat)} {p e : List Nat} {c : Nat} (W : Goals G p e) (h : nxtG G p e = some c) (k : tow p e = some c) : ∀ g ∈ G, pr (edg p c) g ≠ pr (edg p c) p := by
  have hc := (W.next h).1
  have hf : letC.find? (aheadB G p e) = none := by
    unfold nxtG at h
    split at h
    · rename_i d hf
      cases h
      exact absurd k (ahead_iff.mp (List.find?_some hf)).1
    · assumption
  intro g hg z
  have ne : p ≠ g := fun e1 => by
    have : p = e := W.gp (by rw [e1]; exact hg)
    unfold tow at k
    rw [if_pos this] at k
    cases k
  obtain ⟨d, hd, kd⟩ := tow_some W.p1 (W.g1 g hg).1 ne
  have dc : d ≠ c := fun e1 => by
    rw [e1] at kd
    exact (tow_sep W.p1 (W.g1 g hg).2 hc).mp kd z
  have := List.find?_eq_none.mp hf d hd
  exact this (ahead_iff.mpr ⟨by rw [k]; exact fun z => dc (Option.some.inj z).symm, g, hg, (tow_sep W.p1 (W.g1 g hg).2 hd).mp kd⟩)
/-! ### how long it is -/
theorem cnt_off {ws : List (List Nat)} {y0 : List Nat} {f g : List Nat → Bool} : ws.Nodup → y0 ∈ ws → (∀ y, y ≠ y0 → f y = g y) → ws.countP f + (if g y0 = true then 1 else 0) = ws.countP g + (if f y0 = true then 1 else 0) := by
  induction ws with
  | nil => intro _ h; cases h
  | cons w ws ih =>
    intro nd h off
    obtain ⟨n1, n2⟩ := List.nodup_cons.mp nd
    rw [List.countP_cons, List.countP_cons]
    rcases List.mem_cons.mp h with e | h
    · subst e
      have : ws.countP f = ws.countP g := List.countP_congr fun y hy => by rw [off y (fun z => n1 (z ▸ hy))]
      rw [this]
      omega
    · have ne : w ≠ y0 := fun z => n1 (z ▸ h)
      have := ih n2 h off
      rw [off w ne]
      omega
/-- the edges on the ways to goals -/
def farB (G : List (List Nat)) (p y : List Nat) : Bool := G.any fun g => pr y g != pr y p
theorem far_iff {G : List (List Nat)} {p y : List Nat} : farB G p y = true ↔ ∃ g ∈ G, pr y g ≠ pr y p := by
  unfold farB
  rw [List.any_eq_true]
  simp only [bne_iff_ne]
/-- twice the edges left, without the way to the end -/
def costZ (ws : List (List Nat)) (G : List (List Nat)) (p e : List Nat) : Int := 2 * (ws.countP (farB G p) : Nat) - (ws.countP (farB [e] p) : Nat)
theorem cost_nn {ws G : List (List Nat)} {p e : List Nat} (he : e ∈ G) : 0 ≤ costZ ws G p e := by
  unfold costZ
  have : ws.countP (farB [e] p) ≤ ws.countP (farB G p) := List.countP_mono_left fun y _ h => by
    obtain ⟨g, hg, k⟩ := far_iff.mp h
    rw [List.mem_singleton.mp hg] at k
    exact far_iff.mpr ⟨e, he, k⟩
  omega
theorem cost_step {ws G : List (List Nat)} {p e : List Nat} {c : Nat} (nd : ws.Nodup) (W : Goals G p e) (hc : c ∈ letC) (hw : edg p c ∈ ws) :
    (tow p e ≠ some c → (∃ g ∈ G, pr (edg p c) g ≠ pr (edg p c) p) → costZ ws (gnx G (stp p c) e) (stp p c) e = costZ ws G p e - 1) ∧
    (tow p e ≠ some c → (¬ ∃ g ∈ G, pr (edg p c) g ≠ pr (edg p c) p) → costZ ws (gnx G (stp p c) e) (stp p c) e = costZ ws G p e + 1) ∧
    (tow p e = some c → (∃ g ∈ G, pr (edg p c) g = pr (edg p c) p) → costZ ws (gnx G (stp p c) e) (stp p c) e = costZ ws G p e + 1) ∧
    (tow p e = some c → (¬ ∃ g ∈ G, pr (edg p c) g = pr (edg p c) p) → costZ ws (gnx G (stp p c) e) (stp p c) e = costZ ws G p e - 1) := by
  have se := tow_sep W.p1 (W.g1 e W.en).2 hc
  have offG : ∀ y, y ≠ edg p c → farB (gnx G (stp p c) e) (stp p c) y = farB G p y := fun y ne => by
    rw [Bool.eq_iff_iff, far_iff, far_iff, pr_ne ne]
    constructor
    · rintro ⟨g, hg, k⟩
      exact ⟨g, (mem_gnx.mp hg).1, k⟩
    · rintro ⟨g, hg, k⟩
      refine ⟨g, mem_gnx.mpr ⟨hg, .inl fun z => k ?_⟩, k⟩
      rw [z, pr_ne ne]
  have offE : ∀ y, y ≠ edg p c → farB [e] (stp p c) y = farB [e] p y := fun y ne => by
    unfold farB
    rw [pr_ne ne]
  have c1 := cnt_off nd hw offG
  have c2 := cnt_off nd hw offE
  have fe : farB [e] p (edg p c) = true ↔ tow p e = some c := by
    rw [far_iff, se]
    constructor
    · rintro ⟨g, hg, k⟩
      rwa [List.mem_singleton.mp hg] at k
    · intro k
      exact ⟨e, List.mem_singleton.mpr rfl, k⟩
  have fe' : farB [e] (stp p c) (edg p c) = true ↔ tow p e ≠ some c := by
    rw [far_iff, ne_eq, se, pr_eq]
    constructor
    · rintro ⟨g, hg, k⟩ z
      rw [List.mem_singleton.mp hg] at k
      revert k z
      cases pr (edg p c) e <;> cases pr (edg p c) p <;> decide
    · intro k
      refine ⟨e, List.mem_singleton.mpr rfl, ?_⟩
      revert k
      cases pr (edg p c) e <;> cases pr (edg p c) p <;> decide
  have fG' : farB (gnx G (stp p c) e) (stp p c) (edg p c) = true ↔ ∃ g ∈ G, pr (edg p c) g = pr (edg p c) p := by
    rw [far_iff, pr_eq]
    constructor
    · rintro ⟨g, hg, k⟩
      refine ⟨g, (mem_gnx.mp hg).1, ?_⟩
      revert k
      cases pr (edg p c) g <;> cases pr (edg p c) p <;> decide
    · rintro ⟨g, hg, k⟩
      refine ⟨g, mem_gnx.mpr ⟨hg, .inl fun z => ?_⟩, ?_⟩
      · rw [z, pr_eq] at k
        revert k
        cases pr (edg p c) p <;> decide
      · rw [k]
        cases pr (edg p c) p <;> decide
  have fG := far_iff (G := G) (p := p) (y := edg p c)
  have eG : tow p e = some c → farB G p (edg p c) = true := fun k => fG.mpr ⟨e, W.en, se.mp k⟩
  have eG' : tow p e ≠ some c → farB (gnx G (stp p c) e) (stp p c) (edg p c) = true := fun k => fG'.mpr ⟨e, W.en, by
    rw [ne_eq, se] at k
    exact Decidable.of_not_not k⟩
  unfold costZ
  refine ⟨fun k f => ?_, fun k f => ?_, fun k f => ?_, fun k f => ?_⟩
  · rw [if_pos (fG.mpr f), if_pos (eG' k)] at c1
    rw [if_neg (fun z => k (fe.mp z)), if_pos (fe'.mpr k)] at c2
    omega
  · rw [if_neg (fun z => f (fG.mp z)), if_pos (eG' k)] at c1
    rw [if_neg (fun z => k (fe.mp z)), if_pos (fe'.mpr k)] at c2
    omega
  · rw [if_pos (eG k), if_pos (fG'.mpr f)] at c1
    rw [if_pos (fe.mpr k), if_neg (fun z => fe'.mp z k)] at c2
    omega
  · rw [if_pos (eG k), if_neg (fun z => f (fG'.mp z))] at c1
    rw [if_pos (fe.mpr k), if_neg (fun z => fe'.mp z k)] at c2
    omega
end Xia

set_option Elab.async false
set_option linter.all false
set_option maxRecDepth 100000
set_option maxHeartbeats 4000000
set_option autoImplicit false
/-! Own: the rest of a walk, letter by letter. -/
namespace Xia
theorem find_first {f : Nat → Bool} {c : Nat} : ∀ {l : List Nat}, l.Pairwise (· < ·) → l.find? f = some c → ∀ d ∈ l, d < c → f d = false
  | [], _, h, _, _, _ => nomatch h
  | a :: l, p, h, d, hd, lt => by
    obtain ⟨p1, p2⟩ := List.pairwise_cons.mp p
    rw [List.find?_cons] at h
    split at h
    · cases h
      rcases List.mem_cons.mp hd with rfl | hd
      · omega
      · have := p1 d hd
        omega
    · rename_i hf
      rcases List.mem_cons.mp hd with rfl | hd
      · simpa using hf
      · exact find_first p2 h d hd lt
theorem letC_up : letC.Pairwise (· < ·) := by decide
section
variable {ws G : List (List Nat)} {p e : List Nat} {c d : Nat}
theorem Goals.less (nd : ws.Nodup) (W : Goals G p e) (h : nxtG G p e = some c) (hw : edg p c ∈ ws) : costZ ws (gnx G (stp p c) e) (stp p c) e = costZ ws G p e - 1 := by
  obtain ⟨hc, far⟩ := W.next h
  obtain ⟨s1, s2, s3, s4⟩ := cost_step nd W hc hw
  by_cases k : tow p e = some c
  · exact s4 k fun ⟨g, hg, z⟩ => W.home h k g hg z
  · exact s1 k far
theorem Goals.more (nd : ws.Nodup) (W : Goals G p e) (h : nxtG G p e = some c) (hd : d ∈ letC) (lt : d < c) (hw : edg p d ∈ ws) : costZ ws (gnx G (stp p d) e) (stp p d) e = costZ ws G p e + 1 := by
  obtain ⟨hc, far⟩ := W.next h
  obtain ⟨s1, s2, s3, s4⟩ := cost_step nd W hd hw
  unfold nxtG at h
  split at h
  · rename_i c' hf
    cases h
    have nd' := find_first letC_up hf d hd lt
    by_cases k : tow p e = some d
    · refine s3 k ?_
      obtain ⟨g, hg, z⟩ := (ahead_iff.mp (List.find?_some hf)).2
      refine ⟨g, hg, Decidable.of_not_not fun z2 => ?_⟩
      have t1 := (tow_sep W.p1 (W.g1 g hg).2 hc).mpr z
      have t2 := (tow_sep W.p1 (W.g1 g hg).2 hd).mpr z2
      rw [t1] at t2
      cases t2
      omega
    · refine s2 k fun f => ?_
      rw [ahead_iff.mpr ⟨k, f⟩] at nd'
      cases nd'
  · rename_i hf
    have k : tow p e ≠ some d := fun z => by
      rw [h] at z
      cases z
      omega
    exact s2 k fun f => List.find?_eq_none.mp hf d hd (ahead_iff.mpr ⟨k, f⟩)
theorem Goals.least (nd : ws.Nodup) (W : Goals G p e) (hd : d ∈ letC) (hw : edg p d ∈ ws) : costZ ws G p e - 1 ≤ costZ ws (gnx G (stp p d) e) (stp p d) e := by
  obtain ⟨s1, s2, s3, s4⟩ := cost_step nd W hd hw
  by_cases k : tow p e = some d
  · by_cases f : ∃ g ∈ G, pr (edg p d) g = pr (edg p d) p
    · rw [s3 k f]; omega
    · rw [s4 k f]; omega
  · by_cases f : ∃ g ∈ G, pr (edg p d) g ≠ pr (edg p d) p
    · rw [s1 k f]; omega
    · rw [s2 k f]; omega
end
/-- places that a tread may have -/
structure Amb (ws : List (List Nat)) : Prop where
  nd : ws.Nodup
  w1 : ∀ w ∈ ws, IsL w ∧ isP w = true
  cl : ∀ w ∈ ws, w.dropLast ∈ ws
theorem Amb.pre {ws : List (List Nat)} (A : Amb ws) {x g : List Nat} (h : g ∈ ws) (k : x <+: g) : x ∈ ws := by
  obtain ⟨t, rfl⟩ := k
  have := shut_pre (A := fun w => w ∈ ws) A.cl h x.length
  rwa [List.take_left] at this
theorem Amb.onw {ws : List (List Nat)} (A : Amb ws) {p g x : List Nat} (hp : p ∈ ws) (hg : g ∈ ws) (h : onw p g x) : x ∈ ws := (onw_sub h).elim (A.pre hp) (A.pre hg)
theorem edg_or (p : List Nat) (c : Nat) : edg p c = p ∨ edg p c = stp p c := by
  unfold edg stp
  split
  · exact .inl rfl
  · exact .inr rfl
theorem Amb.edg {ws : List (List Nat)} (A : Amb ws) {p : List Nat} {c : Nat} (hp : p ∈ ws) (h : stp p c ∈ ws) : edg p c ∈ ws := by
  rcases edg_or p c with e | e
  · rw [e]; exact hp
  · rw [e]; exact h
theorem Amb.next {ws G : List (List Nat)} {p e : List Nat} {c : Nat} (A : Amb ws) (hp : p ∈ ws) (hG : ∀ g ∈ G, g ∈ ws) (W : Goals G p e) (h : nxtG G p e = some c) : stp p c ∈ ws := by
  obtain ⟨hc, g, hg, k⟩ := W.next h
  exact A.onw hp (hG g hg) (onw_step k)
def goG (e : List Nat) : Nat → List (List Nat) → List Nat → List Nat
  | 0, _, _ => []
  | n + 1, G, p => match nxtG G p e with
    | none => []
    | some c => c :: goG e n (gnx G (stp p c) e) (stp p c)
/-- the first of the shortest walks from p by all goals to e -/
def rst (ws G : List (List Nat)) (p e : List Nat) : List Nat := goG e (costZ ws G p e).toNat G p
/-- all that is asked of a walk's start -/
structure Way (ws G : List (List Nat)) (p e : List Nat) : Prop where
  A : Amb ws
  W : Goals G p e
  hp : p ∈ ws
  hG : ∀ g ∈ G, g ∈ ws
section
variable {ws G : List (List Nat)} {p e : List Nat} {c d : Nat}
theorem Way.step (X : Way ws G p e) (hc : c ∈ letC) (h : stp p c ∈ ws) : Way ws (gnx G (stp p c) e) (stp p c) e := ⟨X.A, X.W.nx hc, h, fun g hg => X.hG g (mem_gnx.mp hg).1⟩
theorem Way.next (X : Way ws G p e) (h : nxtG G p e = some c) : c ∈ letC ∧ stp p c ∈ ws ∧ Way ws (gnx G (stp p c) e) (stp p c) e ∧ costZ ws (gnx G (stp p c) e) (stp p c) e = costZ ws G p e - 1 := by
  have h1 := (X.W.next h).1
  have h2 := X.A.next X.hp X.hG X.W h
  exact ⟨h1, h2, X.step h1 h2, X.W.less X.A.nd h (X.A.edg X.hp h2)⟩
theorem rst_cons (X : Way ws G p e) (h : nxtG G p e = some c) : rst ws G p e = c :: rst ws (gnx G (stp p c) e) (stp p c) e := by
  obtain ⟨h1, h2, h3, h4⟩ := X.next h
  have nn := cost_nn (ws := ws) (p := stp p c) h3.W.en
  unfold rst
  rw [show (costZ ws G p e).toNat = (costZ ws (gnx G (stp p c) e) (stp p c) e).toNat + 1 by omega]
  show (match nxtG G p e with | none => [] | some c => c :: goG e _ (gnx G (stp p c) e) (stp p c)) = _
  rw [h]
theorem rst_nil (h : nxtG G p e = none) : rst ws G p e = [] := by
  unfold rst
  cases (costZ ws G p e).toNat with
  | zero => rfl
  | succ n =>
    show (match nxtG G p e with | none => [] | some c => c :: goG e _ (gnx G (stp p c) e) (stp p c)) = _
    rw [h]
theorem cost_done (h1 : p = e) (h2 : ∀ g ∈ G, g = p) : costZ ws G p e = 0 := by
  unfold costZ
  have f : ∀ y, farB G p y = false := fun y => by
    rw [Bool.eq_false_iff]
    intro z
    obtain ⟨g, hg, k⟩ := far_iff.mp z
    exact k (by rw [h2 g hg])
  have f2 : ∀ y, farB [e] p y = false := fun y => by
    rw [Bool.eq_false_iff]
    intro z
    obtain ⟨g, hg, k⟩ := far_iff.mp z
    exact k (by rw [List.mem_singleton.mp hg, h1])
  have e1 : ws.countP (farB G p) = 0 := List.countP_eq_zero.mpr fun y _ z => by rw [f y] at z; cases z
  have e2 : ws.countP (farB [e] p) = 0 := List.countP_eq_zero.mpr fun y _ z => by rw [f2 y] at z; cases z
  rw [e1, e2]
  rfl
/-- the goals that are left behind a word -/
def gfol (e : List Nat) : List (List Nat) → List Nat → List Nat → List (List Nat)
  | G, _, [] => G
  | G, p, c :: w => gfol e (gnx G (stp p c) e) (stp p c) w
theorem mem_gfol {g : List Nat} : ∀ {w : List Nat} {G : List (List Nat)} {p : List Nat}, g ∈ gfol e G p w ↔ g ∈ G ∧ (g = e ∨ ∀ j, 1 ≤ j → j ≤ w.length → g ≠ fol p (w.take j))
  | [], G, p => ⟨fun h => ⟨h, .inr fun j a b => absurd b (by show ¬ j ≤ 0; omega)⟩, fun h => h.1⟩
  | c :: w, G, p => by
    show g ∈ gfol e (gnx G (stp p c) e) (stp p c) w ↔ _
    rw [mem_gfol, mem_gnx]
    constructor
    · rintro ⟨⟨h1, h2⟩, h3⟩
      refine ⟨h1, ?_⟩
      by_cases ge : g = e
      · exact .inl ge
      · refine .inr fun j a b => ?_
        have h2 := h2.resolve_right ge
        have h3 := h3.resolve_left ge
        obtain ⟨i, rfl⟩ : ∃ i, j = i + 1 := ⟨j - 1, by omega⟩
        rw [List.take_succ_cons, fol_cons]
        cases i with
        | zero => exact h2
        | succ i => exact h3 (i + 1) (Nat.succ_pos _) (by rw [List.length_cons] at b; omega)
    · rintro ⟨h1, h2⟩
      by_cases ge : g = e
      · exact ⟨⟨h1, .inr ge⟩, .inl ge⟩
      · have h2 := h2.resolve_left ge
        refine ⟨⟨h1, .inl (h2 1 (Nat.le_refl _) (by rw [List.length_cons]; omega))⟩, .inr fun j a b => ?_⟩
        have := h2 (j + 1) (by omega) (by rw [List.length_cons]; omega)
        rwa [List.take_succ_cons, fol_cons] at this
theorem Way.walk (X : Way ws G p e) : ∀ {w : List Nat}, IsL w → (∀ j, j ≤ w.length → fol p (w.take j) ∈ ws) → Way ws (gfol e G p w) (fol p w) e := by
  intro w
  induction w generalizing G p with
  | nil => exact fun _ _ => X
  | cons c w ih =>
    intro h1 h2
    have hc := h1 c (List.mem_cons_self ..)
    have hs : stp p c ∈ ws := h2 1 (by rw [List.length_cons]; omega)
    exact ih (X.step hc hs) (h1.sub fun _ h => List.mem_cons_of_mem _ h) fun j hj => by
      have := h2 (j + 1) (by rw [List.length_cons]; omega)
      rwa [List.take_succ_cons, fol_cons] at this
/-- what the walk is -/
theorem Way.rest (X : Way ws G p e) : ((rst ws G p e).length : Int) = costZ ws G p e ∧ IsL (rst ws G p e) ∧ fol p (rst ws G p e) = e ∧ (∀ j, j ≤ (rst ws G p e).length → fol p ((rst ws G p e).take j) ∈ ws) ∧
    ∀ g ∈ G, ∃ j, j ≤ (rst ws G p e).length ∧ fol p ((rst ws G p e).take j) = g := by
  obtain ⟨n, hn⟩ : ∃ n : Nat, (costZ ws G p e).toNat = n := ⟨_, rfl⟩
  induction n generalizing G p with
  | zero =>
    have nn := cost_nn (ws := ws) (p := p) X.W.en
    cases h : nxtG G p e with
    | some c =>
      obtain ⟨h1, h2, h3, h4⟩ := X.next h
      have := cost_nn (ws := ws) (p := stp p c) h3.W.en
      omega
    | none =>
      obtain ⟨h1, h2⟩ := X.W.done h
      rw [rst_nil h]
      exact ⟨by rw [cost_done h1 h2]; rfl, .nil, h1, fun j _ => by rw [List.take_nil]; exact X.hp, fun g hg => ⟨0, Nat.le_refl _, (h2 g hg).symm⟩⟩
  | succ n ih =>
    cases h : nxtG G p e with
    | none =>
      obtain ⟨h1, h2⟩ := X.W.done h
      rw [cost_done h1 h2] at hn
      exact absurd hn (by show ¬ 0 = n + 1; omega)
    | some c =>
      obtain ⟨h1, h2, h3, h4⟩ := X.next h
      obtain ⟨a1, a2, a3, a4, a5⟩ := ih h3 (by omega)
      rw [rst_cons X h]
      refine ⟨by rw [List.length_cons]; omega, fun d hd => ?_, a3, fun j hj => ?_, fun g hg => ?_⟩
      · rcases List.mem_cons.mp hd with rfl | hd
        · exact h1
        · exact a2 d hd
      · cases j with
        | zero => exact X.hp
        | succ j =>
          rw [List.take_succ_cons, fol_cons]
          exact a4 j (by rw [List.length_cons] at hj; omega)
      · by_cases ge : g = stp p c
        · exact ⟨1, by rw [List.length_cons]; omega, ge.symm⟩
        · obtain ⟨j, k1, k2⟩ := a5 g (mem_gnx.mpr ⟨hg, .inl ge⟩)
          exact ⟨j + 1, by rw [List.length_cons]; omega, by rw [List.take_succ_cons, fol_cons]; exact k2⟩
theorem rst_app (X : Way ws G p e) : ∀ {a b : List Nat}, rst ws G p e = a ++ b → rst ws (gfol e G p a) (fol p a) e = b := by
  intro a
  induction a generalizing G p with
  | nil => exact fun h => h
  | cons c a ih =>
    intro b h
    cases k : nxtG G p e with
    | none => rw [rst_nil k] at h; cases h
    | some d =>
      rw [rst_cons X k] at h
      obtain ⟨h1, h2⟩ := List.cons.inj h
      subst h1
      exact ih (X.next k).2.2.1 h2
theorem Way.first {r : List Nat} (X : Way ws G p e) (h : rst ws G p e = c :: r) : nxtG G p e = some c := by
  cases k : nxtG G p e with
  | none => rw [rst_nil k] at h; cases h
  | some d =>
    rw [rst_cons X k] at h
    cases h
    rfl
theorem far_congr {G' : List (List Nat)} (h : ∀ g, g ∈ G ↔ g ∈ G') (y : List Nat) : farB G p y = farB G' p y := by
  rw [Bool.eq_iff_iff, far_iff, far_iff]
  simp only [h]
theorem nxt_congr {G' : List (List Nat)} (h : ∀ g, g ∈ G ↔ g ∈ G') : nxtG G p e = nxtG G' p e := by
  have : aheadB G p e = aheadB G' p e := by
    funext c
    rw [Bool.eq_iff_iff, ahead_iff, ahead_iff]
    simp only [h]
  unfold nxtG
  rw [this]
theorem cost_congr {G' : List (List Nat)} (h : ∀ g, g ∈ G ↔ g ∈ G') : costZ ws G p e = costZ ws G' p e := by
  unfold costZ
  rw [show farB G p = farB G' p from funext fun y => far_congr h y]
theorem walk_congr : ∀ {n : Nat} {G G' : List (List Nat)} {p : List Nat}, (∀ g, g ∈ G ↔ g ∈ G') → goG e n G p = goG e n G' p
  | 0, _, _, _, _ => rfl
  | n + 1, G, G', p, h => by
    show (match nxtG G p e with | none => [] | some c => c :: goG e n (gnx G (stp p c) e) (stp p c)) = (match nxtG G' p e with | none => [] | some c => c :: goG e n (gnx G' (stp p c) e) (stp p c))
    rw [nxt_congr h]
    cases nxtG G' p e with
    | none => rfl
    | some c =>
      show c :: _ = c :: _
      rw [walk_congr (G := gnx G (stp p c) e) (G' := gnx G' (stp p c) e) fun g => by rw [mem_gnx, mem_gnx, h g]]
theorem rst_congr {G' : List (List Nat)} (h : ∀ g, g ∈ G ↔ g ∈ G') : rst ws G p e = rst ws G' p e := by
  unfold rst
  rw [cost_congr h, walk_congr h]
end
/-! ### behind a word -/
/-- what a word leaves of places, and the end -/
def goalsL (ws : List (List Nat)) (u e : List Nat) : List (List Nat) := (ws.filter fun x => decide (x ∉ trodL u)) ++ [e]
def restL (ws : List (List Nat)) (u e : List Nat) : List Nat := rst ws (goalsL ws u e) (fol [] u) e
def costL (ws : List (List Nat)) (u e : List Nat) : Int := costZ ws (goalsL ws u e) (fol [] u) e
theorem mem_goalsL {ws : List (List Nat)} {u e g : List Nat} : g ∈ goalsL ws u e ↔ (g ∈ ws ∧ g ∉ trodL u) ∨ g = e := by
  unfold goalsL
  rw [List.mem_append, List.mem_filter, decide_eq_true_eq, List.mem_singleton]
section
variable {ws : List (List Nat)} {u e : List Nat}
theorem way_of (A : Amb ws) (he : e ∈ ws) (hu : IsL u) (ht : ∀ w ∈ trodL u, w ∈ ws) : Way ws (goalsL ws u e) (fol [] u) e :=
  ⟨A, ⟨IsL.fol .nil hu, isP_fol .nil hu rfl, fun g hg => by
    rcases mem_goalsL.mp hg with h | rfl
    · exact A.w1 g h.1
    · exact A.w1 _ he, mem_goalsL.mpr (.inr rfl), fun h => (mem_goalsL.mp h).elim (fun k => absurd (trodL_end u) k.2) id⟩, ht _ (trodL_end u), fun g hg => by
    rcases mem_goalsL.mp hg with h | rfl
    · exact h.1
    · exact he⟩
/-- behind a word more -/
theorem goals_app (hu : IsL u) {w : List Nat} (hw : IsL w) (g : List Nat) : g ∈ gfol e (goalsL ws u e) (fol [] u) w ↔ g ∈ goalsL ws (u ++ w) e := by
  rw [mem_gfol, mem_goalsL, mem_goalsL, trodL_app hu hw]
  constructor
  · rintro ⟨h1, h2⟩
    by_cases ge : g = e
    · exact .inr ge
    · have h1 := h1.resolve_right ge
      have h2 := h2.resolve_left ge
      refine .inl ⟨h1.1, ?_⟩
      rintro (h | ⟨x, hx, rfl⟩)
      · exact h1.2 h
      · obtain ⟨j, hj, rfl⟩ := trodL_mem hx
        rw [fol_fol (IsL.fol .nil hu) (isP_fol .nil hu rfl) _ (hw.take j)] at h1 h2
        cases j with
        | zero => exact h1.2 (trodL_end u)
        | succ j => exact h2 (j + 1) (Nat.succ_pos _) hj rfl
  · rintro (⟨h1, h2⟩ | rfl)
    · refine ⟨.inl ⟨h1, fun h => h2 (.inl h)⟩, .inr fun j a b h => h2 (.inr ⟨fol [] (w.take j), List.mem_map.mpr ⟨j, List.mem_range.mpr (by omega), rfl⟩, ?_⟩)⟩
      rw [fol_fol (IsL.fol .nil hu) (isP_fol .nil hu rfl) _ (hw.take j)]
      exact h
    · exact ⟨.inr rfl, .inl rfl⟩
theorem rest_behind (A : Amb ws) (he : e ∈ ws) (hu : IsL u) (ht : ∀ w ∈ trodL u, w ∈ ws) {a b : List Nat} (h : restL ws u e = a ++ b) : restL ws (u ++ a) e = b := by
  have X := way_of A he hu ht
  have ha : IsL a := (show IsL (a ++ b) from h ▸ X.rest.2.1).sub fun _ k => List.mem_append_left _ k
  have := rst_app X h
  unfold restL
  rw [← rst_congr (goals_app hu ha), fol_app]
  exact this
theorem rest_len (A : Amb ws) (he : e ∈ ws) (hu : IsL u) (ht : ∀ w ∈ trodL u, w ∈ ws) : ((restL ws u e).length : Int) = costL ws u e := (way_of A he hu ht).rest.1
theorem rest_l (A : Amb ws) (he : e ∈ ws) (hu : IsL u) (ht : ∀ w ∈ trodL u, w ∈ ws) : IsL (restL ws u e) := (way_of A he hu ht).rest.2.1
/-- with the rest it is the tread -/
theorem rest_whole (A : Amb ws) (he : e ∈ ws) (hu : IsL u) (ht : ∀ w ∈ trodL u, w ∈ ws) : fol [] (u ++ restL ws u e) = e ∧ ∀ w, w ∈ trodL (u ++ restL ws u e) ↔ w ∈ ws := by
  have X := way_of A he hu ht
  obtain ⟨a1, a2, a3, a4, a5⟩ := X.rest
  refine ⟨by rw [fol_app]; exact a3, fun w => ?_⟩
  rw [show restL ws u e = rst ws (goalsL ws u e) (fol [] u) e from rfl, trodL_app hu a2]
  have key : ∀ j, fol (fol [] u) (fol [] ((rst ws (goalsL ws u e) (fol [] u) e).take j)) = fol (fol [] u) ((rst ws (goalsL ws u e) (fol [] u) e).take j) := fun j => fol_fol (IsL.fol .nil hu) (isP_fol .nil hu rfl) _ (a2.take j)
  constructor
  · rintro (h | ⟨x, hx, rfl⟩)
    · exact ht w h
    · obtain ⟨j, hj, rfl⟩ := trodL_mem hx
      rw [key j]
      exact a4 j hj
  · intro h
    by_cases hw : w ∈ trodL u
    · exact .inl hw
    · obtain ⟨j, k1, k2⟩ := a5 w (mem_goalsL.mpr (.inl ⟨h, hw⟩))
      refine .inr ⟨fol [] ((rst ws (goalsL ws u e) (fol [] u) e).take j), List.mem_map.mpr ⟨j, List.mem_range.mpr (by omega), rfl⟩, ?_⟩
      rw [key j, k2]
/-- nothing is left just of the whole -/
theorem rest_nil (A : Amb ws) (he : e ∈ ws) (hu : IsL u) (ht : ∀ w ∈ trodL u, w ∈ ws) : restL ws u e = [] ↔ (∀ w ∈ ws, w ∈ trodL u) ∧ fol [] u = e := by
  constructor
  · intro h
    have := rest_whole A he hu ht
    rw [h, List.append_nil] at this
    exact ⟨fun w hw => (this.2 w).mpr hw, this.1⟩
  · rintro ⟨h1, h2⟩
    have := rest_len A he hu ht
    unfold costL at this
    rw [cost_done h2 (fun g hg => (mem_goalsL.mp hg).elim (fun k => absurd (h1 g k.1) k.2) (fun k => k.trans h2.symm))] at this
    exact List.eq_nil_of_length_eq_zero (by omega)
/-- one letter more -/
theorem cost_more (A : Amb ws) (he : e ∈ ws) (hu : IsL u) (ht : ∀ w ∈ trodL u, w ∈ ws) {c : Nat} (hc : c ∈ letC) (hs : fol [] (u ++ [c]) ∈ ws) :
    costL ws u e - 1 ≤ costL ws (u ++ [c]) e ∧ ∀ d r, restL ws u e = d :: r → (c = d → costL ws (u ++ [c]) e = costL ws u e - 1) ∧ (c < d → costL ws (u ++ [c]) e = costL ws u e + 1) := by
  have X := way_of A he hu ht
  have hs : stp (fol [] u) c ∈ ws := by rw [fol_app] at hs; exact hs
  have ed := A.edg X.hp hs
  have e1 : costL ws (u ++ [c]) e = costZ ws (gnx (goalsL ws u e) (stp (fol [] u) c) e) (stp (fol [] u) c) e := by
    unfold costL
    rw [← cost_congr (goals_app hu (.one hc)), fol_app]
    rfl
  rw [e1]
  refine ⟨X.W.least A.nd hc ed, fun d r h => ?_⟩
  have k := X.first h
  refine ⟨fun cd => ?_, fun cd => X.W.more A.nd k hc cd ed⟩
  subst cd
  exact X.W.less A.nd k ed
end
end Xia

set_option Elab.async false
set_option linter.all false
set_option maxRecDepth 100000
set_option maxHeartbeats 4000000
set_option autoImplicit false
/-! Own: y = {k: v for ..}. -/
namespace Xia
open PySem PySem.Spec PyProof.Rows L2 SX LamX
theorem sw_trueD {kx vx : Expr} {gs : List Comprehension} {scope : Scope} {pos py : Pos} {y : Str} {l : Nat} {env : Env} (hk : env.scope.kind = ScopeKind.function) (hl : List.lookup y env.scope.names = some NameKind.local)
    (hp : (py.line == pos.line) = true) (hn : (scope.names.any fun x => match x with | (n, k) => n == y && (k == NameKind.local || k == NameKind.cell)) = false) :
    swapsWith (kx.DictComp vx gs scope pos) (some (Expr.Name y py)) l env = pure true :=
  (sw_true (elt := kx) (gs := gs) (scope := scope) (pos := pos) (py := py) (y := y) (l := l) (env := env) hk hl hp hn)
theorem ps_setDc {X : Cx} {i : Nat} {y : Str} {py : Pos} {kx vx tg iter : Expr} {ifs : List Expr} {scope : Scope} {own : List (Str × Nat)} {pos spos : Pos} {wi : TI} {g : TG} {tt : TT} {tk tv : TE}
    (hc : X.calm = true) (hN : X.N.Nodup) (hy : X.N[i]? = some y) (hyl : List.lookup y X.env.scope.names = some NameKind.local)
    (hsw : swapsWith (kx.DictComp vx [{ target := tg, iter := iter, ifs := ifs, is_async := 0 }] scope pos) (some (Expr.Name y py)) spos.line X.env = pure true)
    (hi : PI X tg iter wi) (ok : BlkOk X.N X.env.scope scope own)
    (hg : ∀ (s : Shared) (H : Hp) (C : Addr) (cl : List (Str × Addr)) (fp : List Addr), PG (X.blk s H scope (compEnvC scope cl C X.env) fp) tg g)
    (ht : ∀ (s : Shared) (H : Hp) (C : Addr) (cl : List (Str × Addr)) (fp : List Addr), PTs (X.blk s H scope (compEnvC scope cl C X.env) fp) ifs tt)
    (hk : ∀ (s : Shared) (H : Hp) (C : Addr) (cl : List (Str × Addr)) (fp : List Addr), PE (X.blk s H scope (compEnvC scope cl C X.env) fp) kx tk)
    (hv : ∀ (s : Shared) (H : Hp) (C : Addr) (cl : List (Str × Addr)) (fp : List Addr), PE (X.blk s H scope (compEnvC scope cl C X.env) fp) vx tv)
    (hs : ∀ (x : Value), foldedSetIterable iter X.env x = pure x := by intro x; rfl) :
    PS X (Stmt.Assign [Expr.Name y py] (kx.DictComp vx [{ target := tg, iter := iter, ifs := ifs, is_async := 0 }] scope pos) spos) (tAsg (tDc wi g tt tk tv (List.map (fun x => x.snd) own)) (gName i)) := by
  constructor
  intro pins s σ H D I h
  rw [exec_Assign_Name_used y py _ spos hsw]
  refine wpAny_bind (wpAny_standAt (wpAny_bind ?_))
  show wpAny _ _ (evalThenUse _ _ _) _ _ _
  unfold evalThenUse
  refine wpAny_bind (thn (dc_core hc hN I hi ok hg ht hk hv hs h fun L C s' m H' I' q hn f => ?_) fun x s' hq => wpAny_pure (wpAny_pure hq))
  refine wpAny_assign_Name (store_ok2 (v := V.ref L) I' hN hy (Or.inl hyl) rfl (fun s2 I2 x => ?_) (Or.inr hyl))
  obtain ⟨a, sb, ha⟩ := x
  obtain ⟨f0, f1, f2, f3, f4, f5⟩ := f
  have haC : C ≠ a := by
    rcases ha with z | z
    · rw [z]; exact f1
    · exact fun e => f4 y a z e.symm
  exact ⟨m, Heap.Ns.sameBut hn sb haC, fun h3 sb3 => ⟨List.set σ i (some (V.ref L)), H', Inv.turned I2 (fun b o hb e => (sb3.right b hb).trans e) f0 f1 f3 f4 f5, q⟩⟩
end Xia

set_option Elab.async false
set_option linter.all false
set_option maxRecDepth 100000
set_option maxHeartbeats 4000000
set_option autoImplicit false
/-! Own: the first letter of a way. -/
namespace Xia
open PySem PySem.Spec PyProof.Rows L2 SX LamX
def mStarts : V → List V → Hp → VK → Prop := fun x xs H Q => ∃ a b, x = V.str a ∧ xs = [V.str b] ∧ Q (V.bl (Txt.startswith a b)) H
section
variable {K : PySem.W.Frag} {T : List (Addr × Str)}
def dStarts : Str → List PyData → (PyData → Prop) → Prop := fun a ds G => match ds with
  | [.str b] => G (.bool (Txt.startswith a b))
  | _ => False
instance mtdStarts : MtD K mStarts dStarts := ⟨fun {M H z vs ds Q G} m h g q => by
  unfold dStarts at g
  split at g
  · cases h with
    | cons a b => cases b; cases a; exact ⟨_, _, rfl, rfl, q _ _ _ g (.refl _) (.bl _)⟩
  · exact g.elim⟩
end
theorem starts_S (g p : List Nat) : Txt.startswith (S g) (S p) = pr p g := by
  unfold Txt.startswith
  rw [StrLaws.subAt_eq]
  show (decide (0 + (S p).length ≤ (S g).length) && ((g.drop 0).take (S p).length == p)) = _
  rw [S_len, S_len, List.drop_zero, Nat.zero_add, Bool.eq_iff_iff, Bool.and_eq_true, decide_eq_true_eq, beq_iff_eq, pr_iff]
  constructor
  · rintro ⟨_, h⟩
    exact ⟨g.drop p.length, by have := List.take_append_drop p.length g; rw [h] at this; exact this⟩
  · intro h
    exact ⟨h.length_le, (List.prefix_iff_eq_take.mp h).symm⟩
/-- a letter, or None -/
def optD : Option Nat → PyData
  | none => .none
  | some c => .str (S [c])
def dToward : List PyData → (PyData → Prop) → Prop := fun ds G => ∃ p g, ds = [.str (S p), .str (S g)] ∧ IsL p ∧ IsL g ∧ p.length ≤ 100000 ∧ g.length ≤ 100000 ∧ G (optD (tow p g))
end Xia

set_option Elab.async false
set_option linter.all false
set_option maxRecDepth 100000
set_option maxHeartbeats 4000000
set_option autoImplicit false
/-! Own: how far places are; what is closed toward a place. -/
namespace Xia
open PySem PySem.Spec PyProof.Rows L2 SX LamX
/-- how many letters two places have in common at their beginning -/
def lcp : List Nat → List Nat → Nat
  | a :: p, b :: g => if a = b then lcp p g + 1 else 0
  | _, _ => 0
theorem lcp_l : ∀ (p g : List Nat), lcp p g ≤ p.length
  | [], _ => Nat.zero_le _
  | a :: p, [] => Nat.zero_le _
  | a :: p, b :: g => by
    unfold lcp
    split
    · have := lcp_l p g
      rw [List.length_cons]
      omega
    · exact Nat.zero_le _
theorem lcp_comm : ∀ (p g : List Nat), lcp p g = lcp g p
  | [], [] => rfl
  | [], b :: g => rfl
  | a :: p, [] => rfl
  | a :: p, b :: g => by
    unfold lcp
    by_cases h : a = b
    · rw [if_pos h, if_pos h.symm, lcp_comm p g]
    · rw [if_neg h, if_neg (Ne.symm h)]
theorem lcp_r (p g : List Nat) : lcp p g ≤ g.length := by rw [lcp_comm]; exact lcp_l g p
theorem lcp_pre : ∀ {p g : List Nat}, p <+: g → lcp p g = p.length
  | [], g, _ => by cases g <;> rfl
  | a :: p, [], h => absurd h.length_le (by simp)
  | a :: p, b :: g, h => by
    obtain ⟨e, h⟩ := List.cons_prefix_cons.mp h
    unfold lcp
    rw [if_pos e, lcp_pre h]
    rfl
theorem lcp_pre' : ∀ {p g : List Nat}, lcp p g = p.length → p <+: g
  | [], g, _ => List.nil_prefix
  | a :: p, [], h => by unfold lcp at h; cases h
  | a :: p, b :: g, h => by
    unfold lcp at h
    split at h
    · rename_i e
      rw [List.length_cons] at h
      exact List.cons_prefix_cons.mpr ⟨e, lcp_pre' (by omega)⟩
    · cases h
theorem lcp_drop : ∀ {p g : List Nat}, ¬ p <+: g → lcp p.dropLast g = lcp p g
  | [], g, h => absurd List.nil_prefix h
  | [a], g, h => by
    cases g with
    | nil => rfl
    | cons b g =>
      show lcp [] (b :: g) = lcp [a] (b :: g)
      unfold lcp
      rw [if_neg fun e => h (List.cons_prefix_cons.mpr ⟨e, List.nil_prefix⟩)]
  | a :: c :: p, [], h => by cases p <;> rfl
  | a :: c :: p, b :: g, h => by
    show lcp (a :: (c :: p).dropLast) (b :: g) = lcp (a :: c :: p) (b :: g)
    unfold lcp
    by_cases e : a = b
    · rw [if_pos e, if_pos e, lcp_drop fun k => h (List.cons_prefix_cons.mpr ⟨e, k⟩)]
    · rw [if_neg e, if_neg e]
/-- how many letters the way from p to g has -/
def dst (p g : List Nat) : Nat := p.length + g.length - 2 * lcp p g
theorem dst_tow {p g : List Nat} {c : Nat} (hp : IsL p) (pg : isP g = true) (hc : c ∈ letC) (h : tow p g = some c) : dst (stp p c) g + 1 = dst p g := by
  have h1 := (tow_sep hp pg hc).mp h
  have l1 := lcp_l p g
  have l2 := lcp_r p g
  by_cases e : p.getLast? = some (oth c)
  · have e1 : stp p c = p.dropLast := if_pos e
    have e2 : edg p c = p := if_pos e
    rw [e2, pr_self] at h1
    have n : ¬ p <+: g := fun z => h1 (pr_iff.mpr z)
    have l3 : lcp p g ≠ p.length := fun z => n (lcp_pre' z)
    unfold dst
    rw [e1, lcp_drop n, List.length_dropLast]
    omega
  · have e1 : stp p c = p ++ [c] := if_neg e
    have e2 : edg p c = p ++ [c] := if_neg e
    have f : pr (p ++ [c]) p = false := pr_long (by rw [List.length_append]; exact Nat.lt_succ_self _)
    rw [e2, f] at h1
    have k : p ++ [c] <+: g := pr_iff.mp (by cases hh : pr (p ++ [c]) g with | true => rfl | false => exact absurd hh h1)
    have k2 : p <+: g := (List.prefix_append p [c]).trans k
    have ll := k.length_le
    unfold dst
    rw [e1, lcp_pre k, lcp_pre k2]
    rw [List.length_append] at ll ⊢
    have : ([c] : List Nat).length = 1 := rfl
    omega
/-- closed toward p -/
def Toward (p : List Nat) (A : List Nat → Prop) : Prop := ∀ x, A x → x ≠ p → ∃ c, c ∈ letC ∧ tow x p = some c ∧ A (stp x c)
theorem toward_way {p : List Nat} {A : List Nat → Prop} (pp : isP p = true) (w1 : ∀ x, A x → IsL x ∧ isP x = true) (cl : Toward p A) : ∀ (n : Nat) (y : List Nat), dst y p = n → A y → ∀ x, onw p y x → A x := by
  intro n
  induction n with
  | zero =>
    intro y hn hy x hx
    by_cases e : y = p
    · subst e
      have : x = y := by
        have h1 := pr_iff.mp ((hx x).elim (fun k => k.symm.trans (pr_self x)) (fun k => k.symm.trans (pr_self x)))
        have h2 := pr_iff.mp ((hx y).elim (fun k => k.trans (pr_self y)) (fun k => k.trans (pr_self y)))
        exact h1.eq_of_length (Nat.le_antisymm h1.length_le h2.length_le)
      rw [this]
      exact hy
    · obtain ⟨c, hc, k, _⟩ := cl y hy e
      have := dst_tow (w1 y hy).1 pp hc k
      omega
  | succ n ih =>
    intro y hn hy x hx
    by_cases e : y = p
    · subst e
      have : x = y := by
        have h1 := pr_iff.mp ((hx x).elim (fun k => k.symm.trans (pr_self x)) (fun k => k.symm.trans (pr_self x)))
        have h2 := pr_iff.mp ((hx y).elim (fun k => k.trans (pr_self y)) (fun k => k.trans (pr_self y)))
        exact h1.eq_of_length (Nat.le_antisymm h1.length_le h2.length_le)
      rw [this]
      exact hy
    · obtain ⟨c, hc, k, h2⟩ := cl y hy e
      have d := dst_tow (w1 y hy).1 pp hc k
      by_cases ex : x = y
      · rw [ex]; exact hy
      · have far := (tow_sep (w1 y hy).1 pp hc).mp k
        have f := onw_fwd far (fun z => (hx z).symm) ex
        exact ih (stp y c) (by omega) h2 x fun z => (f z).symm
/-- one step back on a way -/
theorem onw_back {p g q : List Nat} {c : Nat} (h : onw p g q) (far : pr (edg q c) p ≠ pr (edg q c) q) : onw p g (stp q c) := fun y => by
  by_cases e : y = edg q c
  · subst e
    refine .inl ?_
    rw [pr_eq]
    cases h1 : pr (edg q c) p <;> cases h2 : pr (edg q c) q <;> first | rfl | exact absurd (h1.trans h2.symm) far
  · rcases h y with k | k
    · exact .inl ((pr_ne e).trans k)
    · exact .inr ((pr_ne e).trans k)
/-! ### dicts of True by places -/
def keysD (ks : List (List Nat)) : List (Key × V) := ks.map fun x => (.inr (S x), .bl true)
theorem keys_len (ks : List (List Nat)) : (keysD ks).length = ks.length := List.length_map ..
theorem keys_get {ks : List (List Nat)} {x : List Nat} : valV (keysD ks) (.inr (S x)) = if x ∈ ks then some (.bl true) else none := by
  induction ks with
  | nil => rfl
  | cons k ks ih =>
    by_cases e : k = x
    · subst e
      rw [if_pos (List.mem_cons_self ..)]
      exact valV_pos (p := ((.inr (S k), .bl true) : Key × V)) rfl
    · have : valV (keysD (k :: ks)) (.inr (S x)) = valV (keysD ks) (.inr (S x)) := valV_neg (p := ((.inr (S k), .bl true) : Key × V)) fun z => e (S_inj (Sum.inr.inj z))
      rw [this, ih]
      by_cases h : x ∈ ks
      · rw [if_pos h, if_pos (List.mem_cons_of_mem _ h)]
      · rw [if_neg h, if_neg fun z => (List.mem_cons.mp z).elim (fun q => e q.symm) h]
theorem keys_put {ks : List (List Nat)} {x : List Nat} (h : x ∉ ks) : putK (keysD ks) (.inr (S x)) (.bl true) = keysD (ks ++ [x]) := by
  rw [putK_new _ (by rw [keys_get, if_neg h])]
  unfold keysD
  rw [List.map_append]
  rfl
theorem keys_drop {x : List Nat} : ∀ {ks : List (List Nat)}, dropK (keysD ks) (.inr (S x)) = keysD (ks.filter fun y => decide (y ≠ x))
  | [] => rfl
  | k :: ks => by
    by_cases e : k = x
    · subst e
      rw [List.filter_cons, if_neg (by simp)]
      rw [show keysD (k :: ks) = (Sum.inr (S k), V.bl true) :: keysD ks from rfl, dropK_pos rfl]
      exact keys_drop
    · rw [List.filter_cons, if_pos (by simpa using e)]
      rw [show keysD (k :: ks) = (Sum.inr (S k), V.bl true) :: keysD ks from rfl, dropK_neg (fun z => e (S_inj (Sum.inr.inj z))), keys_drop]
      rfl
def spWays (K : PySem.W.Frag) : Sp := Sp2 fun x y H Q E => ∃ (p : List Nat) (l : Addr) (gs : List (List Nat)), x = .str (S p) ∧ y = .ref l ∧ SqL K H l (gs.map fun g => V.str (S g)) ∧ IsL p ∧ isP p = true ∧ p.length ≤ 1000 ∧
  (∀ g ∈ gs, IsL g ∧ isP g = true ∧ g.length ≤ 1000) ∧ gs.length ≤ 1000 ∧ ∀ d ks H', Same H H' → H d = none → H' d = some (.dK (keysD ks)) → ks.Nodup → (∀ x, x ∈ ks ↔ x = p ∨ ∃ g ∈ gs, onw p g x) → Q (.ref d) H'
def nxtK (ks : List (List Nat)) (p e : List Nat) : Option Nat := match letC.find? (fun c => decide (tow p e ≠ some c) && decide (stp p c ∈ ks)) with
  | some c => some c
  | none => tow p e
def optV : Option Nat → V
  | none => .non
  | some c => .str (S [c])
def spNextL (K : PySem.W.Frag) : Sp := Sp3 fun x y z H Q E => ∃ (p e : List Nat) (d : Addr) (ks : List (List Nat)), x = .str (S p) ∧ y = .str (S e) ∧ z = .ref d ∧ H d = some (.dK (keysD ks)) ∧ IsL p ∧ isP p = true ∧ p.length ≤ 1000 ∧
  IsL e ∧ isP e = true ∧ e.length ≤ 1000 ∧ ∀ H', Same H H' → Q (optV (nxtK ks p e)) H'
theorem ne_opt {K : PySem.W.Frag} {c : Nat} {o : Option Nat} {H : Hp} {Q : VK} (hc : c ∈ letC) (q : Q (.bl (decide (o ≠ some c))) H) : mNe K (.str (S [c])) (optV o) H Q := by
  cases o with
  | none => exact ⟨false, ⟨.str (S [c]), .none, .str _, .non, (nice_str (m := 1) ⟨[c], rfl, .one hc, Nat.le_refl _⟩).shaped (by decide), rfl, rfl⟩, q⟩
  | some d =>
    show Q (.bl (!decide (S [c] = S [d]))) H
    have e : (!decide (S [c] = S [d])) = decide (some d ≠ some c) := by
      by_cases h : c = d
      · subst h
        rw [decide_eq_true rfl, decide_eq_false (fun z => z rfl)]
        rfl
      · rw [decide_eq_false (fun z => h (List.cons.inj (S_inj z)).1), show decide (some d ≠ some c) = true from decide_eq_true (fun z => h (Option.some.inj z).symm)]
        rfl
    rw [e]
    exact q
theorem dp_opt {K : PySem.W.Frag} {H : Hp} {o : Option Nat} {v : V} (h : Dp K H v (optD o)) : v = optV o := by
  cases o <;> (cases h; rfl)
theorem letters_S : (Str.ofString "ABCDabcd") = S letC := by decide +kernel
theorem find_none_of {f : Nat → Bool} : ∀ {l : List Nat}, (∀ (j c : Nat), l[j]? = some c → f c = false) → l.find? f = none
  | l, h => List.find?_eq_none.mpr fun c hc => by
    obtain ⟨j, hj⟩ := List.getElem?_of_mem hc
    rw [h j c hj]
    decide
theorem find_at {f : Nat → Bool} {c : Nat} : ∀ {l : List Nat} {i : Nat}, l[i]? = some c → f c = true → (∀ j d, j < i → l[j]? = some d → f d = false) → l.find? f = some c
  | [], _, h, _, _ => by cases h
  | a :: l, 0, h, k, _ => by
    cases h
    rw [List.find?_cons, k]
  | a :: l, i + 1, h, k, o => by
    have := o 0 a (Nat.succ_pos _) rfl
    rw [List.find?_cons, this]
    exact find_at h k fun j d hj hd => o (j + 1) d (by omega) hd
end Xia

set_option Elab.async false
set_option linter.all false
set_option maxRecDepth 100000
set_option maxHeartbeats 4000000
set_option autoImplicit false
/-! Own: the walk by what is left, and by the goals: the same. -/
namespace Xia
open PySem PySem.Spec PyProof.Rows L2 SX LamX
/-- what is left of the places on the ways to goals -/
structure Wlk (ks G : List (List Nat)) (p e : List Nat) : Prop where
  k : ∀ g ∈ G, ∀ x, onw p g x → onw p e x ∨ x ∈ ks
  j : ∀ x ∈ ks, x ≠ p ∧ ∃ g ∈ G, onw p g x
theorem find_congr {f g : Nat → Bool} : ∀ {l : List Nat}, (∀ c ∈ l, f c = g c) → l.find? f = l.find? g
  | [], _ => rfl
  | a :: l, h => by
    rw [List.find?_cons, List.find?_cons, h a (List.mem_cons_self ..), find_congr fun c hc => h c (List.mem_cons_of_mem _ hc)]
theorem Wlk.nxt {ks G : List (List Nat)} {p e : List Nat} (X : Wlk ks G p e) (W : Goals G p e) : nxtK ks p e = nxtG G p e := by
  unfold nxtK nxtG
  have : letC.find? (fun c => decide (tow p e ≠ some c) && decide (stp p c ∈ ks)) = letC.find? (aheadB G p e) := find_congr fun c hc => by
    rw [Bool.eq_iff_iff, Bool.and_eq_true, decide_eq_true_eq, decide_eq_true_eq, ahead_iff]
    constructor
    · rintro ⟨h1, h2⟩
      obtain ⟨_, g, hg, ow⟩ := X.j _ h2
      refine ⟨h1, g, hg, fun z => ?_⟩
      rcases ow (edg p c) with k | k
      · rw [pr_eq] at k
        revert k
        cases pr (edg p c) p <;> decide
      · rw [pr_eq, z] at k
        revert k
        cases pr (edg p c) p <;> decide
    · rintro ⟨h1, g, hg, far⟩
      refine ⟨h1, (X.k g hg _ (onw_step far)).resolve_left fun z => h1 ?_⟩
      refine (tow_sep W.p1 (W.g1 e W.en).2 hc).mpr fun z2 => ?_
      rcases z (edg p c) with k | k
      · rw [pr_eq] at k
        revert k
        cases pr (edg p c) p <;> decide
      · rw [pr_eq, z2] at k
        revert k
        cases pr (edg p c) p <;> decide
  rw [this]
  try (cases List.find? (aheadB G p e) letC <;> rfl)
theorem Wlk.next {ks G : List (List Nat)} {p e : List Nat} {c : Nat} (X : Wlk ks G p e) (W : Goals G p e) (h : nxtG G p e = some c) : Wlk (ks.filter fun y => decide (y ≠ stp p c)) (gnx G (stp p c) e) (stp p c) e := by
  have hc := (W.next h).1
  have mem : ∀ {x}, x ∈ ks → x ≠ stp p c → x ∈ ks.filter fun y => decide (y ≠ stp p c) := fun h n => List.mem_filter.mpr ⟨h, decide_eq_true n⟩
  refine ⟨fun g hg x ow => ?_, fun x hx => ?_⟩
  · have hg := (mem_gnx.mp hg).1
    by_cases xp : x = stp p c
    · rw [xp]
      exact .inl (onw_l _ _)
    by_cases far : pr (edg p c) g = pr (edg p c) p
    · have he : pr (edg p c) e = pr (edg p c) p := Decidable.of_not_not fun z => W.home h ((tow_sep W.p1 (W.g1 e W.en).2 hc).mpr z) g hg far
      rcases onw_nearB W.p1 W.p2 hc far ow with k | k
      · exact absurd k xp
      · rcases X.k g hg x k with k | k
        · exact .inl (onw_near he k)
        · exact .inr (mem k xp)
    · obtain ⟨o2, fx⟩ := onw_far far ow
      rcases X.k g hg x o2 with k | k
      · by_cases he : pr (edg p c) e = pr (edg p c) p
        · exfalso
          rcases k (edg p c) with k | k
          · exact fx k
          · exact fx (k.trans he)
        · exact .inl (onw_fwd he k fun z => fx (by rw [z]))
      · exact .inr (mem k xp)
  · obtain ⟨h1, h2⟩ := List.mem_filter.mp hx
    have h2 := of_decide_eq_true h2
    obtain ⟨np, g, hg, ow⟩ := X.j x h1
    refine ⟨h2, g, mem_gnx.mpr ⟨hg, .inl fun z => ?_⟩, ?_⟩
    · rw [z] at ow
      exact (onw_two W.p1 W.p2 hc ow).elim np h2
    · by_cases far : pr (edg p c) g = pr (edg p c) p
      · exact onw_near far ow
      · exact onw_fwd far ow np
/-- the start: all places on ways from p, without p -/
theorem wlk_start {ks G : List (List Nat)} {p e : List Nat} (h : ∀ x, x ∈ ks ↔ x ≠ p ∧ ∃ g ∈ G, onw p g x) : Wlk ks G p e := by
  refine ⟨fun g hg x ow => ?_, fun x hx => (h x).mp hx⟩
  by_cases xp : x = p
  · rw [xp]
    exact .inl (onw_l _ _)
  · exact .inr ((h x).mpr ⟨xp, g, hg, ow⟩)
theorem dc_it {J : It} {n : Nat} {G : Hp → Prop} {Y : Nat → Hp → V → Hp → Prop} (Wk : Walk J n G Y) {g : TG} {tt : TT} {tk tv : TE} {vs : List Nat} {σ : L2.St} {H1 : Hp} {D : Addr} {Qd : Hp → Prop} (Pv : Nat → Hp → Prop)
    (h0 : Pv 0 (upd H1 D (.dK []))) (hG : ∀ (i : Nat) (H : Hp), i ≤ n → Pv i H → G H)
    (hs : ∀ (i : Nat) (x : V) (H H' : Hp), i < n → Pv i H → Y i H x H' → g x (wipe σ vs) H' fun σ2 H2 => wipe σ2 vs = wipe σ vs ∧ tt σ2 H2 fun b H3 => if b = true then tk σ2 H3 fun y H4 => tv σ2 H4 fun z H5 => ∃ kvs k, y = kV k ∧ H5 D = some (HO.dK kvs) ∧ kvs.length < sizeLine ∧ Pv (i + 1) (upd H5 D (HO.dK (putK kvs k z))) else Pv (i + 1) H3)
    (hd : ∀ H, Pv n H → Qd H) :
    ∃ W : Nat → Nat → Hp → Prop, (∃ m, W 0 m (upd H1 D (HO.dK []))) ∧ ∀ (i m : Nat) (H : Hp), W i m H → J.stop i H ∧ Qd H ∨ J.go i H ∧ ∃ Nx : Hp → Prop, (∀ (H' : Hp), Nx H' → ∃ m', m' < m ∧ W (i + 1) m' H') ∧ ∀ (x : V) (H' : Hp), J.yld i H x H' → g x (wipe σ vs) H' fun σ2 H2 => wipe σ2 vs = wipe σ vs ∧ tt σ2 H2 fun b H3 => if b = true then tk σ2 H3 fun y H4 => tv σ2 H4 fun z H5 => ∃ kvs k, y = kV k ∧ H5 D = some (HO.dK kvs) ∧ kvs.length < sizeLine ∧ Nx (upd H5 D (HO.dK (putK kvs k z))) else Nx H3 := by
  refine ⟨fun i m H => i + m = n ∧ Pv i H, ⟨n, by omega, h0⟩, fun i m H hW => ?_⟩
  obtain ⟨e, hP⟩ := hW
  by_cases c : i = n
  · subst c
    exact .inl ⟨Wk.stops H (hG i H (Nat.le_refl _) hP), hd H hP⟩
  · have hi : i < n := by omega
    exact .inr ⟨Wk.goes i H hi (hG i H (by omega) hP), Pv (i + 1), fun H' h => ⟨m - 1, by omega, by omega, h⟩, fun x H' hy => hs i x H H' hi hP (Wk.yields i H x H' hi (hG i H (by omega) hP) hy)⟩
theorem rst_le {ws G : List (List Nat)} {p e : List Nat} (X : Way ws G p e) : (rst ws G p e).length ≤ 2 * ws.length := by
  have h := X.rest.1
  unfold costZ at h
  have : ws.countP (farB G p) ≤ ws.length := List.countP_le_length
  omega
def spShort (K : PySem.W.Frag) : Sp := Sp3 fun x y z H Q E => ∃ (p e : List Nat) (l : Addr) (gs ws : List (List Nat)), x = .str (S p) ∧ y = .str (S e) ∧ z = .ref l ∧ H l = some (.lst (gs.map fun g => V.str (S g))) ∧
  Way ws (gs ++ [e]) p e ∧ ws.length ≤ 201 ∧ gs.length ≤ 201 ∧ (∀ w ∈ ws, w.length ≤ 200) ∧ ∀ H', Same H H' → Q (.str (S (rst ws (gs ++ [e]) p e))) H'
end Xia

set_option Elab.async false
set_option linter.all false
set_option maxRecDepth 100000
set_option maxHeartbeats 4000000
set_option autoImplicit false
/-! Own: the rest of a word to a tread, told of its places. -/
namespace Xia
open PySem PySem.Spec PyProof.Rows L2 SX LamX
/-- the places as lists of letters -/
def wsO (zs : List Str) : List (List Nat) := zs.map fun z => z.cps.toList
theorem S_list (w : List Nat) : (S w).cps.toList = w := rfl
theorem ws_map {zs : List Str} (h : ∀ z ∈ zs, ∃ w, z = S w) : (wsO zs).map S = zs := by
  unfold wsO
  rw [List.map_map]
  refine (List.map_congr_left fun z hz => ?_).trans (List.map_id _)
  obtain ⟨w, rfl⟩ := h z hz
  rfl
theorem mem_ws {zs : List Str} (h : ∀ z ∈ zs, ∃ w, z = S w) {x : List Nat} : x ∈ wsO zs ↔ S x ∈ zs := by
  constructor
  · intro hx
    obtain ⟨z, hz, rfl⟩ := List.mem_map.mp hx
    obtain ⟨w, rfl⟩ := h z hz
    exact hz
  · intro hx
    exact List.mem_map.mpr ⟨S x, hx, rfl⟩
theorem ws_len (zs : List Str) : (wsO zs).length = zs.length := List.length_map ..
theorem Trd.amb {zs : List Str} {e : List Nat} (T : Trd zs e) : Amb (wsO zs) := by
  refine ⟨?_, fun w hw => ?_, fun w hw => ?_⟩
  · have nd : ((wsO zs).map S).Nodup := by rw [ws_map T.s]; exact T.nodup
    exact List.Pairwise.of_map S (fun a b h e => h (by rw [e])) nd
  · have := T.word ((mem_ws T.s).mp hw)
    exact ⟨this.1, this.2.1⟩
  · exact (mem_ws T.s).mpr (T.cl w ((mem_ws T.s).mp hw))
theorem Trd.ew {zs : List Str} {e : List Nat} (T : Trd zs e) : e ∈ wsO zs := (mem_ws T.s).mpr T.en
/-- does a word tread these places alone -/
def inB (u : List Nat) (zs : List Str) : Bool := (trodL u).all fun w => decide (S w ∈ zs)
theorem inB_iff {u : List Nat} {zs : List Str} : inB u zs = true ↔ ∀ w ∈ trodL u, S w ∈ zs := by
  unfold inB
  rw [List.all_eq_true]
  simp only [decide_eq_true_eq]
/-- what rest_word tells -/
def restS (u : List Nat) (zs : List Str) (e : List Nat) : List Nat := restL (wsO zs) u e
def restD (u : List Nat) (zs : List Str) (e : List Nat) : PyData := if inB u zs = true then .str (S (restS u zs e)) else .none
def restV (u : List Nat) (zs : List Str) (e : List Nat) : V := if inB u zs = true then .str (S (restS u zs e)) else .non
def spRestOf (K : PySem.W.Frag) : Sp := Sp2 fun x y H Q E => ∃ (u : List Nat) (t : Addr) (zs : List Str) (e : List Nat), x = .str (S u) ∧ y = .ref t ∧ IsL u ∧ u.length ≤ 1100 ∧ Trd zs e ∧ TreadAt K H t zs (S e) ∧ ∀ H', Same H H' → Q (restV u zs e) H'
/-- the places that a word lacks -/
def lackL (zs : List Str) (u : List Nat) : List Str := zs.filter fun z => decide (z ∉ plc u)
theorem lack_goals {zs : List Str} {e u : List Nat} (T : Trd zs e) : lackL zs u = ((wsO zs).filter fun x => decide (x ∉ trodL u)).map S := by
  unfold lackL
  have e1 : zs = (wsO zs).map S := (ws_map T.s).symm
  conv => lhs; rw [e1]
  rw [List.filter_map]
  congr 1
  refine List.filter_congr fun x _ => ?_
  show decide (S x ∉ plc u) = decide (x ∉ trodL u)
  refine decide_eq_decide.mpr (not_congr ?_)
  rw [mem_plc]
  constructor
  · rintro ⟨w, hw, k⟩
    rw [← S_inj k]
    exact hw
  · intro h
    exact ⟨x, h, rfl⟩
section
variable {K : PySem.W.Frag}
def dRestOf : List PyData → (PyData → Prop) → Prop := fun ds G => ∃ u zs e, ds = [.str (S u), treadD zs (S e)] ∧ IsL u ∧ u.length ≤ 1100 ∧ Trd zs e ∧ G (restD u zs e)
theorem rest_dp {H : Hp} (u : List Nat) (zs : List Str) (e : List Nat) : Dp K H (restV u zs e) (restD u zs e) := by
  unfold restV restD
  split
  · exact .str _
  · exact .non
instance fnRestOf : FnD K (spRestOf K) dRestOf := ⟨fun {M H vs ds Q E G} m h g q => by
  obtain ⟨u, zs, e, rfl, h1, h2, h3, g⟩ := g
  obtain ⟨x, y, rfl, w1, w2⟩ := dp2 h
  cases w1
  obtain ⟨t, rfl, ht⟩ := dp_trd w2
  exact ⟨u, t, zs, e, rfl, rfl, h1, h2, h3, ht, fun H' s => q _ _ _ g s (rest_dp u zs e)⟩⟩
end
end Xia

set_option Elab.async false
set_option linter.all false
set_option maxRecDepth 100000
set_option maxHeartbeats 4000000
set_option autoImplicit false
/-! Own: dicts and sets at the level of data. -/
namespace Xia
open PySem PySem.Spec PyProof.Rows L2 SX LamX
/-! ### entries -/
def getP (kvs : List (Key × PyData)) (k : Key) : Option PyData := (kvs.find? fun p => decide (p.1 = k)).map (·.2)
def putP (kvs : List (Key × PyData)) (k : Key) (d : PyData) : List (Key × PyData) := if (kvs.any fun p => decide (p.1 = k)) = true then kvs.map (fun p => if p.1 = k then (p.1, d) else p) else kvs ++ [(k, d)]
def dropP (kvs : List (Key × PyData)) (k : Key) : List (Key × PyData) := kvs.filter fun p => decide (p.1 ≠ k)
/-- a key told as data -/
def keyD : PyData → Option Key
  | .int i => some (.inl i)
  | .str s => some (.inr s)
  | _ => none
def dKey : Key → PyData
  | .inl i => .int i
  | .inr s => .str s
section
variable {K : PySem.W.Frag} {Hh : Hp}
theorem keyD_v {v : V} {d : PyData} {k : Key} (h : Dp K Hh v d) (e : keyD d = some k) : v = kV k := by
  cases d <;> simp only [keyD] at e <;> cases e <;> (cases h; rfl)
theorem dKey_dp (k : Key) : Dp K Hh (kV k) (dKey k) := by
  cases k with
  | inl i => exact .int i
  | inr s => exact .str s
/-- entries that stand for entries -/
def EntsD (K : PySem.W.Frag) (Hh : Hp) (es : List (Key × V)) (kvs : List (Key × PyData)) : Prop := es.map (·.1) = kvs.map (·.1) ∧ DpAll K Hh (es.map (·.2)) (kvs.map (·.2))
theorem EntsD.len {es : List (Key × V)} {kvs : List (Key × PyData)} (h : EntsD K Hh es kvs) : es.length = kvs.length := by
  have := congrArg List.length h.1
  rwa [List.length_map, List.length_map] at this
theorem EntsD.cons {k : Key} {v : V} {d : PyData} {es : List (Key × V)} {kvs : List (Key × PyData)} (w : Dp K Hh v d) (h : EntsD K Hh es kvs) : EntsD K Hh ((k, v) :: es) ((k, d) :: kvs) :=
  ⟨by rw [List.map_cons, List.map_cons, h.1], .cons w h.2⟩
theorem EntsD.uncons {a : Key × V} {es : List (Key × V)} {kvs : List (Key × PyData)} (h : EntsD K Hh (a :: es) kvs) : ∃ d r, kvs = (a.1, d) :: r ∧ Dp K Hh a.2 d ∧ EntsD K Hh es r := by
  cases kvs with
  | nil => exact absurd h.1 (by simp)
  | cons b r =>
    obtain ⟨h1, h2⟩ := h
    rw [List.map_cons, List.map_cons] at h1 h2
    obtain ⟨e1, e2⟩ := List.cons.inj h1
    cases h2 with
    | cons w ws => exact ⟨b.2, r, by rw [e1], w, e2, ws⟩
theorem EntsD.nil {kvs : List (Key × PyData)} (h : EntsD K Hh [] kvs) : kvs = [] := by
  cases kvs with
  | nil => rfl
  | cons b r => exact absurd h.1 (by simp)
theorem getP_pos {k : Key} {d : PyData} {r : List (Key × PyData)} : getP ((k, d) :: r) k = some d := by
  unfold getP
  rw [List.find?_cons, decide_eq_true rfl]
  rfl
theorem getP_neg {k j : Key} {d : PyData} {r : List (Key × PyData)} (h : k ≠ j) : getP ((k, d) :: r) j = getP r j := by
  unfold getP
  rw [List.find?_cons, decide_eq_false h]
theorem ents_get {k : Key} : ∀ {es : List (Key × V)} {kvs : List (Key × PyData)}, EntsD K Hh es kvs → (∀ v, valV es k = some v → ∃ d, getP kvs k = some d ∧ Dp K Hh v d) ∧ (valV es k = none → getP kvs k = none)
  | [], kvs, h => by
    rw [h.nil]
    exact ⟨(fun v z => by rw [valV_nil] at z; cases z), fun _ => rfl⟩
  | a :: es, kvs, h => by
    obtain ⟨d, r, rfl, w, h2⟩ := h.uncons
    by_cases e : a.1 = k
    · rw [valV_pos e]
      subst e
      exact ⟨(fun v z => by cases z; exact ⟨d, getP_pos, w⟩), fun z => by cases z⟩
    · rw [valV_neg e, getP_neg e]
      exact ents_get h2
theorem ents_some {k : Key} {es : List (Key × V)} {kvs : List (Key × PyData)} {d : PyData} (h : EntsD K Hh es kvs) (g : getP kvs k = some d) : ∃ v, valV es k = some v ∧ Dp K Hh v d := by
  obtain ⟨h1, h2⟩ := ents_get (k := k) h
  cases hv : valV es k with
  | none => rw [h2 hv] at g; cases g
  | some v =>
    obtain ⟨d', g', w⟩ := h1 v hv
    rw [g] at g'
    cases g'
    exact ⟨v, rfl, w⟩
theorem ents_none {k : Key} {es : List (Key × V)} {kvs : List (Key × PyData)} (h : EntsD K Hh es kvs) (g : getP kvs k = none) : valV es k = none := by
  cases hv : valV es k with
  | none => rfl
  | some v =>
    obtain ⟨d', g', w⟩ := (ents_get (k := k) h).1 v hv
    rw [g] at g'
    cases g'
theorem ents_any {k : Key} {es : List (Key × V)} {kvs : List (Key × PyData)} (h : EntsD K Hh es kvs) : (es.any fun p => decide (p.1 = k)) = (kvs.any fun p => decide (p.1 = k)) := by
  have e1 : (es.any fun p => decide (p.1 = k)) = (es.map (·.1)).any fun q => decide (q = k) := by rw [List.any_map]; rfl
  have e2 : (kvs.any fun p => decide (p.1 = k)) = (kvs.map (·.1)).any fun q => decide (q = k) := by rw [List.any_map]; rfl
  rw [e1, e2, h.1]
theorem ents_snoc {k : Key} {v : V} {d : PyData} : ∀ {es : List (Key × V)} {kvs : List (Key × PyData)}, EntsD K Hh es kvs → Dp K Hh v d → EntsD K Hh (es ++ [(k, v)]) (kvs ++ [(k, d)])
  | [], kvs, h, w => by
    rw [h.nil]
    exact ⟨rfl, .cons w .nil⟩
  | a :: es, kvs, h, w => by
    obtain ⟨d', r, rfl, w', h2⟩ := h.uncons
    exact (ents_snoc h2 w).cons w'
theorem ents_upd {k : Key} {v : V} {d : PyData} (w : Dp K Hh v d) : ∀ {es : List (Key × V)} {kvs : List (Key × PyData)}, EntsD K Hh es kvs → EntsD K Hh (es.map fun p => if p.1 = k then (p.1, v) else p) (kvs.map fun p => if p.1 = k then (p.1, d) else p)
  | [], kvs, h => by
    rw [h.nil]
    exact ⟨rfl, .nil⟩
  | a :: es, kvs, h => by
    obtain ⟨d', r, rfl, w', h2⟩ := h.uncons
    rw [List.map_cons, List.map_cons]
    by_cases e : a.1 = k
    · rw [if_pos e, if_pos e]
      exact (ents_upd w h2).cons w
    · rw [if_neg e, if_neg e]
      exact (ents_upd w h2).cons w'
theorem ents_put {k : Key} {v : V} {d : PyData} {es : List (Key × V)} {kvs : List (Key × PyData)} (h : EntsD K Hh es kvs) (w : Dp K Hh v d) : EntsD K Hh (putK es k v) (putP kvs k d) := by
  unfold putK putP
  rw [ents_any h]
  split
  · exact ents_upd w h
  · exact ents_snoc h w
theorem ents_keys {es : List (Key × V)} {kvs : List (Key × PyData)} (h : EntsD K Hh es kvs) : DpAll K Hh (es.map fun kv => kV kv.1) (kvs.map fun kv => dKey kv.1) := by
  have e1 : (es.map fun kv => kV kv.1) = (es.map (·.1)).map kV := by rw [List.map_map]; rfl
  have e2 : (kvs.map fun kv => dKey kv.1) = (kvs.map (·.1)).map dKey := by rw [List.map_map]; rfl
  rw [e1, e2, h.1]
  generalize kvs.map (·.1) = ks
  induction ks with
  | nil => exact .nil
  | cons k ks ih => exact .cons (dKey_dp k) ih
end
/-! ### what is done to the slot -/
section
variable {K : PySem.W.Frag} {T : List (Addr × Str)} {B : Bas} {M : List Addr} {δ : List SD} {σ : L2.St} {H : Hp}
/-- a new dict, in a slot -/
theorem Sta.newD (S : Sta K T B M δ σ H) {i : Nat} {p : Addr} {es : List (Key × V)} {kvs : List (Key × PyData)} (n : H p = none) (h : EntsD K (imm M H) es kvs) :
    Sta K T B M (δ.set i (.di none kvs)) (σ.set i (some (.ref p))) (upd H p (.dK es)) := by
  have sm := same_upd (o := HO.dK es) n
  have S1 := S.same sm
  have ok1 := B.fresh _ _ S.rel n
  have old : ∀ (j : Nat) (s : SD), δ[j]? = some s → s.mut = true → σ[j]? ≠ some (some (.ref p)) := fun j s hj hm e => by
    have w := S.sl j s hj
    cases s with
    | no => cases hm
    | da d => cases hm
    | pe n' =>
      obtain ⟨p2, e2, w1, w2, w3⟩ := w
      obtain ⟨c1, cells1, a1, r1, k1, _⟩ := w3.ex
      rw [e] at e2; cases e2
      rw [n] at k1; cases k1
    | ac ds' =>
      obtain ⟨l', vs', e2, w1, w2, w3, w4, w5⟩ := w
      rw [e] at e2; cases e2
      rw [n] at w3; cases w3
    | ob R => cases hm
    | di z kvs =>
      obtain ⟨p2, e2, w1, w2⟩ := w
      rw [e] at e2; cases e2
      exact w2.new n rfl
  refine ⟨S1.rel, S1.tb, S1.mu, S1.hd, by rw [List.length_set, List.length_set]; exact S.len, fun j x hx => ?_, fun j k s t ne h1 h2 m1 m2 => ?_⟩
  · rw [List.getElem?_set] at hx ⊢
    by_cases c : i = j
    · rw [if_pos c] at hx ⊢
      by_cases ll : i < δ.length
      · rw [if_pos ll] at hx
        rw [if_pos (by rw [S.len]; exact ll)]
        cases hx
        exact ⟨p, rfl, ok1, _, es, upd_same, rfl, h.1, Dp.monoAll (Fr.of sm) _ _ h.2⟩
      · rw [if_neg ll] at hx
        cases hx
    · rw [if_neg c] at hx ⊢
      exact S1.sl j x hx
  · by_cases cj : i = j
    · subst cj
      have ck : i ≠ k := ne
      rw [List.getElem?_set_ne ck] at h2
      have li : i < σ.length := by
        rw [S.len]
        have := (List.getElem?_eq_some_iff.mp h1).1
        rwa [List.length_set] at this
      rw [List.getElem?_set_ne ck, List.getElem?_set_self li]
      exact fun z => old k t h2 m2 z.symm
    · rw [List.getElem?_set_ne cj] at h1
      by_cases ck : i = k
      · subst ck
        have li : i < σ.length := by
          rw [S.len]
          have := (List.getElem?_eq_some_iff.mp h2).1
          rwa [List.length_set] at this
        rw [List.getElem?_set_ne cj, List.getElem?_set_self li]
        exact old j s h1 m1
      · rw [List.getElem?_set_ne ck] at h2
        rw [List.getElem?_set_ne cj, List.getElem?_set_ne ck]
        exact S.di j k s t ne h1 h2 m1 m2
/-- the dict at a slot becomes another one; nothing else is touched -/
theorem Sta.setD (S : Sta K T B M δ σ H) {i : Nat} {p : Addr} {z z' : Option (Addr × HO)} {kvs kvs' : List (Key × PyData)} {o : HO} {es : List (Key × V)} (hi : δ[i]? = some (.di z kvs)) (hp : σ[i]? = some (some (.ref p)))
    (hd : dicO z' p o es) (h : EntsD K (imm M H) es kvs') : Fr M H M (upd H p o) ∧ Sta K T B M (δ.set i (.di z' kvs')) σ (upd H p o) := by
  obtain ⟨p', e, ok, dd⟩ := S.sl i _ hi
  rw [hp] at e
  cases e
  obtain ⟨o0, es0, d1, d2, _⟩ := id dd
  have inv : ∀ o1, dicO z p o1 es0 → visO o1 = false := fun o1 h => by
    cases z with
    | none => rw [show o1 = _ from h]; rfl
    | some z => obtain ⟨_, e1, od, e2⟩ := h; rw [e1, e2]; rfl
  have fr : Fr M H M (upd H p o) := fun b u e => by
    obtain ⟨k1, k2, k3⟩ := of_imm e
    have ne : b ≠ p := fun z => by
      rw [z, d1] at k2
      cases k2
      rw [inv _ d2] at k3
      cases k3
    exact imm_of k1 (by rw [upd_ne ne]; exact k2) k3
  have nM : ∀ b xs, H b = some (.lst xs) → b ≠ p := fun b xs hb e => dd.lst hb e.symm
  refine ⟨fr, B.upd _ _ _ S.rel ok, ⟨fun q hq => ?_, S.tb.2⟩, fun b hb => ?_, S.hd, by rw [List.length_set]; exact S.len, fun j x hx => ?_, fun j k s t ne h1 h2 m1 m2 => ?_⟩
  · obtain ⟨ps, t1, t2, t3⟩ := S.tb.1 q hq
    have np : q.1 ≠ p := fun e => by
      rw [e, d1] at t1
      exact dicO_tbl d2 _ (Option.some.inj t1)
    refine ⟨ps, by rw [upd_ne np]; exact t1, t2, fun pos cv hc => ?_⟩
    obtain ⟨c, e1, e2⟩ := t3 pos cv hc
    refine ⟨c, e1, ?_⟩
    have nc : c ≠ p := fun e => by
      rw [e, d1] at e2
      have e2 := Option.some.inj e2
      cases z with
      | none => rw [show o0 = _ from d2] at e2; cases e2
      | some z => obtain ⟨_, e3, od, e4⟩ := d2; rw [e3, e4] at e2; cases e2
    rw [upd_ne nc]
    exact e2
  · obtain ⟨xs, e⟩ := S.mu b hb
    exact ⟨xs, by rw [upd_ne (nM b xs e)]; exact e⟩
  · rw [List.getElem?_set] at hx
    by_cases c : i = j
    · subst c
      rw [if_pos rfl] at hx
      split at hx
      · cases hx
        exact ⟨p, hp, ok, o, es, upd_same, hd, h.1, Dp.monoAll fr _ _ h.2⟩
      · cases hx
    · rw [if_neg c] at hx
      have w := S.sl j x hx
      cases x with
      | no => trivial
      | da d =>
        obtain ⟨v, e, w⟩ := w
        exact ⟨v, e, Dp.mono fr _ _ w⟩
      | pe n' =>
        obtain ⟨p2, e, w1, w2, w3⟩ := w
        obtain ⟨c1, cells1, a1, r1, k1, k2, k3⟩ := w3.ex
        exact ⟨p2, e, w1, w2, c1, cells1, a1, r1, by rw [upd_ne (nM _ _ k1)]; exact k1, by rw [upd_ne (nM _ _ k2)]; exact k2, k3⟩
      | ac ds' =>
        obtain ⟨l', vs', e, w1, w2, w3, w4, w5⟩ := w
        exact ⟨l', vs', e, w1, w2, by rw [upd_ne (nM _ _ w3)]; exact w3, Dp.monoAll fr _ _ w4, w5⟩
      | ob R =>
        obtain ⟨p2, o2, e, w1, w2⟩ := w
        exact ⟨p2, o2, e, fr _ _ w1, w2⟩
      | di z2 kvs2 =>
        obtain ⟨p2, e, w1, w2⟩ := w
        have ne : p2 ≠ p := fun q => S.di i j _ _ c hi hx rfl rfl (by rw [hp, e, q])
        exact ⟨p2, e, w1, w2.move (fun o2 h2 => by rw [upd_ne ne]; exact h2) fr⟩
  · have key : ∀ (j : Nat) (s : SD), (δ.set i (.di z' kvs'))[j]? = some s → s.mut = true → ∃ s', δ[j]? = some s' ∧ s'.mut = true := fun j s hj hm => by
      rw [List.getElem?_set] at hj
      by_cases c : i = j
      · subst c
        exact ⟨_, hi, rfl⟩
      · rw [if_neg c] at hj
        exact ⟨s, hj, hm⟩
    obtain ⟨s', a1, a2⟩ := key j s h1 m1
    obtain ⟨t', b1, b2⟩ := key k t h2 m2
    exact S.di j k s' t' ne a1 b1 a2 b2
end
end Xia

set_option Elab.async false
set_option linter.all false
set_option maxRecDepth 100000
set_option maxHeartbeats 4000000
set_option autoImplicit false
/-! Own: dicts read and written at the level of data; zip of two texts. -/
namespace Xia
open PySem PySem.Spec PyProof.Rows L2 SX LamX
section
variable {K : PySem.W.Frag} {T : List (Addr × Str)}
def aDNew (i : Nat) : AS := fun A δ => A.nx (δ.set i (.di none []))
instance (priority := 1200) simDNew {i : Nat} : SimS K T (tAsg tDNewK (gName i)) (aDNew i) := ⟨fun S h c p np => c.nx _ _ _ _ h (Fr.of (same_upd np)) (S.newD np ⟨rfl, .nil⟩)⟩
def aParD (i j : Nat) (ae : AE) : AS := fun A δ => ae δ fun d δ1 => A.nx ((δ1.set i (.da d)).set j (.di none []))
instance (priority := 1200) simParD {i j : Nat} {te : TE} {ae : AE} [h1 : SimE K T te ae] : SimS K T (tPar i j (tCons te (tCons tDNewK tNil))) (aParD i j ae) := ⟨fun S h c => h1.run S h fun v M1 H1 d δ1 g1 f1 S1 w1 p np => by
  refine ⟨_, _, rfl, ?_⟩
  exact c.nx _ _ _ _ g1 (f1.trans (Fr.of (same_upd np))) ((S1.put w1).newD np ⟨rfl, .nil⟩)⟩
/-- d[k] = v -/
def aDPut (i : Nat) (ae ak : AE) : AS := fun A δ => ae δ fun d δ1 => match δ1[i]? with
  | some (.di none _) => ak δ1 fun k δ2 => match δ2[i]?, keyD k with
    | some (.di none kvs), some kk => kvs.length < sizeLine ∧ A.nx (δ2.set i (.di none (putP kvs kk d)))
    | _, _ => False
  | _ => False
instance (priority := 1200) simDPut {i : Nat} {te tk : TE} {ae ak : AE} [h1 : SimE K T te ae] [h2 : SimE K T tk ak] : SimS K T (tAsg te (gSub (tV i) tk rSetD)) (aDPut i ae ak) := ⟨fun {B M δ σ H D A} S h c => h1.run S h fun v M1 H1 d δ1 g1 f1 S1 w1 => by
  split at g1
  · rename_i kvs0 e0
    obtain ⟨p, e2, _⟩ := S1.sl _ _ e0
    show tV i σ H1 fun o H2 => tk σ H2 fun x H3 => rSetD o x v H3 fun H4 => D.nx σ H4
    unfold tV
    rw [e2]
    refine h2.run S1 g1 fun x M2 H2 k δ2 g2 f2 S2 w2 => ?_
    split at g2
    · rename_i kvs kk e3 e4
      obtain ⟨p', e5, ok, o, es, h1, h0, he⟩ := S2.sl _ _ e3
      rw [e2] at e5
      cases e5
      have h0 : o = .dK es := h0
      subst h0
      have en : EntsD K (imm M2 H2) es kvs := he
      have ek := keyD_v w2 e4
      subst ek
      obtain ⟨fr, S3⟩ := S2.setD (z' := none) (kvs' := putP kvs kk d) e3 e2 rfl (ents_put (k := kk) en (Dp.mono f2 _ _ w1))
      exact ⟨p, _, rfl, .inl ⟨es, kk, h1, rfl, by rw [en.len]; exact g2.1, rfl⟩, c.nx _ _ _ _ g2.2 ((f1.trans f2).trans fr) S3⟩
    · exact g2.elim
  · exact g1.elim⟩
theorem dicO_rd {z : Option (Addr × HO)} {p : Addr} {o : HO} {es : List (Key × V)} {H : Hp} (h : H p = some o) (d : dicO z p o es) : Rd H p (.dK es) := by
  cases z with
  | none => exact .inl (h.trans (by rw [show o = _ from d]))
  | some z =>
    obtain ⟨_, e, od, e2⟩ := d
    exact .inr ⟨od, by rw [h, e, e2]⟩
/-- d[k] -/
def aDGet (i : Nat) (ak : AE) : AE := fun δ G => match δ[i]? with
  | some (.di _ _) => ak δ fun k δ1 => match δ1[i]?, keyD k with
    | some (.di _ kvs), some kk => ∃ v, getP kvs kk = some v ∧ G v δ1
    | _, _ => False
  | _ => False
instance simDGet {i : Nat} {tk : TE} {ak : AE} [h2 : SimE K T tk ak] : SimE K T (tDGet (tV i) tk) (aDGet i ak) := ⟨fun {B M δ σ H Q G} S h q => by
  unfold aDGet at h
  split at h
  · rename_i z0 kvs0 e0
    obtain ⟨p, e2, _⟩ := S.sl _ _ e0
    show tV i σ H fun x H1 => tk σ H1 fun y H2 => ∃ a v, x = .ref a ∧ DGet H2 a y (some v) ∧ Q v H2
    unfold tV
    rw [e2]
    refine h2.run S h fun x M2 H2 k δ2 g2 f2 S2 w2 => ?_
    split at g2
    · rename_i z kvs kk e3 e4
      obtain ⟨p', e5, ok, o, es, h1, h0, he⟩ := S2.sl _ _ e3
      rw [e2] at e5
      cases e5
      have en : EntsD K (imm M2 H2) es kvs := he
      have ek := keyD_v w2 e4
      subst ek
      obtain ⟨d, gd, g3⟩ := g2
      obtain ⟨v, hv, w⟩ := ents_some en gd
      exact ⟨p, v, rfl, .inl ⟨es, kk, dicO_rd h1 h0, rfl, hv.symm⟩, q _ _ _ _ _ g3 f2 S2 w⟩
    · exact g2.elim
  · exact h.elim⟩
/-- d.get(k, x) -/
def aDGet2 (i : Nat) (ak ax : AE) : AE := fun δ G => match δ[i]? with
  | some (.di _ _) => ak δ fun k δ1 => ax δ1 fun x δ2 => match δ2[i]?, keyD k with
    | some (.di _ kvs), some kk => G ((getP kvs kk).getD x) δ2
    | _, _ => False
  | _ => False
instance simDGet2 {i : Nat} {tk tx : TE} {ak ax : AE} [h2 : SimE K T tk ak] [h3 : SimE K T tx ax] : SimE K T (tDGet2 (tV i) tk tx) (aDGet2 i ak ax) := ⟨fun {B M δ σ H Q G} S h q => by
  unfold aDGet2 at h
  split at h
  · rename_i z0 kvs0 e0
    obtain ⟨p, e2, ok0, o0, es0, h10, h00, _⟩ := S.sl _ _ e0
    show tV i σ H fun x H1 => ∃ a, x = .ref a ∧ IsD H1 a ∧ tk σ H1 fun y H2 => tx σ H2 fun z H3 => ∃ o, DGet H3 a y o ∧ Q (o.getD z) H3
    unfold tV
    rw [e2]
    refine ⟨p, rfl, .inl ⟨es0, dicO_rd h10 h00⟩, ?_⟩
    refine h2.run S h fun x M2 H2 k δ2 g2 f2 S2 w2 => h3.run S2 g2 fun y M3 H3 d δ3 g3 f3 S3 w3 => ?_
    split at g3
    · rename_i z kvs kk e3 e4
      obtain ⟨p', e5, ok, o, es, h1, h0, he⟩ := S3.sl _ _ e3
      rw [e2] at e5
      cases e5
      have en : EntsD K (imm M3 H3) es kvs := he
      have ek := keyD_v w2 e4
      subst ek
      refine ⟨valV es kk, .inl ⟨es, kk, dicO_rd h1 h0, rfl, rfl⟩, ?_⟩
      cases hv : valV es kk with
      | none =>
        rw [(ents_get en).2 hv] at g3
        exact q _ _ _ _ _ g3 (f2.trans f3) S3 w3
      | some v =>
        obtain ⟨d', gd, w⟩ := (ents_get en).1 v hv
        rw [gd] at g3
        exact q _ _ _ _ _ g3 (f2.trans f3) S3 w
    · exact g3.elim
  · exact h.elim⟩
/-- k in d, k not in d -/
def aDIn (n : Bool) (ak : AE) (i : Nat) : AE := fun δ G => ak δ fun k δ1 => match δ1[i]?, keyD k with
  | some (.di _ kvs), some kk => G (.bool (n != (getP kvs kk).isSome)) δ1
  | _, _ => False
theorem ents_is {K : PySem.W.Frag} {Hh : Hp} {k : Key} {es : List (Key × V)} {kvs : List (Key × PyData)} (h : EntsD K Hh es kvs) : (valV es k).isSome = (getP kvs k).isSome := by
  cases hv : valV es k with
  | none => rw [(ents_get h).2 hv]; rfl
  | some v =>
    obtain ⟨d', gd, w⟩ := (ents_get h).1 v hv
    rw [gd]
    rfl
instance simDIn {i : Nat} {tk : TE} {ak : AE} [h2 : SimE K T tk ak] : SimE K T (tDIn tk (tV i)) (aDIn false ak i) := ⟨fun {B M δ σ H Q G} S h q => h2.run S h fun x M2 H2 k δ2 g2 f2 S2 w2 => by
  split at g2
  · rename_i z kvs kk e3 e4
    obtain ⟨p, e5, ok, o, es, h1, h0, he⟩ := S2.sl _ _ e3
    have en : EntsD K (imm M2 H2) es kvs := he
    have ek := keyD_v w2 e4
    subst ek
    show tV i σ H2 fun x H3 => ∃ a o, x = V.ref a ∧ DGet H3 a (kV kk) o ∧ Q (.bl o.isSome) H3
    unfold tV
    rw [e5]
    refine ⟨p, _, rfl, .inl ⟨es, kk, dicO_rd h1 h0, rfl, rfl⟩, ?_⟩
    rw [ents_is en]
    refine q _ _ _ _ _ g2 f2 S2 ?_
    rw [show (false != (getP kvs kk).isSome) = (getP kvs kk).isSome by cases (getP kvs kk).isSome <;> rfl]
    exact .bl _
  · exact g2.elim⟩
instance simDNotIn {i : Nat} {tk : TE} {ak : AE} [h2 : SimE K T tk ak] : SimE K T (tDNotIn tk (tV i)) (aDIn true ak i) := ⟨fun {B M δ σ H Q G} S h q => h2.run S h fun x M2 H2 k δ2 g2 f2 S2 w2 => by
  split at g2
  · rename_i z kvs kk e3 e4
    obtain ⟨p, e5, ok, o, es, h1, h0, he⟩ := S2.sl _ _ e3
    have en : EntsD K (imm M2 H2) es kvs := he
    have ek := keyD_v w2 e4
    subst ek
    show tV i σ H2 fun x H3 => ∃ a o, x = V.ref a ∧ DGet H3 a (kV kk) o ∧ Q (.bl (!o.isSome)) H3
    unfold tV
    rw [e5]
    refine ⟨p, _, rfl, .inl ⟨es, kk, dicO_rd h1 h0, rfl, rfl⟩, ?_⟩
    rw [ents_is en]
    refine q _ _ _ _ _ g2 f2 S2 ?_
    rw [show (true != (getP kvs kk).isSome) = (!(getP kvs kk).isSome) by cases (getP kvs kk).isSome <;> rfl]
    exact .bl _
  · exact g2.elim⟩
instance simTB {te : TE} {ae : AE} [h1 : SimE K T te ae] : SimT K T (tB te) (aTest ae) := ⟨fun S h q => h1.run S h fun v M1 H1 d δ1 g1 f1 S1 w1 => by
  split at g1
  · cases w1
    exact ⟨_, rfl, q _ _ _ _ g1 f1 S1⟩
  · exact g1.elim⟩
/-- len(d) -/
def mLenD : List V → Hp → VK → Prop := fun xs H Q => ∃ a kvs, xs = [V.ref a] ∧ H a = some (HO.dK kvs) ∧ Q (V.int kvs.length) H
def aDLen (i : Nat) : AE := fun δ G => match δ[i]? with
  | some (.di none kvs) => G (.int kvs.length) δ
  | _ => False
instance simDLen {i : Nat} : SimE K T (tCB mLenD (tCons (tV i) tNil)) (aDLen i) := ⟨fun {B M δ σ H Q G} S h q => by
  unfold aDLen at h
  split at h
  · rename_i kvs e0
    obtain ⟨p, e2, ok, o, es, h1, h0, he⟩ := S.sl _ _ e0
    have h0 : o = .dK es := h0
    subst h0
    have en : EntsD K (imm M H) es kvs := he
    show tV i σ H fun x H1 => mLenD [x] H1 Q
    unfold tV
    rw [e2]
    refine ⟨p, es, rfl, h1, ?_⟩
    rw [en.len]
    exact q _ _ _ _ _ h Fr.refl S (.int _)
  · exact h.elim⟩
/-- list(d) -/
def mListD : List V → Hp → VK → Prop := fun xs H Q => ∃ (a : Addr) (kvs : List (Key × V)), xs = [V.ref a] ∧ Rd H a (HO.dK kvs) ∧ ∀ (p : Addr), H p = none → Q (V.ref p) (upd H p (HO.lst (List.map (fun kv => kV kv.fst) kvs)))
def alDKeys (i : Nat) : AA := fun δ G => match δ[i]? with
  | some (.di _ kvs) => G (kvs.map fun kv => dKey kv.1) δ
  | _ => False
instance simDKeys {i : Nat} : SimL K T (tCB mListD (tCons (tV i) tNil)) (alDKeys i) := ⟨fun {B M δ σ H Q G} S h q => by
  unfold alDKeys at h
  split at h
  · rename_i z kvs e0
    obtain ⟨p, e2, ok, o, es, h1, h0, he⟩ := S.sl _ _ e0
    have en : EntsD K (imm M H) es kvs := he
    show tV i σ H fun x H1 => mListD [x] H1 Q
    unfold tV
    rw [e2]
    refine ⟨p, es, rfl, dicO_rd h1 h0, fun l nl => ?_⟩
    obtain ⟨ok, nB, fr, S2⟩ := S.enter (es.map fun kv => kV kv.1) nl
    exact q _ _ _ _ _ _ h fr S2 (Dp.monoAll fr _ _ (ents_keys en)) ok nB
  · exact h.elim⟩
/-- for k in d -/
def aForD (i : Nat) (ag : AG) (ab : AS) : AS := fun A δ => match δ[i]? with
  | some (.di none kvs) => ∀ (a : Addr) (o : HO), ∃ I : Nat → List SD → Prop, I 0 (δ.set i (.di (some (a, o)) kvs)) ∧ (∀ j δ', I j δ' → δ'[i]? = some (.di (some (a, o)) kvs)) ∧
      (∀ (j : Nat) (x : PyData) (δ' : List SD), (kvs.map fun kv => dKey kv.1)[j]? = some x → I j δ' → ag x δ' fun δ2 => ab ⟨I (j + 1), fun d δ3 => δ3[i]? = some (.di (some (a, o)) kvs) ∧ A.rt d (δ3.set i (.di none kvs)), fun δ3 => δ3[i]? = some (.di (some (a, o)) kvs) ∧ A.nx (δ3.set i (.di none kvs)), I (j + 1)⟩ δ2) ∧
      ∀ δ', I kvs.length δ' → A.nx (δ'.set i (.di none kvs))
  | _ => False
instance simForD {i : Nat} {g : TG} {tb : TS} {ag : AG} {ab : AS} [h2 : SimG K T g ag] [h3 : SimS K T tb ab] : SimS K T (tLock (tFor (iKeys (tV i)) g tb)) (aForD i ag ab) := ⟨fun {B M δ σ H D A} S h c => by
  unfold aForD at h
  split at h
  · rename_i kvs e0
    obtain ⟨p, e2, ok, o, es, h1, h0, he⟩ := S.sl _ _ e0
    have h0 : o = .dK es := h0
    subst h0
    have en : EntsD K (imm M H) es kvs := he
    refine ⟨p, _, h1, trivial, fun od => ?_⟩
    obtain ⟨I, i0, ig, is, ie⟩ := h p (.frz od (.dK es))
    obtain ⟨f1, S1⟩ := S.setD (z' := some (p, .frz od (.dK es))) (kvs' := kvs) e0 e2 ⟨rfl, rfl, od, rfl⟩ en
    generalize upd H p (.frz od (.dK es)) = H1 at f1 S1
    have at_ : ∀ {M' : List Addr} {δ' : List SD} {σ' : L2.St} {H' : Hp}, Sta K T B M' δ' σ' H' → δ'[i]? = some (.di (some (p, .frz od (.dK es))) kvs) → H' p = some (.frz od (.dK es)) ∧ σ'[i]? = some (some (.ref p)) := fun S' e => by
      obtain ⟨p', k1, _, o', es', k2, k3, _⟩ := S'.sl _ _ e
      obtain ⟨k4, k5, _⟩ := k3
      subst k4 k5
      exact ⟨k2, k1⟩
    have out : ∀ {M' : List Addr} {δ' : List SD} {σ' : L2.St} {H' : Hp}, Sta K T B M' δ' σ' H' → δ'[i]? = some (.di (some (p, .frz od (.dK es))) kvs) → Fr M' H' M' (upd H' p (.dK es)) ∧ Sta K T B M' (δ'.set i (.di none kvs)) σ' (upd H' p (.dK es)) := fun S' e => by
      obtain ⟨p', k1, _, o', es', k2, k3, k6⟩ := S'.sl _ _ e
      obtain ⟨k4, k5, od', k7⟩ := k3
      cases k7
      subst k4
      exact S'.setD (z' := none) (kvs' := kvs) e k1 rfl k6
    have e1 : tV i σ H1 = fun Q => Q (.ref p) H1 := by
      funext Q
      unfold tV
      rw [e2]
    show tV i σ H1 fun x H2 => _
    rw [e1]
    refine ⟨p, od, rfl, .inl ⟨es, (at_ S1 (by rw [List.getElem?_set_self (by exact (List.getElem?_eq_some_iff.mp e0).1)])).1, ?_⟩⟩
    refine for_it walk_keys (fun j σ' H' => ∃ M' δ', I j δ' ∧ Fr M H M' H' ∧ Sta K T B M' δ' σ' H') ⟨M, _, i0, f1, S1⟩ ?_ ?_ ?_
    · rintro j σ' H' _ ⟨M', δ', ij, f', S'⟩
      exact (at_ S' (ig j δ' ij)).1
    · rintro j x σ' H2 H3 hj ⟨M', δ', ij, f', S'⟩ ⟨rfl, k, v, hkv, rfl⟩
      have hx : (kvs.map fun kv => dKey kv.1)[j]? = some (dKey k) := by
        have ek : (es.map (·.1))[j]? = some k := by rw [List.getElem?_map, hkv]; rfl
        rw [en.1, List.getElem?_map] at ek
        obtain ⟨kv, h5, h6⟩ := Option.map_eq_some_iff.mp ek
        rw [List.getElem?_map, h5]
        show some (dKey kv.1) = _
        rw [h6]
      refine h2.run S' (dKey_dp k) (is j _ δ' hx ij) fun σ2 δ2 g2 S2 => ?_
      refine h3.run S2 g2 ⟨fun M4 δ4 σ4 H4 a f4 S4 => ⟨M4, δ4, a, f'.trans f4, S4⟩, fun v d' M4 δ4 σ4 H4 a f4 S4 w4 => ?_, fun M4 δ4 σ4 H4 a f4 S4 => ?_, fun M4 δ4 σ4 H4 a f4 S4 => ⟨M4, δ4, a, f'.trans f4, S4⟩⟩
      · obtain ⟨f5, S5⟩ := out S4 a.1
        exact ⟨(at_ S4 a.1).1, c.rt _ _ _ _ _ _ a.2 ((f'.trans f4).trans f5) S5 (Dp.mono f5 _ _ w4)⟩
      · obtain ⟨f5, S5⟩ := out S4 a.1
        exact ⟨(at_ S4 a.1).1, c.nx _ _ _ _ a.2 ((f'.trans f4).trans f5) S5⟩
    · rintro σ' H' ⟨M', δ', ij, f', S'⟩
      rw [en.len] at ij
      obtain ⟨f5, S5⟩ := out S' (ig _ δ' ij)
      exact ⟨(at_ S' (ig _ δ' ij)).1, c.nx _ _ _ _ (ie δ' ij) (f'.trans f5) S5⟩
  · exact h.elim⟩
/-- zip of two texts -/
def zipD (x y : Str) : List PyData := (x.cps.toList.zip y.cps.toList).map fun cd => .tuple [.str ⟨#[cd.1]⟩, .str ⟨#[cd.2]⟩]
def aZips (aa : AA) : AI := fun δ G => aa δ fun ds δ1 => match ds with
  | [.str x, .str y] => G (zipD x y) δ1
  | _ => False
instance simZips {ta : TA} {aa : AA} [h1 : SimA K T ta aa] : SimI K T (iZips ta) (aZips aa) := ⟨fun S h q => h1.run S h fun vs M1 H1 ds δ1 g1 f1 S1 w1 => by
  split at g1
  · rename_i x y
    cases w1 with
    | cons a b =>
      cases a
      cases b with
      | cons b1 b2 =>
        cases b1
        cases b2
        refine q _ _ _ _ _ g1 f1 S1 (walk_mono (walk_zips x y) ?_ (fun _ _ => trivial) ?_)
        · unfold zipD
          rw [List.length_map, List.length_zip, Array.length_toList, Array.length_toList]
        · rintro i H2 v H3 hi _ ⟨t, c, d, rfl, n, rfl, hc, hd⟩
          refine ⟨same_upd n, .tuple [.str ⟨#[c]⟩, .str ⟨#[d]⟩], ?_, fun M2 m2 f2 => .tup (.inl (.inl (new_imm m2 n rfl))) (.cons (.str _) (.cons (.str _) .nil))⟩
          unfold zipD
          have hc' : x.cps.toList[i]? = some c := by rw [Array.getElem?_toList]; exact hc
          have hd' : y.cps.toList[i]? = some d := by rw [Array.getElem?_toList]; exact hd
          rw [List.getElem?_map, show (x.cps.toList.zip y.cps.toList)[i]? = some (c, d) from List.getElem?_zip_eq_some.mpr ⟨hc', hd'⟩]
          rfl
  · exact g1.elim⟩
end
end Xia

set_option Elab.async false
set_option linter.all false
set_option maxRecDepth 100000
set_option maxHeartbeats 4000000
set_option autoImplicit false
/-! Own: rest_word, least_word, shows_least of treads. -/
namespace Xia
open PySem PySem.Spec PyProof.Rows L2 SX LamX
def spRestW (K : PySem.W.Frag) : Sp := Sp2 fun x y H Q E => ∃ (u : List Nat) (t : Addr) (zs : List Str) (e : List Nat), x = .str (S u) ∧ y = .ref t ∧ IsL u ∧ u.length ≤ 200 ∧ Trd zs e ∧ TreadAt K H t zs (S e) ∧ ∀ H', Same H H' → Q (restV u zs e) H'
section
variable {K : PySem.W.Frag}
def dRestW : List PyData → (PyData → Prop) → Prop := fun ds G => ∃ u zs e, ds = [.str (S u), treadD zs (S e)] ∧ IsL u ∧ u.length ≤ 200 ∧ Trd zs e ∧ G (restD u zs e)
instance fnRestW : FnD K (spRestW K) dRestW := ⟨fun {M H vs ds Q E G} m h g q => by
  obtain ⟨u, zs, e, rfl, h1, h2, h3, g⟩ := g
  obtain ⟨x, y, rfl, w1, w2⟩ := dp2 h
  cases w1
  obtain ⟨t, rfl, ht⟩ := dp_trd w2
  exact ⟨u, t, zs, e, rfl, rfl, h1, h2, h3, ht, fun H' s => q _ _ _ g s (rest_dp u zs e)⟩⟩
end
/-! ### what two places have in common -/
theorem lcp_take : ∀ (p g : List Nat) (k : Nat), k ≤ lcp p g → p.take k = g.take k
  | _, _, 0, _ => rfl
  | [], g, k + 1, h => absurd h (by cases g <;> (unfold lcp; omega))
  | a :: p, [], k + 1, h => absurd h (by unfold lcp; omega)
  | a :: p, b :: g, k + 1, h => by
    unfold lcp at h
    split at h
    · rename_i e
      rw [List.take_succ_cons, List.take_succ_cons, e, lcp_take p g k (by omega)]
    · omega
theorem lcp_ge : ∀ {y p g : List Nat}, y <+: p → y <+: g → y.length ≤ lcp p g
  | [], _, _, _, _ => Nat.zero_le _
  | c :: y, [], _, h, _ => absurd h.length_le (by simp)
  | c :: y, a :: p, [], _, h => absurd h.length_le (by simp)
  | c :: y, a :: p, b :: g, h1, h2 => by
    obtain ⟨e1, h1⟩ := List.cons_prefix_cons.mp h1
    obtain ⟨e2, h2⟩ := List.cons_prefix_cons.mp h2
    have := lcp_ge h1 h2
    unfold lcp
    rw [if_pos (e1.symm.trans e2), List.length_cons]
    omega
/-- the edges of the way from p to g -/
theorem sep_iff {p g y : List Nat} : pr y g ≠ pr y p ↔ (∃ k, lcp p g < k ∧ k ≤ g.length ∧ y = g.take k) ∨ ∃ k, lcp p g < k ∧ k ≤ p.length ∧ y = p.take k := by
  constructor
  · intro h
    by_cases h1 : pr y g = true
    · have h2 : ¬ y <+: p := fun z => h (h1.trans (pr_iff.mpr z).symm)
      have k1 := pr_iff.mp h1
      refine .inl ⟨y.length, ?_, k1.length_le, List.prefix_iff_eq_take.mp k1⟩
      apply Nat.lt_of_not_le
      intro le
      apply h2
      rw [List.prefix_iff_eq_take.mp k1, ← lcp_take p g _ le]
      exact List.take_prefix _ _
    · have h2 : pr y p = true := by
        cases h3 : pr y p with
        | true => rfl
        | false => exact absurd ((Bool.eq_false_iff.mpr h1).trans h3.symm) h
      have k1 := pr_iff.mp h2
      refine .inr ⟨y.length, ?_, k1.length_le, List.prefix_iff_eq_take.mp k1⟩
      apply Nat.lt_of_not_le
      intro le
      apply h1
      rw [List.prefix_iff_eq_take.mp k1, lcp_take p g _ le]
      exact pr_iff.mpr (List.take_prefix _ _)
  · rintro (⟨k, h1, h2, rfl⟩ | ⟨k, h1, h2, rfl⟩)
    · intro z
      have a := pr_iff.mpr (List.take_prefix k g)
      rw [a] at z
      have := lcp_ge (pr_iff.mp z.symm) (List.take_prefix k g)
      rw [List.length_take] at this
      omega
    · intro z
      have a := pr_iff.mpr (List.take_prefix k p)
      rw [a] at z
      have := lcp_ge (List.take_prefix k p) (pr_iff.mp z)
      rw [List.length_take] at this
      omega
theorem lcp_is {p g : List Nat} {j : Nat} (h : p.take j = g.take j) (h1 : j ≤ p.length) (h2 : j ≤ g.length) (h3 : ∀ a b, p[j]? = some a → g[j]? = some b → a ≠ b) : lcp p g = j := by
  have ge : j ≤ lcp p g := by
    have := lcp_ge (y := p.take j) (List.take_prefix _ _) (by rw [h]; exact List.take_prefix _ _)
    rw [List.length_take] at this
    omega
  have l1 := lcp_l p g
  have l2 := lcp_r p g
  apply Nat.le_antisymm _ ge
  apply Nat.le_of_not_lt
  intro lt
  have e := lcp_take p g (j + 1) lt
  have e2 := congrArg (fun l : List Nat => l[j]?) e
  simp only [List.getElem?_take_of_lt (Nat.lt_succ_self j)] at e2
  have hp : j < p.length := by omega
  have hg : j < g.length := by omega
  rw [List.getElem?_eq_getElem hp, List.getElem?_eq_getElem hg] at e2
  exact h3 _ _ (List.getElem?_eq_getElem hp) (List.getElem?_eq_getElem hg) (Option.some.inj e2)
/-- the way to the end has so many edges -/
theorem cnt_dst {ws : List (List Nat)} (A : Amb ws) {e : List Nat} (he : e ∈ ws) : ∀ (n : Nat) (p : List Nat), dst p e = n → p ∈ ws → ws.countP (farB [e] p) = n := by
  intro n
  induction n with
  | zero =>
    intro p hn hp
    have pe : p = e := by
      apply Classical.byContradiction
      intro ne
      obtain ⟨c, hc, k⟩ := tow_some (A.w1 p hp).1 (A.w1 e he).1 ne
      have := dst_tow (A.w1 p hp).1 (A.w1 e he).2 hc k
      omega
    refine List.countP_eq_zero.mpr fun y _ z => ?_
    obtain ⟨g, hg, k⟩ := far_iff.mp z
    exact k (by rw [List.mem_singleton.mp hg, pe])
  | succ n ih =>
    intro p hn hp
    have ne : p ≠ e := fun z => by
      rw [z] at hn
      unfold dst at hn
      rw [lcp_pre (List.prefix_refl e)] at hn
      omega
    obtain ⟨c, hc, k⟩ := tow_some (A.w1 p hp).1 (A.w1 e he).1 ne
    have dt := dst_tow (A.w1 p hp).1 (A.w1 e he).2 hc k
    have far := (tow_sep (A.w1 p hp).1 (A.w1 e he).2 hc).mp k
    have hs : stp p c ∈ ws := A.onw hp he (onw_step far)
    have h2 := ih (stp p c) (by omega) hs
    have offE : ∀ y, y ≠ edg p c → farB [e] (stp p c) y = farB [e] p y := fun y ne => by
      unfold farB
      rw [pr_ne ne]
    have c2 := cnt_off A.nd (A.edg hp hs) offE
    have f1 : farB [e] p (edg p c) = true := far_iff.mpr ⟨e, List.mem_singleton.mpr rfl, far⟩
    have f2 : ¬ farB [e] (stp p c) (edg p c) = true := fun z => by
      obtain ⟨g, hg, k2⟩ := far_iff.mp z
      rw [List.mem_singleton.mp hg, pr_eq] at k2
      revert k2 far
      cases pr (edg p c) e <;> cases pr (edg p c) p <;> decide
    rw [if_pos f1, if_neg f2] at c2
    omega
/-! ### a dict of True by places, told as data -/
def keysP (ks : List (List Nat)) : List (Key × PyData) := ks.map fun x => (.inr (S x), .bool true)
theorem keysP_len (ks : List (List Nat)) : (keysP ks).length = ks.length := List.length_map ..
theorem keysP_any {x : List Nat} {ks : List (List Nat)} : ((keysP ks).any fun p => decide (p.1 = .inr (S x))) = decide (x ∈ ks) := by
  unfold keysP
  rw [List.any_map, Bool.eq_iff_iff, List.any_eq_true, decide_eq_true_eq]
  constructor
  · rintro ⟨y, hy, k⟩
    have k : decide ((Sum.inr (S y) : Key) = .inr (S x)) = true := k
    rw [← S_inj (Sum.inr.inj (of_decide_eq_true k))]
    exact hy
  · intro h
    exact ⟨x, h, by show decide ((Sum.inr (S x) : Key) = .inr (S x)) = true; exact decide_eq_true rfl⟩
def addL (ks : List (List Nat)) (x : List Nat) : List (List Nat) := if x ∈ ks then ks else ks ++ [x]
theorem mem_addL {ks : List (List Nat)} {x y : List Nat} : y ∈ addL ks x ↔ y ∈ ks ∨ y = x := by
  unfold addL
  split
  · rename_i h
    exact ⟨.inl, fun k => k.elim id fun e => e ▸ h⟩
  · rw [List.mem_append, List.mem_singleton]
theorem nd_addL {ks : List (List Nat)} {x : List Nat} (h : ks.Nodup) : (addL ks x).Nodup := by
  unfold addL
  split
  · exact h
  · rename_i n
    exact nd_snoc h n
theorem keysP_put {ks : List (List Nat)} {x : List Nat} : putP (keysP ks) (.inr (S x)) (.bool true) = keysP (addL ks x) := by
  unfold putP addL
  rw [keysP_any]
  by_cases h : x ∈ ks
  · rw [if_pos (decide_eq_true h), if_pos h]
    unfold keysP
    rw [List.map_map]
    refine List.map_congr_left fun y _ => ?_
    show (if (Sum.inr (S y) : Key) = .inr (S x) then ((Sum.inr (S y) : Key), PyData.bool true) else (Sum.inr (S y), PyData.bool true)) = _
    split <;> rfl
  · rw [if_neg (by rw [decide_eq_false h]; decide), if_neg h]
    unfold keysP
    rw [List.map_append]
    rfl
end Xia

set_option Elab.async false
set_option linter.all false
set_option maxRecDepth 100000
set_option maxHeartbeats 4000000
set_option autoImplicit false
/-! Own: isinstance, texts in order, flat values in a row, at the level of data. -/
namespace Xia
open PySem PySem.Spec PyProof.Rows L2 SX LamX
def tyN : PyData → String
  | .none => "NoneType"
  | .bool _ => "bool"
  | .int _ => "int"
  | .str _ => "str"
  | .list _ => "list"
  | .tuple _ => "tuple"
  | .dict _ => "dict"
theorem sqL_ty {K : PySem.W.Frag} {H : Hp} {t : Addr} {xs : List V} (h : SqL K H t xs) : TyX K H (.ref t) (.type "list") := by
  rcases h with (h | ⟨o, h⟩) | ⟨o, its, n, h1, h2, _⟩
  · exact .base (.lst h)
  · exact .base (.frz h)
  · exact .kList h1 h2
theorem dp_ty {K : PySem.W.Frag} {H : Hp} {v : V} {d : PyData} (h : Dp K H v d) : TyX K H v (.type (tyN d)) := by
  cases h with
  | non => exact .base .non
  | bl b => exact .base (.bl b)
  | int i => exact .base (.int i)
  | str z => exact .base (.str z)
  | lst a b => exact sqL_ty a
  | tup a b => exact sqT_ty a
def aIs (n : String) (ae : AE) : AE := fun δ G => ae δ fun d δ1 => ∃ b, kitB (tyN d) n = some b ∧ G (.bool b) δ1
def mLtS : R2 := fun x y H Q => match x, y with | .str i, .str j => Q (.bl (decide (i.cps.toList < j.cps.toList))) H | _, _ => False
theorem oLtS {X : Cx} : OpR X (compareOp .Lt) mLtS := by
  intro pins s σ H x y v u Q I rx ry h
  unfold mLtS at h
  split at h
  · exact op_lt_str pins s σ H _ _ v u Q I rx ry ⟨_, _, rfl, rfl, h⟩
  · exact h.elim
theorem oInF {X : Cx} {K : PySem.W.Frag} (hK : X.K = K := by rfl) : OpR X (compareOp .In) (rIn K false) := by
  subst hK
  exact op_in_seq
theorem oNotInF {X : Cx} {K : PySem.W.Frag} (hK : X.K = K := by rfl) : OpR X (compareOp .NotIn) (rIn K true) := by
  subst hK
  exact op_notIn_seq
section
variable {K : PySem.W.Frag} {T : List (Addr × Str)}
instance simIs {te : TE} {ae : AE} {n : String} [h1 : SimE K T te ae] : SimE K T (tCB (rIs K) (tCons te (tCons (tC (.ty n)) tNil))) (aIs n ae) := ⟨fun S h q => h1.run S h fun v M1 H1 d δ1 g1 f1 S1 w1 => by
  obtain ⟨b, hb, g⟩ := g1
  exact .inl ⟨v, .ty n, .type (tyN d), .type n, b, rfl, .ty n, dp_ty (Dp.mono (imm_sub _ _) _ _ w1), kit_ty hb, q _ _ _ _ _ g f1 S1 (.bl b)⟩⟩
def dLtS : PyData → PyData → (PyData → Prop) → Prop := fun d e G => match d, e with
  | .str i, .str j => G (.bool (decide (i.cps.toList < j.cps.toList)))
  | _, _ => False
instance opdLtS : OpD K mLtS dLtS := ⟨fun {M H x y d e Q G} m hx hy h q => by
  unfold dLtS at h
  split at h
  · cases hx; cases hy; exact q _ _ _ h (.refl _) (.bl _)
  · exact h.elim⟩
/-- values without parts -/
def flatD : PyData → Bool
  | .none => true
  | .bool _ => true
  | .int _ => true
  | .str _ => true
  | _ => false
def eqD : PyData → PyData → Bool
  | .none, .none => true
  | .bool a, .bool b => a == b
  | .bool a, .int b => (if a then 1 else 0) == b
  | .int a, .bool b => a == (if b then 1 else 0)
  | .int a, .int b => a == b
  | .str a, .str b => a == b
  | _, _ => false
theorem flat_dp {H : Hp} {v : V} {d : PyData} (h : Dp K H v d) (f : flatD d = true) : flatV v = true := by
  cases h <;> first | rfl | cases f
theorem eq_dp {H : Hp} {v u : V} {d e : PyData} (h : Dp K H v d) (g : Dp K H u e) (f1 : flatD d = true) (f2 : flatD e = true) : eqV v u = eqD d e := by
  cases h <;> cases g <;> first | rfl | cases f1 | cases f2
theorem flat_all {H : Hp} : ∀ {vs : List V} {ds : List PyData}, DpAll K H vs ds → ds.all flatD = true → vs.all flatV = true
  | _, _, .nil, _ => rfl
  | _, _, .cons a b, h => by
    rw [List.all_cons, Bool.and_eq_true] at h ⊢
    exact ⟨flat_dp a h.1, flat_all b h.2⟩
theorem in_dp {H : Hp} {v : V} {d : PyData} (w : Dp K H v d) (f : flatD d = true) : ∀ {vs : List V} {ds : List PyData}, DpAll K H vs ds → ds.all flatD = true → inV v vs = ds.any fun y => eqD y d
  | _, _, .nil, _ => rfl
  | _, _, .cons a b, h => by
    rw [List.all_cons, Bool.and_eq_true] at h
    unfold inV
    rw [List.any_cons, List.any_cons, eq_dp a w h.1 f, ← in_dp w f b h.2]
    rfl
def dInF (n : Bool) : PyData → PyData → (PyData → Prop) → Prop := fun d e G => ∃ es, (e = .list es ∨ e = .tuple es) ∧ flatD d = true ∧ es.all flatD = true ∧ G (.bool (n != es.any fun y => eqD y d))
instance opdInF (n : Bool) : OpD K (rIn K n) (dInF n) := ⟨fun {M H x y d e Q G} m hx hy h q => by
  obtain ⟨es, he, f1, f2, g⟩ := h
  have fin : ∀ p xs, (SqL K H p xs ∨ SqT K H p xs) → DpAll K (imm M H) xs es → y = .ref p → rIn K n x y H Q := fun p xs hs w e => by
    refine ⟨p, xs, e, hs, flat_dp hx f1, flat_all w f2, ?_⟩
    rw [in_dp hx f1 w f2]
    refine q _ _ _ g (.refl _) ?_
    cases n with
    | false => rw [if_neg (by decide), Bool.false_bne]; exact .bl _
    | true => rw [if_pos rfl, Bool.true_bne]; exact .bl _
  rcases he with rfl | rfl
  · cases hy with
    | lst a b => exact fin _ _ (.inl (sqL_same (imm_sub _ _) a)) b rfl
  · cases hy with
    | tup a b => exact fin _ _ (.inr (sqT_same (imm_sub _ _) a)) b rfl⟩
/-- a, b = x, [..]: the list may grow -/
def tParL (i j : Nat) (te tl : TE) : TS := tPar i j (tCons te (tCons tl tNil))
theorem psParL {X : Cx} {st : Stmt} {i j : Nat} {te tl : TE} (h : PS X st (tPar i j (tCons te (tCons tl tNil)))) : PS X st (tParL i j te tl) := h
def aParL (i j : Nat) (ae : AE) (al : AA) : AS := fun A δ => ae δ fun d δ1 => al δ1 fun ds δ2 => A.nx ((δ2.set i (.da d)).set j (.da (.list ds))) ∨ A.nx ((δ2.set i (.da d)).set j (.ac ds))
instance simParL {i j : Nat} {te tl : TE} {ae : AE} {al : AA} [h1 : SimE K T te ae] [h2 : SimL K T tl al] : SimS K T (tParL i j te tl) (aParL i j ae al) := ⟨fun {B M δ σ H D A} S h c =>
  h1.run S h fun v M1 H1 d δ1 g1 f1 S1 w1 => h2.run S1 g1 fun l vs M2 H2 ds δ2 g2 f2 S2 w2 ok nB => by
    refine ⟨_, _, rfl, ?_⟩
    rcases g2 with g | g
    · obtain ⟨fr, dl, SL⟩ := S2.leave w2 nB
      exact c.nx _ _ _ _ g ((f1.trans f2).trans fr) ((SL.put (Dp.mono (f2.trans fr) _ _ w1)).put dl)
    · exact c.nx _ _ _ _ g (f1.trans f2) ((S2.put (Dp.mono f2 _ _ w1)).toAc w2 ok nB j)⟩
end
theorem bools_flat (bs : List Bool) : (bs.map PyData.bool).all flatD = true := by
  rw [List.all_map]
  exact List.all_eq_true.mpr fun _ _ => rfl
theorem bools_in (b : Bool) (bs : List Bool) : ((bs.map PyData.bool).any fun y => eqD y (.bool b)) = decide (b ∈ bs) := by
  rw [List.any_map, Bool.eq_iff_iff, List.any_eq_true, decide_eq_true_eq]
  constructor
  · rintro ⟨c, hc, e⟩
    have e : (c == b) = true := e
    rw [← beq_iff_eq.mp e]
    exact hc
  · intro h
    exact ⟨b, h, beq_self_eq_true b⟩
theorem lt_signs (c d : Nat) : decide ((S [c]).cps.toList < (S [d]).cps.toList) = decide (c < d) := by
  show decide ([c] < [d]) = _
  refine decide_eq_decide.mpr ?_
  rw [List.cons_lt_cons_iff]
  constructor
  · rintro (h | ⟨_, h⟩)
    · exact h
    · exact absurd h (List.not_lt_nil _)
  · exact .inl
/-- False in [p(z) for z in zs] -/
theorem false_in {α : Type} (zs : List α) (p : α → Bool) : decide (false ∈ zs.map p) = !(zs.all p) := by
  rw [Bool.eq_iff_iff, decide_eq_true_eq, List.mem_map]
  constructor
  · rintro ⟨z, hz, e⟩
    cases h : zs.all p with
    | false => rfl
    | true =>
      rw [List.all_eq_true] at h
      rw [h z hz] at e
      cases e
  · intro h
    apply Classical.byContradiction
    intro n
    have : zs.all p = true := List.all_eq_true.mpr fun z hz => by
      cases e : p z with
      | true => rfl
      | false => exact absurd ⟨z, hz, e⟩ n
    rw [this] at h
    cases h
end Xia

set_option Elab.async false
set_option linter.all false
set_option maxRecDepth 100000
set_option maxHeartbeats 4000000
set_option autoImplicit false
/-! Own: the law's own count of the edges that are left. -/
namespace Xia
open PySem PySem.Spec PyProof.Rows L2 SX LamX
/-- the edges that lead from p to g, as the law lays them down -/
def addR (ks : List (List Nat)) (q : List Nat) (lo n : Nat) : List (List Nat) := ((List.range n).map fun i => q.take (lo + i)).foldl addL ks
theorem addR_zero (ks : List (List Nat)) (q : List Nat) (lo : Nat) : addR ks q lo 0 = ks := rfl
theorem addR_succ (ks : List (List Nat)) (q : List Nat) (lo n : Nat) : addR ks q lo (n + 1) = addL (addR ks q lo n) (q.take (lo + n)) := by
  unfold addR
  rw [List.range_succ, List.map_append, List.foldl_append]
  rfl
theorem mem_addR {ks : List (List Nat)} {q : List Nat} {lo : Nat} {y : List Nat} : ∀ {n : Nat}, y ∈ addR ks q lo n ↔ y ∈ ks ∨ ∃ k, lo ≤ k ∧ k < lo + n ∧ y = q.take k
  | 0 => by
    rw [addR_zero]
    exact ⟨.inl, fun h => h.elim id fun ⟨k, h1, h2, _⟩ => absurd h2 (by omega)⟩
  | n + 1 => by
    rw [addR_succ, mem_addL, mem_addR]
    constructor
    · rintro ((h | ⟨k, h1, h2, h3⟩) | h)
      · exact .inl h
      · exact .inr ⟨k, h1, by omega, h3⟩
      · exact .inr ⟨lo + n, by omega, by omega, h⟩
    · rintro (h | ⟨k, h1, h2, h3⟩)
      · exact .inl (.inl h)
      · by_cases c : k = lo + n
        · subst c; exact .inr h3
        · exact .inl (.inr ⟨k, h1, by omega, h3⟩)
theorem nd_addR {ks : List (List Nat)} {q : List Nat} {lo : Nat} (h : ks.Nodup) : ∀ n, (addR ks q lo n).Nodup
  | 0 => h
  | n + 1 => by
    rw [addR_succ]
    exact nd_addL (nd_addR h n)
theorem addR_le (ks : List (List Nat)) (q : List Nat) (lo : Nat) : ∀ n, (addR ks q lo n).length ≤ ks.length + n
  | 0 => Nat.le_refl _
  | n + 1 => by
    rw [addR_succ]
    have := addR_le ks q lo n
    unfold addL
    split
    · omega
    · rw [List.length_append]
      show _ + 1 ≤ _
      omega
def addW (ks : List (List Nat)) (p g : List Nat) : List (List Nat) := addR (addR ks g (lcp p g + 1) (g.length - lcp p g)) p (lcp p g + 1) (p.length - lcp p g)
theorem mem_addW {ks : List (List Nat)} {p g y : List Nat} : y ∈ addW ks p g ↔ y ∈ ks ∨ pr y g ≠ pr y p := by
  have l1 := lcp_l p g
  have l2 := lcp_r p g
  unfold addW
  rw [mem_addR, mem_addR, sep_iff]
  constructor
  · rintro ((h | ⟨k, h1, h2, h3⟩) | ⟨k, h1, h2, h3⟩)
    · exact .inl h
    · exact .inr (.inl ⟨k, by omega, by omega, h3⟩)
    · exact .inr (.inr ⟨k, by omega, by omega, h3⟩)
  · rintro (h | ⟨k, h1, h2, h3⟩ | ⟨k, h1, h2, h3⟩)
    · exact .inl (.inl h)
    · exact .inl (.inr ⟨k, by omega, by omega, h3⟩)
    · exact .inr ⟨k, by omega, by omega, h3⟩
theorem nd_addW {ks : List (List Nat)} {p g : List Nat} (h : ks.Nodup) : (addW ks p g).Nodup := nd_addR (nd_addR h _) _
theorem len_same {α : Type} [DecidableEq α] {l m : List α} (h1 : l.Nodup) (h2 : m.Nodup) (h : ∀ x, x ∈ l ↔ x ∈ m) : l.length = m.length :=
  Nat.le_antisymm (h1.length_le_of_subset fun x hx => (h x).mp hx) (h2.length_le_of_subset fun x hx => (h x).mpr hx)
/-- the law's count is the cost -/
theorem left_cost {ws : List (List Nat)} (A : Amb ws) {u e : List Nat} (he : e ∈ ws) (hu : fol [] u ∈ ws) {ks : List (List Nat)} (nd : ks.Nodup) (hk : ∀ y, y ∈ ks ↔ ∃ g ∈ goalsL ws u e, pr y g ≠ pr y (fol [] u)) :
    (2 * (ks.length : Int)) - (((fol [] u).length : Int) + (e.length : Int) - 2 * (lcp (fol [] u) e : Int)) = costL ws u e := by
  have d := cnt_dst A he _ (fol [] u) rfl hu
  have l1 := lcp_l (fol [] u) e
  have l2 := lcp_r (fol [] u) e
  have e1 : ks.length = ws.countP (farB (goalsL ws u e) (fol [] u)) := by
    rw [List.countP_eq_length_filter]
    refine len_same nd (A.nd.filter _) fun y => ?_
    rw [List.mem_filter, far_iff, hk]
    constructor
    · rintro ⟨g, hg, k⟩
      refine ⟨?_, g, hg, k⟩
      have gw : g ∈ ws := (mem_goalsL.mp hg).elim (fun h => h.1) fun h => h ▸ he
      cases h1 : pr y g with
      | true => exact A.pre gw (pr_iff.mp h1)
      | false =>
        cases h2 : pr y (fol [] u) with
        | true => exact A.pre hu (pr_iff.mp h2)
        | false => exact absurd (h1.trans h2.symm) k
    · exact fun h => h.2
  unfold costL costZ
  rw [← e1, d]
  unfold dst
  omega
/-- the edges of the goals among some places -/
def edgL (p : List Nat) : List (List Nat) → List (List Nat) := fun gs => gs.foldl (fun ks g => addW ks p g) []
theorem edgL_snoc (p : List Nat) (gs : List (List Nat)) (g : List Nat) : edgL p (gs ++ [g]) = addW (edgL p gs) p g := by
  unfold edgL
  rw [List.foldl_append]
  rfl
theorem mem_edgL {p y : List Nat} : ∀ {gs : List (List Nat)}, y ∈ edgL p gs ↔ ∃ g ∈ gs, pr y g ≠ pr y p := fun {gs} => by
  refine snoc_ind (P := fun gs => y ∈ edgL p gs ↔ ∃ g ∈ gs, pr y g ≠ pr y p) (Iff.intro (fun h => nomatch h) (fun h => by obtain ⟨_, h, _⟩ := h; cases h)) (fun gs g ih => ?_) gs
  rw [edgL_snoc, mem_addW, ih]
  constructor
  · rintro (⟨x, hx, k⟩ | k)
    · exact ⟨x, List.mem_append_left _ hx, k⟩
    · exact ⟨g, List.mem_append_right _ (List.mem_singleton.mpr rfl), k⟩
  · rintro ⟨x, hx, k⟩
    rcases List.mem_append.mp hx with h | h
    · exact .inl ⟨x, h, k⟩
    · rw [List.mem_singleton.mp h] at k
      exact .inr k
theorem nd_edgL (p : List Nat) (gs : List (List Nat)) : (edgL p gs).Nodup := by
  refine snoc_ind (P := fun gs => (edgL p gs).Nodup) List.nodup_nil (fun gs g ih => ?_) gs
  rw [edgL_snoc]
  exact nd_addW ih
/-- the goals as the law picks them, in the order of the places -/
def pickG (ws : List (List Nat)) (u e : List Nat) : List (List Nat) := ws.filter fun x => decide (x ∉ trodL u) || decide (x = e)
theorem mem_pickG {ws : List (List Nat)} {u e g : List Nat} (he : e ∈ ws) : g ∈ pickG ws u e ↔ g ∈ goalsL ws u e := by
  unfold pickG
  rw [List.mem_filter, mem_goalsL, Bool.or_eq_true, decide_eq_true_eq, decide_eq_true_eq]
  constructor
  · rintro ⟨h, k | k⟩
    · exact .inl ⟨h, k⟩
    · exact .inr k
  · rintro (⟨h, k⟩ | k)
    · exact ⟨h, .inl k⟩
    · exact ⟨k ▸ he, .inr k⟩
theorem edg_len {ws : List (List Nat)} (A : Amb ws) {p : List Nat} (hp : p ∈ ws) {gs : List (List Nat)} (hg : ∀ g ∈ gs, g ∈ ws) : (edgL p gs).length ≤ ws.length :=
  (nd_edgL p gs).length_le_of_subset fun y hy => by
    obtain ⟨g, h1, k⟩ := mem_edgL.mp hy
    cases h2 : pr y g with
    | true => exact A.pre (hg g h1) (pr_iff.mp h2)
    | false =>
      cases h3 : pr y p with
      | true => exact A.pre hp (pr_iff.mp h3)
      | false => exact absurd (h2.trans h3.symm) k
theorem left_is {ws : List (List Nat)} (A : Amb ws) {u e : List Nat} (he : e ∈ ws) (hu : fol [] u ∈ ws) :
    (2 * ((edgL (fol [] u) (pickG ws u e)).length : Int)) - (((fol [] u).length : Int) + (e.length : Int) - 2 * (lcp (fol [] u) e : Int)) = costL ws u e :=
  left_cost A he hu (nd_edgL _ _) fun y => by
    rw [mem_edgL]
    exact ⟨fun ⟨g, h, k⟩ => ⟨g, (mem_pickG he).mp h, k⟩, fun ⟨g, h, k⟩ => ⟨g, (mem_pickG he).mpr h, k⟩⟩
theorem zipD_at {p g : List Nat} {j : Nat} {x : PyData} (h : (zipD (S p) (S g))[j]? = some x) : ∃ c d, x = .tuple [.str (S [c]), .str (S [d])] ∧ p[j]? = some c ∧ g[j]? = some d := by
  unfold zipD at h
  rw [List.getElem?_map] at h
  obtain ⟨⟨c, d⟩, h1, rfl⟩ := Option.map_eq_some_iff.mp h
  obtain ⟨h2, h3⟩ := List.getElem?_zip_eq_some.mp h1
  exact ⟨c, d, rfl, h2, h3⟩
theorem zipD_len (p g : List Nat) : (zipD (S p) (S g)).length = min p.length g.length := by
  unfold zipD
  rw [List.length_map, List.length_zip]
def dShared : List PyData → (PyData → Prop) → Prop := fun ds G => ∃ p g, ds = [.str (S p), .str (S g)] ∧ G (.int (lcp p g : Nat))
def leftD (u : List Nat) (zs : List Str) (e : List Nat) : PyData := if inB u zs = true then .int (costL (wsO zs) u e) else .none
def dLeft : List PyData → (PyData → Prop) → Prop := fun ds G => ∃ u zs e, ds = [.str (S u), treadD zs (S e)] ∧ IsL u ∧ u.length ≤ 1000 ∧ Trd zs e ∧ G (leftD u zs e)
def nWithin : List PyData → Nat → (PyData → Nat → Prop) → Prop := fun ds n G => ∃ zs e, ∃ most : Nat, ds = [treadD zs (S e), .int most] ∧ n < 3000000000 ∧ most ≤ 1000 ∧ Trd zs e ∧ ∀ u m, IsL u → u.length ≤ most → inB u zs = true → m ≤ n + 1 + most → G (.str (S u)) m
def dRestRight : List PyData → (PyData → Prop) → Prop := fun ds G => ∃ u zs e, ds = [.str (S u), treadD zs (S e)] ∧ IsL u ∧ u.length ≤ 100 ∧ Trd zs e ∧ zs.length ≤ 100 ∧ G (.bool true)
theorem inB_all {u : List Nat} {zs : List Str} : (plc u).all (fun z => decide (z ∈ zs)) = inB u zs := by
  rw [Bool.eq_iff_iff, inB_iff, List.all_eq_true]
  constructor
  · intro h w hw
    exact of_decide_eq_true (h (S w) (mem_plc.mpr ⟨w, hw, rfl⟩))
  · intro h z hz
    obtain ⟨w, hw, rfl⟩ := mem_plc.mp hz
    exact decide_eq_true (h w hw)
/-! ### the rest of a word, told of places -/
section
variable {u e : List Nat} {zs : List Str}
theorem in_ws (T : Trd zs e) (h : inB u zs = true) : ∀ w ∈ trodL u, w ∈ wsO zs := fun w hw => (mem_ws T.s).mpr (inB_iff.mp h w hw)
theorem trod_sub {a b w : List Nat} (ha : IsL a) (hb : IsL b) (h : w ∈ trodL a) : w ∈ trodL (a ++ b) := (trodL_app ha hb).mpr (.inl h)
theorem Trd.rest_l (T : Trd zs e) (u1 : IsL u) (h : inB u zs = true) : IsL (restS u zs e) := Xia.rest_l T.amb T.ew u1 (in_ws T h)
theorem Trd.rest_n (T : Trd zs e) (u1 : IsL u) (h : inB u zs = true) : ((restS u zs e).length : Int) = costL (wsO zs) u e := rest_len T.amb T.ew u1 (in_ws T h)
theorem Trd.rest_e (T : Trd zs e) (u1 : IsL u) (h : inB u zs = true) : fol [] (u ++ restS u zs e) = e := (rest_whole T.amb T.ew u1 (in_ws T h)).1
theorem Trd.rest_p (T : Trd zs e) (u1 : IsL u) (h : inB u zs = true) : plc (u ++ restS u zs e) = zs := by
  have k := (rest_whole T.amb T.ew u1 (in_ws T h)).2
  refine ord_ext (ord_ord _) T.asc (fun z hz => ?_) T.s fun w => ?_
  · obtain ⟨x, _, rfl⟩ := mem_plc.mp hz
    exact ⟨x, rfl⟩
  · rw [mem_plc, ← mem_ws T.s, ← k w]
    constructor
    · rintro ⟨x, hx, ex⟩
      rw [← S_inj ex]
      exact hx
    · intro hx
      exact ⟨w, hx, rfl⟩
/-- behind a part of the rest -/
theorem Trd.rest_in (T : Trd zs e) (u1 : IsL u) (h : inB u zs = true) {a b : List Nat} (hr : restS u zs e = a ++ b) : inB (u ++ a) zs = true := by
  have l := T.rest_l u1 h
  have ea : IsL a := l.sub fun c hc => by rw [hr]; exact List.mem_append_left _ hc
  have eb : IsL b := l.sub fun c hc => by rw [hr]; exact List.mem_append_right _ hc
  rw [inB_iff]
  intro w hw
  have k := (rest_whole T.amb T.ew u1 (in_ws T h)).2
  refine (mem_ws T.s).mp ((k w).mp ?_)
  show w ∈ trodL (u ++ restS u zs e)
  rw [hr, ← List.append_assoc]
  exact trod_sub (u1.app ea) eb hw
theorem Trd.rest_on (T : Trd zs e) (u1 : IsL u) (h : inB u zs = true) {a b : List Nat} (hr : restS u zs e = a ++ b) : restS (u ++ a) zs e = b := rest_behind T.amb T.ew u1 (in_ws T h) hr
theorem inB_end (T : Trd zs e) (h : inB u zs = true) : fol [] u ∈ wsO zs := in_ws T h _ (trodL_end u)
theorem inB_snoc {c : Nat} : inB (u ++ [c]) zs = true ↔ inB u zs = true ∧ S (fol [] (u ++ [c])) ∈ zs := by
  rw [inB_iff, inB_iff, trodL_snoc]
  constructor
  · intro h
    exact ⟨fun w hw => h w (List.mem_append_left _ hw), h _ (List.mem_append_right _ (List.mem_singleton.mpr rfl))⟩
  · rintro ⟨h1, h2⟩ w hw
    rcases List.mem_append.mp hw with k | k
    · exact h1 w k
    · rw [List.mem_singleton.mp k]
      exact h2
/-- a lesser letter at any place of the rest leads to none as short -/
theorem Trd.lesser (T : Trd zs e) (u1 : IsL u) (h : inB u zs = true) {i c d : Nat} (hc : (restS u zs e)[i]? = some c) (hd : d ∈ letC) (lt : d < c) (hin : inB (u ++ (restS u zs e).take i ++ [d]) zs = true) :
    costL (wsO zs) (u ++ (restS u zs e).take i ++ [d]) e + (i : Int) = ((restS u zs e).length : Int) + 1 := by
  have il := (List.getElem?_eq_some_iff.mp hc).1
  have hr : restS u zs e = (restS u zs e).take i ++ (restS u zs e).drop i := (List.take_append_drop _ _).symm
  have l := T.rest_l u1 h
  have ua := u1.app (l.take i)
  have h2 := T.rest_in u1 h hr
  have h3 := T.rest_on u1 h hr
  have h4 := T.rest_n ua h2
  have dr : (restS u zs e).drop i = c :: (restS u zs e).drop (i + 1) := by
    rw [List.drop_eq_getElem_cons il, (List.getElem?_eq_some_iff.mp hc).2]
  rw [dr] at h3
  have k := (cost_more T.amb T.ew ua (in_ws T h2) hd (inB_end T hin)).2 c _ h3
  rw [k.2 lt]
  rw [h3, ← dr, List.length_drop] at h4
  omega
end
theorem e_opC {o : PyData → PyData → (PyData → Prop) → Prop} {d : PyData} {ay : AE} {δ : List SD} {G : PyData → List SD → Prop} (h : ay δ fun e δ2 => o d e fun r => G r δ2) : aOp o (aC d) ay δ G := h
theorem or_meet {c1 c2 : Bool} {F : Bool → Prop} {X : Prop} (h : F (c1 || c2)) (k : F c2 → X) : if c1 = true then F true else X := by
  cases c1 with
  | true => rw [if_pos rfl]; exact h
  | false => rw [if_neg (by decide)]; exact k h
/-- False in [p(z) for z in zs] -/
theorem false_row {α : Type} {zs : List α} {p : α → Bool} {G : PyData → Prop} (g : G (.bool (!(zs.all p)))) : dInF false (.bool false) (.list (zs.map fun z => .bool (p z))) G := by
  have e : (zs.map fun z => PyData.bool (p z)) = (zs.map p).map .bool := by rw [List.map_map]; rfl
  refine ⟨_, .inl rfl, rfl, ?_, ?_⟩
  · rw [e]
    exact bools_flat _
  · rw [e, bools_in, false_in, ff_ne]
    exact g
theorem keys_room {ws : List (List Nat)} {p g : List Nat} (A : Amb ws) (hp : p ∈ ws) (hg : g ∈ ws) {ks : List (List Nat)} (h : ∀ y ∈ ks, y ∈ ws) : ∀ y ∈ addW ks p g, y ∈ ws := fun y hy => by
  rcases mem_addW.mp hy with k | k
  · exact h y k
  · cases h2 : pr y g with
    | true => exact A.pre hg (pr_iff.mp h2)
    | false =>
      cases h3 : pr y p with
      | true => exact A.pre hp (pr_iff.mp h3)
      | false => exact absurd (h2.trans h3.symm) k
/-- a row of edges laid down, at the level of data -/
theorem row_laid {ks : List (List Nat)} {q : List Nat} {lo : Nat} {j : Nat} : putP (keysP (addR ks q lo j)) (.inr (cutS (S q) none (some ((lo : Int) + (j : Nat))))) (.bool true) = keysP (addR ks q lo (j + 1)) := by
  rw [cut_to _ (by omega), show ((lo : Int) + (j : Nat)).toNat = lo + j by omega, keysP_put, ← addR_succ]
theorem pick_cond {u e g : List Nat} : ((true != decide (S g ∈ plc u)) || (false != decide (S g = S e))) = (decide (g ∉ trodL u) || decide (g = e)) := by
  have e1 : (S g ∈ plc u) ↔ g ∈ trodL u := by
    rw [mem_plc]
    constructor
    · rintro ⟨w, hw, k⟩
      rw [← S_inj k]
      exact hw
    · intro h
      exact ⟨g, h, rfl⟩
  have e2 : (S g = S e) ↔ g = e := ⟨S_inj, congrArg S⟩
  rw [tt_ne, ff_ne, decide_eq_decide.mpr e1, decide_eq_decide.mpr e2, decide_not]
theorem pick_snoc {ws : List (List Nat)} {u e g : List Nat} {j : Nat} (h : ws[j]? = some g) : pickG (ws.take (j + 1)) u e = pickG (ws.take j) u e ++ if (decide (g ∉ trodL u) || decide (g = e)) = true then [g] else [] := by
  unfold pickG
  rw [List.take_succ, h, List.filter_append]
  congr 1
  show List.filter _ [g] = _
  rw [List.filter_cons]
  rfl
theorem ws_at {zs : List Str} {j : Nat} {g : List Nat} (h : zs[j]? = some (S g)) : (wsO zs)[j]? = some g := by
  unfold wsO
  rw [List.getElem?_map, h]
  rfl
/-- a comprehension whose names hold something ahead of it -/
theorem lc_filterW {ai : AI} {at_ : AT} {i : Nat} {vs : List Nat} {δ : List SD} {G : List PyData → List SD → Prop} (zs : List Str) (p : Str → Bool) (δ1 : List SD) (h1 : wipeD δ vs = δ1) (hw : wipeD δ1 vs = δ1) (ne : zs ≠ []) (small : zs.length ≤ sizeLine)
    (ht : ∀ z ∈ zs, wipeD (δ1.set i (.da (.str z))) vs = δ1 ∧ (δ1.set i (.da (.str z)))[i]? = some (.da (.str z)) ∧ ∀ G' : Bool → List SD → Prop, G' (p z) (δ1.set i (.da (.str z))) → at_ (δ1.set i (.da (.str z))) G')
    (hi : ∀ G' : List PyData → List SD → Prop, G' (zs.map .str) δ → ai δ G') (g : G ((zs.filter p).map .str) δ1) : alLc ai (agName i) at_ (aV i) vs δ G := by
  refine hi _ ⟨fun j acc δ' => acc = ((zs.take j).filter p).map .str ∧ (0 < j → δ' = δ1) ∧ wipeD δ' vs = δ1, ⟨rfl, fun h => absurd h (Nat.lt_irrefl 0), h1⟩, ?_, by rw [List.length_map]; exact small, ?_⟩
  · rintro j x acc δ' hx _ _ ⟨rfl, _, hd⟩
    rw [List.getElem?_map] at hx
    obtain ⟨z, hz, rfl⟩ := Option.map_eq_some_iff.mp hx
    obtain ⟨h1, h2, h3⟩ := ht z (List.mem_of_getElem? hz)
    show at_ ((wipeD δ' vs).set i _) _
    rw [hd]
    refine h3 _ ?_
    have e : zs.take (j + 1) = zs.take j ++ [z] := by rw [List.take_succ, hz]; rfl
    cases hp : p z with
    | true =>
      rw [if_pos rfl]
      unfold aV
      rw [h2]
      refine ⟨?_, fun _ => h1, by rw [h1]; exact hw⟩
      rw [e, List.filter_append, List.map_append]
      simp [hp]
    | false =>
      rw [if_neg Bool.false_ne_true]
      refine ⟨?_, fun _ => h1, by rw [h1]; exact hw⟩
      rw [e, List.filter_append, List.map_append]
      simp [hp]
  · rintro acc δ' _ ⟨rfl, k, _⟩
    rw [List.length_map] at k ⊢
    rw [k (List.length_pos_iff.mpr ne), List.take_length]
    exact g
theorem lc_mapW {ai : AI} {ae : AE} {i : Nat} {vs : List Nat} {δ : List SD} {G : List PyData → List SD → Prop} (zs : List Str) (f : Str → PyData) (δ1 : List SD) (h1 : wipeD δ vs = δ1) (hw : wipeD δ1 vs = δ1) (ne : zs ≠ []) (small : zs.length ≤ sizeLine)
    (ht : ∀ z ∈ zs, wipeD (δ1.set i (.da (.str z))) vs = δ1 ∧ ∀ G' : PyData → List SD → Prop, G' (f z) (δ1.set i (.da (.str z))) → ae (δ1.set i (.da (.str z))) G')
    (hi : ∀ G' : List PyData → List SD → Prop, G' (zs.map .str) δ → ai δ G') (g : G (zs.map f) δ1) : alLc ai (agName i) aYes ae vs δ G := by
  refine hi _ ⟨fun j acc δ' => acc = (zs.take j).map f ∧ (0 < j → δ' = δ1) ∧ wipeD δ' vs = δ1, ⟨rfl, fun h => absurd h (Nat.lt_irrefl 0), h1⟩, ?_, by rw [List.length_map]; exact small, ?_⟩
  · rintro j x acc δ' hx _ _ ⟨rfl, _, hd⟩
    rw [List.getElem?_map] at hx
    obtain ⟨z, hz, rfl⟩ := Option.map_eq_some_iff.mp hx
    obtain ⟨h1, h3⟩ := ht z (List.mem_of_getElem? hz)
    show ae ((wipeD δ' vs).set i _) _
    rw [hd]
    refine h3 _ ?_
    have e : zs.take (j + 1) = zs.take j ++ [z] := by rw [List.take_succ, hz]; rfl
    refine ⟨?_, fun _ => h1, by rw [h1]; exact hw⟩
    rw [e, List.map_append]
    rfl
  · rintro acc δ' _ ⟨rfl, k, _⟩
    rw [List.length_map] at k ⊢
    rw [k (List.length_pos_iff.mpr ne), List.take_length]
    exact g
theorem restD_in {u : List Nat} {zs : List Str} {e : List Nat} (h : inB u zs = true) : restD u zs e = .str (S (restS u zs e)) := by
  unfold restD
  rw [h, if_pos rfl]
theorem restD_out {u : List Nat} {zs : List Str} {e : List Nat} (h : inB u zs = false) : restD u zs e = .none := by
  unfold restD
  rw [h, if_neg (by decide)]
theorem leftD_in {u : List Nat} {zs : List Str} {e : List Nat} (h : inB u zs = true) : leftD u zs e = .int (costL (wsO zs) u e) := by
  unfold leftD
  rw [h, if_pos rfl]
theorem leftD_out {u : List Nat} {zs : List Str} {e : List Nat} (h : inB u zs = false) : leftD u zs e = .none := by
  unfold leftD
  rw [h, if_neg (by decide)]
theorem in8 {c : Nat} (h : c ∈ letC) : c ∈ ("abcdABCD" : Str).cps.toList := by
  have e : ("abcdABCD" : Str).cps.toList = [97, 98, 99, 100, 65, 66, 67, 68] := by decide +kernel
  rw [e]
  revert h
  revert c
  decide
theorem in8_all {r : List Nat} (h : IsL r) : (r.map fun c => S [c]).all (fun z => decide (z.cps.getD 0 0 ∈ ("abcdABCD" : Str).cps.toList)) = true := by
  rw [List.all_eq_true]
  intro z hz
  obtain ⟨c, hc, rfl⟩ := List.mem_map.mp hz
  exact decide_eq_true (in8 (h c hc))
theorem item_S {u : List Nat} {z : Str} {j : Nat} {x : PyData} (e : z.cps.toList = u) (h : (z.cps.toList.map fun c => PyData.str ⟨#[c]⟩)[j]? = some x) : ∃ c, u[j]? = some c ∧ c ∈ u ∧ x = .str (S [c]) := by
  rw [e, List.getElem?_map] at h
  obtain ⟨c, hc, rfl⟩ := Option.map_eq_some_iff.mp h
  exact ⟨c, hc, List.mem_of_getElem? hc, rfl⟩
end Xia

set_option Elab.async false
set_option linter.all false
set_option maxRecDepth 100000
set_option maxHeartbeats 4000000
set_option autoImplicit false
/-! Own: least words; promises told as data, of defs that may raise. -/
namespace Xia
open PySem PySem.Spec PyProof.Rows L2 SX LamX
section
variable {K : PySem.W.Frag}
theorem rd_imm0 {H : Hp} {a : Addr} {o : HO} (h : Rd H a o) (v : visO o = true) (v2 : ∀ ob, visO (.frz ob o) = true) : Rd (imm [] H) a o := by
  rcases h with h | ⟨ob, h⟩
  · exact .inl (imm_of List.not_mem_nil h v)
  · exact .inr ⟨ob, imm_of List.not_mem_nil h (v2 ob)⟩
mutual
theorem dp_imm0 {H : Hp} : ∀ (d : PyData) (v : V), Dp K H v d → Dp K (imm [] H) v d
  | .none, _, h => by cases h; exact .non
  | .bool b, _, h => by cases h; exact .bl b
  | .int i, _, h => by cases h; exact .int i
  | .str x, _, h => by cases h; exact .str x
  | .list ds, _, h => by
    cases h with
    | lst a b => exact .lst (a.imp (fun r => rd_imm0 r rfl fun _ => rfl) id) (dpAll_imm0 ds _ b)
  | .tuple ds, _, h => by
    cases h with
    | tup a b => exact .tup (a.imp (fun r => rd_imm0 r rfl fun _ => rfl) id) (dpAll_imm0 ds _ b)
  | .dict _, _, h => by cases h
theorem dpAll_imm0 {H : Hp} : ∀ (ds : List PyData) (vs : List V), DpAll K H vs ds → DpAll K (imm [] H) vs ds
  | [], _, h => by cases h; exact .nil
  | d :: ds, _, h => by
    cases h with
    | cons a b => exact .cons (dp_imm0 d _ a) (dpAll_imm0 ds _ b)
end
theorem mut0 (H : Hp) : MutOk [] H := fun _ h => nomatch h
/-- a def of data, called over the heap -/
theorem spD_run {n : Nat} {o : List PyData → (PyData → Prop) → Prop} {vs : List V} {H : Hp} {Q : VK} {E : XK} (ds : List PyData) (G : PyData → Prop) (hl : ds.length = n) (w : DpAll K H vs ds) (ho : o ds G)
    (q : ∀ (v : V) (H' : Hp) (r : PyData), G r → Same H H' → Dp K H' v r → Q v H') : spD K n o vs H Q E :=
  ⟨[], ds, G, hl, mut0 H, dpAll_imm0 ds vs w, ho, fun v H' r g s w => q v H' r g s (Dp.mono (imm_sub _ _) _ _ w)⟩
/-- a def of data that may raise -/
def spE (K : PySem.W.Frag) (n : Nat) (o : List PyData → (PyData → Prop) → (Addr → Prop) → Prop) : Sp := fun vs H Q E => ∃ (ds : List PyData) (G : PyData → Prop) (W : Addr → Prop), ds.length = n ∧ DpAll K H vs ds ∧ o ds G W ∧
  (∀ (v : V) (H' : Hp) (r : PyData), G r → Same H H' → Dp K H' v r → Q v H') ∧ ∀ (D : Addr) (H' : Hp), W D → Same H H' → E (.ref D) none H'
theorem spE.len {n : Nat} {o : List PyData → (PyData → Prop) → (Addr → Prop) → Prop} {vs : List V} {H : Hp} {Q : VK} {E : XK} (h : spE K n o vs H Q E) : vs.length = n := by
  obtain ⟨ds, G, W, e, w, _⟩ := h
  rw [dpAll_len w, e]
theorem spE_run {n : Nat} {o : List PyData → (PyData → Prop) → (Addr → Prop) → Prop} {vs : List V} {H : Hp} {Q : VK} {E : XK} (ds : List PyData) (G : PyData → Prop) (W : Addr → Prop) (hl : ds.length = n) (w : DpAll K H vs ds) (ho : o ds G W)
    (q : ∀ (v : V) (H' : Hp) (r : PyData), G r → Same H H' → Dp K H' v r → Q v H') (qe : ∀ (D : Addr) (H' : Hp), W D → Same H H' → E (.ref D) none H') : spE K n o vs H Q E := ⟨ds, G, W, hl, w, ho, q, qe⟩
end
theorem imm_dp {K : PySem.W.Frag} {M : List Addr} {H : Hp} (m : MutOk M H) : True := trivial
def spLeastW (K : PySem.W.Frag) : Sp := Sp1 fun x H Q E => ∃ (t : Addr) (zs : List Str) (e : List Nat), x = .ref t ∧ Trd zs e ∧ TreadAt K H t zs (S e) ∧ ∀ H', Same H H' → Q (.str (S (restS [] zs e))) H'
theorem inB_nil {zs : List Str} {e : List Nat} (T : Trd zs e) : inB [] zs = true := inB_iff.mpr fun w hw => by
  rw [List.mem_singleton.mp (show w ∈ [[]] from hw)]
  exact T.nil_mem
section
variable {K : PySem.W.Frag}
def dLeastW : List PyData → (PyData → Prop) → Prop := fun ds G => ∃ zs e, ds = [treadD zs (S e)] ∧ Trd zs e ∧ G (.str (S (restS [] zs e)))
instance fnLeastW : FnD K (spLeastW K) dLeastW := ⟨fun {M H vs ds Q E G} m h g q => by
  obtain ⟨zs, e, rfl, h3, g⟩ := g
  obtain ⟨y, rfl, w2⟩ := dp1 h
  obtain ⟨t, rfl, ht⟩ := dp_trd w2
  exact ⟨t, zs, e, rfl, h3, ht, fun H' s => q _ _ _ g s (.str _)⟩⟩
end
theorem walk_trd {u : List Nat} (h : IsL u) (l : u.length ≤ 200) : Trd (plc u) (fol [] u) := plc_trd h l (mem_plc.mpr ⟨_, trodL_end u, rfl⟩)
theorem e_if {a : AT} {x y : AE} {δ : List SD} {G : PyData → List SD → Prop} (h : a δ fun c δ1 => if c = true then x δ1 G else y δ1 G) : aIf a x y δ G := h
theorem add_i {i j k : Int} {G : PyData → Prop} (e : i + j = k) (h : G (.int k)) : dAdd (.int i) (.int j) G := by
  subst e
  exact h
theorem nice_trd {zs : List Str} {e : List Nat} (T : Trd zs e) : Nice 2 809648 (treadD zs (S e)) := (nice_tread (m := 201) (n := 200) T.ls T.few (by
    have := T.word T.en
    exact ⟨e, rfl, this.1, this.2.2⟩)).mono (Nat.le_refl _) (by decide)
def dWaysRight : List PyData → (PyData → Prop) → Prop := fun ds G => ∃ u zs e, ds = [.str (S u), treadD zs (S e)] ∧ IsL u ∧ u.length ≤ 150 ∧ inB u zs = true ∧ Trd zs e ∧ G (.bool true)
theorem nice_rest {u : List Nat} {zs : List Str} {e : List Nat} (T : Trd zs e) (u1 : IsL u) (h : inB u zs = true) (l : (restS u zs e).length ≤ 1000) : Shows (.str (S (restS u zs e))) := (nice_str (m := 1000) ⟨_, rfl, T.rest_l u1 h, l⟩).shows (by decide) (by decide)
theorem Trd.rest_few {u : List Nat} {zs : List Str} {e : List Nat} (T : Trd zs e) (u1 : IsL u) (h : inB u zs = true) : (restS u zs e).length ≤ 2 * zs.length := by
  have := rst_le (way_of T.amb T.ew u1 (in_ws T h))
  rw [ws_len] at this
  exact this
theorem shows_S {u : List Nat} (h : IsL u) (l : u.length ≤ 1000) : Shows (.str (S u)) := (nice_str (m := 1000) ⟨_, rfl, h, l⟩).shows (by decide) (by decide)
theorem Trd.rest_none {u : List Nat} {zs : List Str} {e : List Nat} (T : Trd zs e) (u1 : IsL u) (h : inB u zs = true) : restS u zs e = [] ↔ (plc u = zs ∧ fol [] u = e) := by
  constructor
  · intro k
    have h1 := T.rest_p u1 h
    have h2 := T.rest_e u1 h
    rw [k, List.append_nil] at h1 h2
    exact ⟨h1, h2⟩
  · rintro ⟨h1, h2⟩
    refine (rest_nil T.amb T.ew u1 (in_ws T h)).mpr ⟨fun w hw => ?_, h2⟩
    have hw := (mem_ws T.s).mp hw
    rw [← h1] at hw
    obtain ⟨x, hx, e⟩ := mem_plc.mp hw
    rw [← S_inj e]
    exact hx
theorem Trd.rest_more {u : List Nat} {zs : List Str} {e : List Nat} {c : Nat} (T : Trd zs e) (u1 : IsL u) (h : inB u zs = true) (hc : c ∈ letC) (hin : inB (u ++ [c]) zs = true) :
    (restS u zs e).length ≤ (restS (u ++ [c]) zs e).length + 1 ∧ ∀ d b, restS u zs e = d :: b → (c = d → restS (u ++ [c]) zs e = b) ∧ (c < d → (restS (u ++ [c]) zs e).length = (restS u zs e).length + 1) := by
  obtain ⟨k1, k2⟩ := cost_more T.amb T.ew u1 (in_ws T h) hc (inB_end T hin)
  have n1 := T.rest_n u1 h
  have n2 := T.rest_n (u1.app (.one hc)) hin
  refine ⟨by omega, fun d b hd => ⟨fun cd => ?_, fun lt => ?_⟩⟩
  · subst cd
    exact T.rest_on u1 h (a := [c]) (b := b) hd
  · have := (k2 d b hd).2 lt
    omega
theorem eq_of_ff {P : Prop} [d : Decidable P] (h : (false != decide P) = true) : P := by
  rw [ff_ne] at h
  exact of_decide_eq_true h
theorem ne_of_tt {P : Prop} [d : Decidable P] (h : (true != decide P) = true) : ¬ P := by
  rw [tt_ne] at h
  intro p
  rw [decide_eq_true p] at h
  cases h
/-! ### is it a least word -/
def leastB (zs : List Str) (e : List Nat) (d : PyData) : Bool := match d with
  | .str z => isW z && (decide ((z.length : Int) = 2 * ((zs.length : Int) - 1) - (e.length : Int)) && decide (plc z.cps.toList = zs ∧ fol [] z.cps.toList = e))
  | _ => false
def spShowsL (K : PySem.W.Frag) : Sp := Sp2 fun x y H Q E => ∃ (t : Addr) (zs : List Str) (e : List Nat) (d : PyData), x = .ref t ∧ Trd zs e ∧ TreadAt K H t zs (S e) ∧ Dp K H y d ∧ (∀ z, d = .str z → z.length ≤ 1000) ∧ ∀ H', Same H H' → Q (.bl (leastB zs e d)) H'
def dLeastLen : List PyData → (PyData → Prop) → Prop := fun ds G => ∃ zs e, ds = [treadD zs (S e)] ∧ Trd zs e ∧ G (.int (2 * ((zs.length : Int) - 1) - (e.length : Int)))
theorem no_str {K : PySem.W.Frag} {H : Hp} {v : V} {d : PyData} (h : Dp K H v d) (n : ∀ z, d ≠ .str z) : NoStr K H v := by
  refine ⟨_, dp_ty h, kit_ty ?_⟩
  cases d with
  | str z => exact absurd rfl (n z)
  | none => show kitB "NoneType" "str" = some false; decide +kernel
  | bool b => show kitB "bool" "str" = some false; decide +kernel
  | int i => show kitB "int" "str" = some false; decide +kernel
  | list ds => show kitB "list" "str" = some false; decide +kernel
  | tuple ds => show kitB "tuple" "str" = some false; decide +kernel
  | dict _ => cases h
theorem shaped_walk {u : List Nat} (h : IsL u) : SeqAt.shaped (treadD (plc u) (S (fol [] u))) = true := (nice_walk h (Nat.le_refl _)).shaped (by decide)
theorem leastB_str (zs : List Str) (e : List Nat) (z : Str) : leastB zs e (.str z) = (isW z && (decide ((z.length : Int) = 2 * ((zs.length : Int) - 1) - (e.length : Int)) && decide (plc z.cps.toList = zs ∧ fol [] z.cps.toList = e))) := rfl
theorem least_no {zs : List Str} {e : List Nat} {d : PyData} (n : ∀ z, d ≠ .str z) : leastB zs e d = false := by
  cases d with
  | str z => exact absurd rfl (n z)
  | _ => rfl
section
variable {K : PySem.W.Frag}
def dShowsL : List PyData → (PyData → Prop) → Prop := fun ds G => ∃ zs e d, ds = [treadD zs (S e), d] ∧ Trd zs e ∧ (∀ z, d = .str z → z.length ≤ 1000) ∧ G (.bool (leastB zs e d))
instance fnShowsL : FnD K (spShowsL K) dShowsL := ⟨fun {M H vs ds Q E G} m h g q => by
  obtain ⟨zs, e, d, rfl, h3, h4, g⟩ := g
  obtain ⟨x, y, rfl, w1, w2⟩ := dp2 h
  obtain ⟨t, rfl, ht⟩ := dp_trd w1
  exact ⟨t, zs, e, d, rfl, h3, ht, Dp.mono (imm_sub _ _) _ _ w2, h4, fun H' s => q _ _ _ g s (.bl _)⟩⟩
def dSpread : List PyData → (PyData → Prop) → Prop := fun ds G => ∃ c a : Int, ds = [.int c, .int a] ∧ 0 ≤ a ∧ a ≤ 4000000000 ∧ ∀ r : Int, 0 ≤ r → G (.int r)
instance fnSpread : FnD K spSpread dSpread := ⟨fun {M H vs ds Q E G} m h g q => by
  obtain ⟨c, a, rfl, h1, h2, g⟩ := g
  obtain ⟨x, y, rfl, w1, w2⟩ := dp2 h
  cases w1
  cases w2
  exact ⟨c, a, rfl, rfl, h1, h2, fun r H' r0 s => q _ _ _ (g r r0) s (.int _)⟩⟩
theorem dp_ints (H : Hp) : ∀ ns : List Int, DpAll K H (ns.map V.int) (ns.map .int)
  | [] => .nil
  | n :: ns => .cons (.int n) (dp_ints H ns)
/-- the start of a law without a pen -/
theorem law_goS {rest : TS} {as_ : AS} [hs : SimS K [] rest as_] {N : List Str} {a : Addr} {ns : List Int} {H : Hp} {Q : VK} (k : Nat) (hN : N.length = 1 + k) (hS : SqL K H a (ns.map V.int)) (q : ∀ H', Q (.bl true) H')
    (g : as_ ⟨fun _ => False, fun d _ => d = .bool true, fun _ => False, fun _ => False⟩ (.da (.list (ns.map .int)) :: List.replicate k .no)) :
    rest { nx := fun _ H' => Q .non H', rt := Q } (L2.start N [.ref a]) H := by
  have e0 : L2.start N [.ref a] = [some (V.ref a)] ++ List.replicate k none := start_split (vs := [V.ref a]) hN rfl
  rw [e0]
  have S1 : Sta K [] Bas.any [] (.da (.list (ns.map .int)) :: List.replicate k .no) ([some (V.ref a)] ++ List.replicate k none) H := by
    refine ⟨trivial, ⟨fun p hp => (nomatch hp), fun z => absurd rfl z⟩, mut0 H, fun b hb => (nomatch hb), by simp, fun i s h => ?_, fun i j s t ne h1 h2 m1 m2 => ?_⟩
    · match i, h with
      | 0, h =>
        cases h
        exact ⟨_, rfl, dp_imm0 _ _ (.lst hS (dp_ints H ns))⟩
      | i + 1, h =>
        have h : (List.replicate k SD.no)[i]? = some s := h
        rw [List.mem_replicate.mp (List.mem_of_getElem? h) |>.2]
        trivial
    · exfalso
      rcases List.mem_cons.mp (List.mem_of_getElem? h1) with rfl | h
      · cases m1
      · rw [(List.mem_replicate.mp h).2] at m1
        cases m1
  exact hs.run S1 g ⟨fun M' δ' σ' H' z _ _ => z.elim, fun v d M' δ' σ' H' z _ _ w => by
    have z : d = .bool true := z
    subst z
    cases w
    exact q H', fun M' δ' σ' H' z _ _ => z.elim, fun M' δ' σ' H' z _ _ => z.elim⟩
end
theorem via {ae : AE} {δ : List SD} {G : PyData → List SD → Prop} (P : PyData → Prop) (h : ∀ G' : PyData → List SD → Prop, (∀ d, P d → G' d δ) → ae δ G') (g : ∀ d, P d → G d δ) : ae δ G := h G g
end Xia

set_option Elab.async false
set_option linter.all false
set_option maxRecDepth 100000
set_option maxHeartbeats 4000000
set_option autoImplicit false
/-! Own: enumerate; a new list in the first of two names. -/
namespace Xia
open PySem PySem.Spec PyProof.Rows L2 SX LamX
section
variable {K : PySem.W.Frag} {T : List (Addr × Str)}
def enumD (ds : List PyData) : List PyData := ds.zipIdx.map fun p => .tuple [.int (p.2 : Nat), p.1]
theorem enumD_len (ds : List PyData) : (enumD ds).length = ds.length := by
  unfold enumD
  rw [List.length_map, List.length_zipIdx]
theorem enumD_at {ds : List PyData} {j : Nat} : (enumD ds)[j]? = (ds[j]?).map fun d => .tuple [.int (j : Nat), d] := by
  unfold enumD
  rw [List.getElem?_map, List.getElem?_zipIdx, Option.map_map]
  cases ds[j]? with
  | none => rfl
  | some d =>
    show some (PyData.tuple [.int ((0 + j : Nat) : Int), d]) = _
    rw [Nat.zero_add]
    rfl
theorem enumD_is {ds : List PyData} {j : Nat} {x : PyData} (h : (enumD ds)[j]? = some x) : ∃ d, ds[j]? = some d ∧ x = .tuple [.int (j : Nat), d] := by
  rw [enumD_at] at h
  obtain ⟨d, h1, h2⟩ := Option.map_eq_some_iff.mp h
  exact ⟨d, h1, h2.symm⟩
def aEnum (aa : AA) : AI := fun δ G => aa δ fun ds δ1 => match ds with
  | [.list es] => G (enumD es) δ1
  | _ => False
instance simEnum {ta : TA} {aa : AA} [h1 : SimA K T ta aa] : SimI K T (iEnum K ta) (aEnum aa) := ⟨fun S h q => h1.run S h fun vs M1 H1 ds δ1 g1 f1 S1 w1 => by
  split at g1
  · rename_i es
    cases w1 with
    | cons a b =>
      cases b
      cases a with
      | lst x y =>
        refine ⟨_, _, rfl, sqL_same (imm_sub _ _) x, ?_⟩
        refine q _ _ _ _ _ g1 f1 S1 (walk_mono (walk_enum (K := K)) (by rw [dpAll_len y, enumD_len]) ?_ ?_)
        · rintro H2 ⟨M2, m2, f2⟩
          exact sqL_same (imm_sub _ _) (sqL_same f2 x)
        · rintro i H2 v H3 hi _ ⟨t, c, d, rfl, n, rfl, hc, hd⟩
          cases hc
          obtain ⟨e, e1, e2⟩ := dpAll_at y hd
          refine ⟨same_upd n, .tuple [.int (i : Nat), e], by rw [enumD_at, e1]; rfl, fun M2 m2 f2 => ?_⟩
          exact .tup (.inl (.inl (new_imm m2 n rfl))) (.cons (.int _) (.cons (Dp.mono (f2.trans (Fr.of (same_upd n))) _ _ e2) .nil))
  · exact g1.elim⟩
/-- a, b = [..], x: the list may grow -/
def tParQ (i j : Nat) (tl te : TE) : TS := tPar i j (tCons tl (tCons te tNil))
theorem psParQ {X : Cx} {st : Stmt} {i j : Nat} {te tl : TE} (h : PS X st (tPar i j (tCons tl (tCons te tNil)))) : PS X st (tParQ i j tl te) := h
def aParQ (i j : Nat) (al : AA) (ae : AE) : AS := fun A δ => al δ fun ds δ1 => ae δ1 fun d δ2 => A.nx ((δ2.set i (.ac ds)).set j (.da d))
instance simParQ {i j : Nat} {te tl : TE} {ae : AE} {al : AA} [h1 : SimL K T tl al] [h2 : SimE K T te ae] : SimS K T (tParQ i j tl te) (aParQ i j al ae) := ⟨fun {B M δ σ H D A} S h c =>
  h1.run S h fun l vs M1 H1 ds δ1 g1 f1 S1 w1 ok nB => h2.run S1 g1 fun v M2 H2 d δ2 g2 f2 S2 w2 => by
    refine ⟨_, _, rfl, ?_⟩
    exact c.nx _ _ _ _ g2 (f1.trans f2) ((S2.toAc (Dp.monoAll f2 _ _ w1) ok nB i).put w2)⟩
/-- x is not True, is not None -/
def dIsB : PyData → PyData → (PyData → Prop) → Prop := fun d e G => match e with
  | .bool b => (match d with
    | .bool a => G (.bool (!decide (a = b)))
    | _ => False)
  | _ => dIsN true d e G
instance (priority := 1200) opdIsNotB : OpD K mNot2 dIsB := ⟨fun {M H x y d e Q G} m hx hy h q => by
  cases e with
  | bool b =>
    cases d with
    | bool a =>
      cases hx
      cases hy
      exact q _ _ _ h (.refl _) (.bl _)
    | _ => exact h.elim
  | _ => exact opdIsNot.run m hx hy h q⟩
theorem pi_enumK {X : Cx} {K : PySem.W.Frag} {e : Expr} {ta : TA} {p pos tpos : Pos} {elts : List Expr} {kk : Nat} (hg : Gl X "enumerate") (hm : X.mg "enumerate" = none) (ha : PA X [e] ta) (hK : X.K = K := by rfl) (hs : starEach [e] X.env = [(false, eval e X.env)] := by rfl) :
    PI X (.Tuple elts kk tpos) (.Call (.Name "enumerate" p) [e] [] pos) (iEnum K ta) := by
  subst hK
  exact pi_enum hg hm ha hs
end
end Xia

set_option Elab.async false
set_option linter.all false
set_option maxRecDepth 100000
set_option maxHeartbeats 4000000
set_option autoImplicit false
/-! Own: how long a least word is; rows of parts. -/
namespace Xia
open PySem PySem.Spec PyProof.Rows L2 SX LamX
section
variable {zs : List Str} {e : List Nat}
theorem Trd.least_n (T : Trd zs e) : ((restS [] zs e).length : Int) = 2 * ((zs.length : Int) - 1) - (e.length : Int) := by
  have nB := inB_nil T
  have n := T.rest_n .nil nB
  have A := T.amb
  have nil_w : ([] : List Nat) ∈ wsO zs := (mem_ws T.s).mpr T.nil_mem
  have d := cnt_dst A T.ew _ [] rfl nil_w
  have f0 : fol [] [] = ([] : List Nat) := rfl
  have c1 : (wsO zs).countP (farB (goalsL (wsO zs) [] e) []) + 1 = (wsO zs).length := by
    have h1 : (wsO zs).countP (farB (goalsL (wsO zs) [] e) []) = (wsO zs).countP (fun y => decide (y ≠ [])) := by
      refine List.countP_congr fun y hy => ?_
      rw [far_iff, decide_eq_true_eq]
      constructor
      · rintro ⟨g, hg, k⟩ z
        subst z
        exact k (by cases g <;> rfl)
      · intro ne
        refine ⟨y, mem_goalsL.mpr (.inl ⟨hy, fun z => ne (List.mem_singleton.mp (show y ∈ [[]] from z))⟩), ?_⟩
        rw [pr_self, pr_long (p := []) (by cases y with | nil => exact absurd rfl ne | cons a b => show 0 < _ + 1; omega)]
        decide
    have h2 : (wsO zs).countP (fun y => decide (y ≠ [])) + (wsO zs).countP (fun y => decide (y = [])) = (wsO zs).length := by
      have := List.length_eq_countP_add_countP (fun y : List Nat => decide (y ≠ [])) (l := wsO zs)
      rw [this]
      congr 1
      refine List.countP_congr fun y _ => ?_
      simp
    have h3 : (wsO zs).countP (fun y => decide (y = [])) = 1 := by
      have a1 : (wsO zs).count [] ≤ 1 := List.nodup_iff_count.mp A.nd []
      have a2 : 0 < (wsO zs).count [] := List.count_pos_iff.mpr nil_w
      have a3 : (wsO zs).countP (fun y => decide (y = [])) = (wsO zs).count [] := by
        unfold List.count
        refine List.countP_congr fun y _ => ?_
        rw [decide_eq_true_eq, beq_iff_eq]
      omega
    omega
  rw [n]
  unfold costL costZ
  rw [f0, d, ← ws_len zs, ← c1]
  have l0 : lcp [] e = 0 := by
    have := lcp_l [] e
    simpa using this
  unfold dst
  rw [l0]
  simp only [List.length_nil]
  omega
theorem Trd.least_p (T : Trd zs e) : plc (restS [] zs e) = zs := T.rest_p .nil (inB_nil T)
theorem Trd.least_e (T : Trd zs e) : fol [] (restS [] zs e) = e := T.rest_e .nil (inB_nil T)
theorem Trd.least_l (T : Trd zs e) : IsL (restS [] zs e) := T.rest_l .nil (inB_nil T)
theorem least_ok (T : Trd zs e) : leastB zs e (.str (S (restS [] zs e))) = true := by
  rw [leastB_str, isW_S T.least_l, S_len, show (S (restS [] zs e)).cps.toList = restS [] zs e from rfl, T.least_p, T.least_e, decide_eq_true T.least_n, decide_eq_true ⟨rfl, rfl⟩]
  rfl
theorem plc_has (T : Trd zs e) : hasB zs (plc e) = true := by
  rw [hasB_iff]
  intro z hz
  obtain ⟨w, hw, rfl⟩ := mem_plc.mp hz
  obtain ⟨i, _, rfl⟩ := trodL_mem hw
  rw [fol_nil (T.e1.take i) (isP_take T.e2 i)]
  exact shut_pre (A := fun w => S w ∈ zs) T.cl T.en i
theorem plc_len_place {p : List Nat} (h : IsL p) (k : isP p = true) : (plc p).length = p.length + 1 := by
  rw [plc_place h k, List.length_map, List.length_range]
theorem has_plc (T : Trd zs e) : hasB (plc e) zs = decide (zs.length = e.length + 1) := by
  have l := plc_len_place T.e1 T.e2
  have Te : Trd (plc e) e := plc_trd T.e1 (T.word T.en).2.2 (mem_plc.mpr ⟨_, trodL_end _, by rw [fol_nil T.e1 T.e2]⟩)
  have h1 := hasB_iff.mp (plc_has T)
  have a1 := len_sub Te.nodup h1
  rw [Bool.eq_iff_iff, decide_eq_true_eq]
  constructor
  · intro h
    have a2 := len_sub T.nodup (hasB_iff.mp h)
    omega
  · intro h
    rw [has_both T Te (plc_has T) ?_]
    · exact has_self
    · refine hasB_iff.mpr fun z hz => ?_
      apply Classical.byContradiction
      intro nz
      have a3 : (z :: plc e).Nodup := List.nodup_cons.mpr ⟨nz, Te.nodup⟩
      have a4 := len_sub a3 (m := zs) fun y hy => by
        rcases List.mem_cons.mp hy with rfl | hy
        · exact hz
        · exact h1 y hy
      rw [List.length_cons] at a4
      omega
end
theorem joinL_flat : ∀ ls : List (List Nat), TL.joinL [] ls = ls.flatten
  | [] => rfl
  | [a] => by
    show a = [a].flatten
    simp
  | a :: b :: r => by
    have ih := joinL_flat (b :: r)
    show a ++ ([] ++ TL.joinL [] (b :: r)) = _
    rw [ih]
    simp
theorem join_parts (us : List (List Nat)) : Txt.join ("" : Str) (us.map S) = S us.flatten := by
  have e := join_S [] us
  rw [joinL_flat] at e
  exact e
theorem flat_le {us : List (List Nat)} {m : Nat} (h : ∀ u ∈ us, u.length ≤ m) : us.flatten.length ≤ m * us.length := by
  induction us with
  | nil => simp
  | cons u us ih =>
    rw [List.flatten_cons, List.length_append, List.length_cons, Nat.mul_succ]
    have := h u (List.mem_cons_self ..)
    have := ih fun x hx => h x (List.mem_cons_of_mem _ hx)
    omega
theorem flat_l {us : List (List Nat)} (h : ∀ u ∈ us, IsL u) : IsL us.flatten := fun c hc => by
  obtain ⟨u, hu, k⟩ := List.mem_flatten.mp hc
  exact h u hu c k
theorem strs_map (us : List (List Nat)) : (us.map fun u => PyData.str (S u)) = (us.map S).map .str := by
  rw [List.map_map]
  rfl
theorem lens_le {us : List (List Nat)} {m : Nat} (h : ∀ u ∈ us, u.length ≤ m) : ((us.map S).map (·.length)).sum ≤ m * us.length := by
  induction us with
  | nil => simp
  | cons u us ih =>
    rw [List.map_cons, List.map_cons, List.sum_cons, List.length_cons, Nat.mul_succ, S_len]
    have := h u (List.mem_cons_self ..)
    have := ih fun x hx => h x (List.mem_cons_of_mem _ hx)
    omega
theorem inB_own {u : List Nat} (hu : IsL u) (k : Nat) : inB (u.take k) (plc u) = true := by
  rw [inB_iff]
  intro w hw
  have : w ∈ trodL (u.take k ++ u.drop k) := trod_sub (hu.take k) (hu.drop k) hw
  rw [List.take_append_drop] at this
  exact mem_plc.mpr ⟨w, this, rfl⟩
theorem shows_treads {ds : List PyData} {n : Nat} (h : ∀ d ∈ ds, ∃ zs e, d = treadD zs (S e) ∧ Trd zs e) (l : ds.length ≤ 10) : Shows (.list ds) :=
  (nice_list (k := 2) (n := 809648) (m := 10) (fun d hd => by
    obtain ⟨zs, e, rfl, T⟩ := h d hd
    exact nice_trd T) l).shows (by decide) (by decide)
/-- anything small, shown -/
def Ok3 (d : PyData) : Prop := Nice 3 8200000 d
theorem ok_trd {zs : List Str} {e : List Nat} (T : Trd zs e) : Nice 2 809648 (treadD zs (S e)) := nice_trd T
theorem ok_S {u : List Nat} (h : IsL u) (l : u.length ≤ 1000) : Nice 2 809648 (.str (S u)) := (nice_str (m := 1000) ⟨_, rfl, h, l⟩).mono (by decide) (by decide)
theorem ok_b (b : Bool) : Nice 2 809648 (.bool b) := (nice_bool b).mono (by decide) (by decide)
theorem ok_n : Nice 2 809648 .none := nice_non.mono (by decide) (by decide)
theorem shows_few {ds : List PyData} (h : ∀ d ∈ ds, Nice 2 809648 d) (l : ds.length ≤ 10) : Shows (.list ds) := (nice_list (k := 2) (n := 809648) (m := 10) h l).shows (by decide) (by decide)
theorem shows_nice {d : PyData} (h : Nice 2 809648 d) : Shows d := h.shows (by decide) (by decide)
theorem atI_map {α β : Type} (f : α → β) (xs : List α) (i : Int) : atI (xs.map f) i = (atI xs i).map f := by
  unfold atI
  rw [List.length_map]
  cases ixN xs.length i with
  | none => rfl
  | some j => exact List.getElem?_map ..
end Xia

set_option Elab.async false
set_option linter.all false
set_option maxRecDepth 100000
set_option maxHeartbeats 4000000
set_option autoImplicit false
/-! Own: calls by the arguments' names. -/
namespace Xia
open PySem PySem.Spec PyProof.Rows L2 SX LamX
/-- the things at some places, in their order -/
def permL {α : Type} (is : List Nat) (xs : List α) : List α := is.filterMap fun i => xs[i]?
def permV {α : Type} (is : List Nat) (us xs : List α) : List α := match us with
  | [] => permL is xs
  | _ => []
structure DfnF (P : Program) (w : World) (K : PySem.W.Frag) (mg : Str → Option Value) (base : Heap) (CX : CXT) (k : Nat) (f : Addr) (fd : FuncData) (x : Str) (ps : List Str) (sp : Sp) : Prop where
  ok : FnOk P w K mg base CX k f fd ps sp
  mg_ : mg x = some (.ref f)
  kp : PySem.W.keepIn K (.ref f) = true
  b : Binds K fd ps []
structure DfnK (P : Program) (w : World) (K : PySem.W.Frag) (mg : Str → Option Value) (base : Heap) (CX : CXT) (k : Nat) (x : Str) (ps : List Str) (sp : Sp) (ks : List Str) (is : List Nat) : Prop where
  ex : ∃ (f : Addr) (fd : FuncData), FnOk P w K mg base CX k f fd ps sp ∧ mg x = some (.ref f) ∧ PySem.W.keepIn K (.ref f) = true ∧ KBinds K fd ps ks (permV is) (permV is)
section
variable {P : Program} {w : World} {K : PySem.W.Frag} {mg : Str → Option Value} {base : Heap} {CX : CXT} {x : Str} {st : Stmt} {f : Addr} {fd : FuncData} {N ps ks : List Str} {k : Nat} {sp : Sp} {is : List Nat}
theorem DfnF.mk0 (F : Fun K x x st f fd) (hm : mg x = some (.ref f)) (hb : Binds K fd ps []) (S : FnScope N ps (defScope st)) (len : ∀ vs H Q E, sp vs H Q E → vs.length = ps.length)
    (hbody : ∀ (cdv : Value) (A : Around) (outer : List Env) (s : Shared) (H : Hp) (vs : List V) (Q : VK) (E : XK), Room k (A.deeper (envOfC x (defScope st) s.heap.objs.size f cdv)) → sp vs H Q E →
      ∃ t, PSs (cxOf CX0 P w K mg base N x (defScope st) f cdv A outer s H E).nox (defBody st) t ∧ t { nx := fun _ H' => Q .non H', rt := Q } (L2.start N vs) H) : DfnF P w K mg base CX0 (k + 1) f fd x ps sp :=
  ⟨F.ok S len hbody, hm, F.kp, hb⟩
theorem DfnF.mkX (F : Fun K x x st f fd) (hm : mg x = some (.ref f)) (hb : Binds K fd ps []) (S : FnScope N ps (defScope st)) (len : ∀ vs H Q E, sp vs H Q E → vs.length = ps.length)
    (hbody : ∀ (cdv : Value) (A : Around) (outer : List Env) (s : Shared) (H : Hp) (vs : List V) (Q : VK) (E : XK), Room k (A.deeper (envOfC x (defScope st) s.heap.objs.size f cdv)) → sp vs H Q E →
      ∃ t, PSs (cxOf (L2.CX P w) P w K mg base N x (defScope st) f cdv A outer s H E) (defBody st) t ∧ t { nx := fun _ H' => Q .non H', rt := Q } (L2.start N vs) H) : DfnF P w K mg base (L2.CX P w) (k + 1) f fd x ps sp :=
  ⟨F.okX S len hbody, hm, F.kp, hb⟩
theorem DfnF.dfn (D : DfnF P w K mg base CX k f fd x ps sp) : Dfn P w K mg base CX k x ps sp := ⟨f, fd, D.ok, D.mg_, D.kp, D.b⟩
theorem DfnF.kw (D : DfnF P w K mg base CX k f fd x ps sp) (b : KBinds K fd ps ks (permV is) (permV is)) : DfnK P w K mg base CX k x ps sp ks is := ⟨f, fd, D.ok, D.mg_, D.kp, b⟩
theorem vals_at {vs : List V} {us : List Value} (h : Vals vs us) (i : Nat) : (∃ v u, vs[i]? = some v ∧ us[i]? = some u ∧ RelV v u) ∨ (vs[i]? = none ∧ us[i]? = none) := by
  induction h generalizing i with
  | nil => exact .inr ⟨rfl, rfl⟩
  | cons r t ih =>
    cases i with
    | zero => exact .inl ⟨_, _, rfl, rfl, r⟩
    | succ i => exact ih i
theorem vals_perm {vs : List V} {us : List Value} (h : Vals vs us) : ∀ is : List Nat, Vals (permL is vs) (permL is us)
  | [] => .nil
  | i :: is => by
    unfold permL
    rw [List.filterMap_cons, List.filterMap_cons]
    rcases vals_at h i with ⟨v, u, e1, e2, r⟩ | ⟨e1, e2⟩
    · rw [e1, e2]
      exact .cons r (vals_perm h is)
    · rw [e1, e2]
      exact vals_perm h is
theorem Fun.kbinds {qual : Str} (F : Fun K x qual st f fd)
    (h : ∀ (kV doc pm : Value) (an : Option Addr) (cdv ct : Value) (ws : List Value), (permL is ws).length = ps.length → bindArgs (PySem.W.fnOf x qual (defArgs st) (defBody st) (defScope st) .none kV doc pm an cdv ct) ⟨[], ks.zip ws⟩ = pure (ps.zip (permL is ws)))
    (hp : 0 < ps.length := by decide) : KBinds K fd ps ks (permV is) (permV is) := by
  obtain ⟨oc, od, kV, doc, pm, an, cdv, ct, osl, rfl, lk, hcd⟩ := F.ex
  refine ⟨fun s us ws _ hl => ?_, fun {vs us zs ws} h1 h2 => ?_⟩
  · cases us with
    | nil => exact .of_eq (h kV doc pm an cdv ct ws hl)
    | cons u us =>
      have hl : 0 = ps.length := hl
      omega
  · cases h1 with
    | nil => exact vals_perm h2 is
    | cons _ _ => exact .nil
end
def tCallP (sp : Sp) (is : List Nat) (E : XK) (tk : TA) : TE := fun σ H Q => tk σ H fun zs H1 => sp (permL is zs) H1 Q E
section
variable {X : Cx} {CX : CXT} {k : Nat} {x : Str} {ps ks : List Str} {is : List Nat} {sp : Sp} {E : XK} {p pos : Pos} {kws : List Keyword} {tk : TA}
theorem pCK (D : DfnK X.prog X.w X.K X.mg X.base CX k x ps sp ks is) (hr : Room k X.A) (hx : Passes CX X E) (hkw : PK X kws tk) (hg : Gl X x := by rfl) (hall : (backToKw pos (keywordEach kws X.env)).all (·.1.isSome) = true := by rfl) (hks : (backToKw pos (keywordEach kws X.env)).filterMap (·.1) = ks := by rfl)
    (hdb : (x == ("__debug__" : Str)) = false := by decide)
    (hpl : ((backTo pos (starEach [] X.env)).any (·.1) || (backToKw pos (keywordEach kws X.env)).any (·.1.isNone)) = false := by rfl) :
    PE X (.Call (.Name x p) [] kws pos) (tCallP sp is E tk) := by
  obtain ⟨f, fd, F, hm, hk, hb⟩ := D.ex
  refine ⟨fun pins s σ H Q I h => ?_⟩
  refine wpAny_Call_Name_kw (ld_glob I hg hm ?_ hdb)
  refine PySem.W.callWith_KW0 (h₀ := X.base) I.ok.mod.kin hk hall (thn (hkw.run pos pins s σ H _ I h) fun ws s2 ⟨zs, H2, I2, rz, q2⟩ => ⟨I2.kIn, ?_⟩) hpl
  rw [hks]
  exact run_fnk (us := []) (vs := []) F hr hb hx I2 .nil rz q2
end
section
variable {K : PySem.W.Frag} {T : List (Addr × Str)}
theorem dp_perm {H : Hp} {vs : List V} {ds : List PyData} (h : DpAll K H vs ds) : ∀ is : List Nat, DpAll K H (permL is vs) (permL is ds)
  | [] => .nil
  | i :: is => by
    unfold permL
    rw [List.filterMap_cons, List.filterMap_cons]
    cases e : vs[i]? with
    | some v =>
      obtain ⟨d, e2, w⟩ := dpAll_at h e
      rw [e2]
      exact .cons w (dp_perm h is)
    | none =>
      cases e2 : ds[i]? with
      | none => exact dp_perm h is
      | some d =>
        obtain ⟨v, e3, _⟩ := dpAll_at' h e2
        rw [e] at e3
        cases e3
def aCBP (is : List Nat) (o : List PyData → (PyData → Prop) → Prop) (aa : AA) : AE := fun δ G => aa δ fun ds δ1 => o (permL is ds) fun r => G r δ1
instance simCallP {sp : Sp} {is : List Nat} {E : XK} {o : List PyData → (PyData → Prop) → Prop} {ta : TA} {aa : AA} [ho : FnD K sp o] [ha : SimA K T ta aa] : SimE K T (tCallP sp is E ta) (aCBP is o aa) := ⟨fun S h q =>
  ha.run S h fun vs M1 H1 ds δ1 g1 f1 S1 w1 => ho.run S1.mu (dp_perm w1 is) g1 fun v H3 r' g3 s3 w3 => q _ _ _ _ _ g3 (f1.trans (Fr.of s3)) (S1.same s3) w3⟩
end
end Xia

set_option Elab.async false
set_option linter.all false
set_option maxRecDepth 100000
set_option maxHeartbeats 4000000
set_option autoImplicit false
/-! Own: small words for long rows of pairs. -/
namespace Xia
open PySem PySem.Spec PyProof.Rows L2 SX LamX
/-- append a value of which just P is told from then on -/
theorem s_app {ae : AE} {i : Nat} {rest : AS} {A : AEnds} {δ : List SD} {ds : List PyData} (P : PyData → Prop) (h : δ[i]? = some (.ac ds)) (hl : ds.length < sizeLine) (hv : ∀ G' : PyData → List SD → Prop, (∀ d, P d → G' d δ) → ae δ G')
    (g : ∀ d, P d → rest A (δ.set i (.ac (ds ++ [d])))) : aSeq (aApp i ae) rest A δ := by
  show aApp i ae { A with nx := rest A } δ
  unfold aApp
  rw [h]
  refine hv _ fun d hd => ?_
  show match δ[i]? with
    | some (.ac ds) => ds.length < sizeLine ∧ rest A (δ.set i (.ac (ds ++ [d])))
    | _ => False
  rw [h]
  exact ⟨hl, g d hd⟩
def Pair2 (d : PyData) : Prop := ∃ x, d = .tuple [x, x] ∧ Shows x
theorem PairsOk.add {n : Nat} {L : List PyData} {d : PyData} (P : PairsOk n L) (h : Pair2 d) : PairsOk (n + 1) (L ++ [d]) := by
  obtain ⟨x, rfl, s⟩ := h
  exact P.snoc rfl s
/-- letters drawn one by one -/
theorem lc_draw {z : Str} {u : List Nat} {δ0 : List SD} {p i : Nat} {m t : Nat} {G : List PyData → List SD → Prop} (hz : z.cps.toList = u) (zl : z.length ≤ sizeLine) (hu : IsL u) (ul : 0 < u.length) (um : u.length < 1000000) (ht : t ≤ 1000) (hm : m + t < 4000000000)
    (hp : ∀ k, wipeD (δ0.set p (.pe k)) [i] = (wipeD δ0 [i]).set p (.pe k)) (hs : ∀ k x, ((wipeD δ0 [i]).set p (.pe k)).set i x = ((wipeD δ0 [i]).set i x).set p (.pe k)) (hl : p < δ0.length) (ne : p ≠ i)
    (g : ∀ us s, Xia.IsL us → us.length = t → G ((us.map fun c => S [c]).map .str) ((δ0.set i s).set p (.pe (m + t)))) : True := trivial
theorem Trd.join_over {zs ys : List Str} {e : List Nat} (T : Trd zs e) (U : Trd ys e) (few : (ordS (zs ++ ys)).length ≤ 201) : Trd (ordS (zs ++ ys)) e := by
  have T0 := T.ended T.nil_mem
  have U0 := U.ended U.nil_mem
  have J := T0.join U0 (by rw [join_nil T U]; exact few)
  rw [join_nil T U] at J
  exact J.ended (memO.mpr (.inl T.en))
theorem shows_shiftD {zs ys : List Str} {e : List Nat} (T : Trd zs e) : Shows (shiftD zs ys) := (nice_shift T).shows (by decide) (by decide)
end Xia

set_option Elab.async false
set_option linter.all false
set_option maxRecDepth 100000
set_option maxHeartbeats 4000000
/-! Own: set(text): the signs of a text. -/
namespace Xia
open PySem PySem.Spec PyProof.Rows L2 SX LamX
/-- what stands in a set behind the first i keys, whose values are made on the way -/
structure HasT {P : Program} {w : World} {κ : Type} (Z : Grow P w κ) (kk : List κ) (i : Nat) (L : List (κ × Value)) : Prop where
  from_ : ∀ p ∈ L, p.1 ∈ kk.take i
  all : ∀ k ∈ kk.take i, k ∈ L.map (·.1)
  len : L.length ≤ i
  is : ∀ p ∈ L, ∀ h, Z.Is h p.1 p.2
theorem HasT.next {P : Program} {w : World} {κ : Type} {Z : Grow P w κ} {kk : List κ} {L L' : List (κ × Value)} {i : Nat} {k : κ} {v : Value} (g : HasT Z kk i L) (h : kk[i]? = some k) (hv : ∀ h, Z.Is h k v) (c1 : k ∈ L.map (·.1) → L' = L) (c2 : k ∉ L.map (·.1) → L'.Perm ((k, v) :: L)) : HasT Z kk (i + 1) L' := by
  have e : kk.take (i + 1) = kk.take i ++ [k] := by rw [List.take_succ, h]; rfl
  by_cases c : k ∈ L.map (·.1)
  · rw [c1 c]
    refine ⟨fun p hp => e ▸ List.mem_append_left _ (g.from_ p hp), fun p hp => ?_, Nat.le_succ_of_le g.len, g.is⟩
    rw [e] at hp
    rcases List.mem_append.mp hp with z | z
    · exact g.all p z
    · exact List.mem_singleton.mp z ▸ c
  · have pm := c2 c
    refine ⟨fun p hp => ?_, fun p hp => ?_, by rw [pm.length_eq]; exact Nat.succ_le_succ g.len, fun p hp => ?_⟩
    · rw [e]
      rcases List.mem_cons.mp (pm.mem_iff.mp hp) with rfl | z
      · exact List.mem_append_right _ List.mem_cons_self
      · exact List.mem_append_left _ (g.from_ p z)
    · rw [(pm.map (·.1)).mem_iff]
      rw [e] at hp
      rcases List.mem_append.mp hp with z | z
      · exact List.mem_cons_of_mem _ (g.all p z)
      · exact List.mem_singleton.mp z ▸ List.mem_cons_self
    · rcases List.mem_cons.mp (pm.mem_iff.mp hp) with rfl | z
      · exact hv
      · exact g.is p z
section
variable {P : Program} {w : World} {κ : Type} (Z : Grow P w κ) {A : Around} {E : Value → Shared → Prop} {s : Shared}
theorem grow_loopT {I : Addr} {fp wr : List Addr} {G : Array GenState → Array GenState → Prop} {n : Nat} {Pv : Nat → Value → Prop} {St : Nat → Shared → Prop} {Y : Result → Shared → Prop} (W : WalksS P w A.in1 I fp wr G n Pv St) (S0 : Addr) (Sfp : S0 ∉ fp) (kk : List κ) (hn : n = kk.length)
    (cap : n ≤ Z.cap) (val : ∀ i v, Pv i v → ∃ k, kk[i]? = some k ∧ ∀ h, Z.Is h k v) (h0 : Heap) (hS0 : h0.get? S0 = none) (wr0 : ∀ b ∈ wr, h0.get? b = none) (hu : A.in1.units < cLine) : ∀ (m i : Nat) (s : Shared) (L : List (κ × Value)), i + m = n → St i s →
      (∀ b o, h0.get? b = some o → s.heap.get? b = some o) → Z.R s.heap S0 L → HasT Z kk i L → (∀ s' L', Moved (S0 :: wr) G s s' → Z.R s'.heap S0 L' → HasT Z kk n L' → (∀ b o, h0.get? b = some o → s'.heap.get? b = some o) → Y (.ok (.ret .none)) s') →
      codeAny (model P w) A (.builtin "set.update.loop" ⟨[.ref S0, .ref I], []⟩) Y s := by
  have Swr : S0 ∉ wr := fun z => Sfp (W.sub _ z)
  have wrS : ∀ b ∈ wr, b ∈ S0 :: wr := fun b z => List.mem_cons_of_mem _ z
  have on : ∀ {s s' : Shared}, Moved wr G s s' → (∀ b o, h0.get? b = some o → s.heap.get? b = some o) → ∀ b o, h0.get? b = some o → s'.heap.get? b = some o := fun mv k b o e =>
    mv.heap b o (fun z => by rw [wr0 b z] at e; cases e) (k b o e)
  intro m
  induction m with
  | zero =>
    intro i s L hi hst k0 hR g hY
    obtain rfl : i = n := by omega
    refine codeAny_builtin F.entry_set_update_loop ?_
    rw [Around.under_plainId F.plain_set_update_loop _]
    show wpAny _ A.in1 (pyNext (.ref I) >>= _) _ _ s
    exact wpAny_bind (W.done s _ _ hst fun s' mv => wpAny_pure (hY s' L (mv.mono wrS) (Z.keep hR fun o e => mv.heap S0 o Swr e) g (on mv k0)))
  | succ m ih =>
    intro i s L hi hst k0 hR g hY
    refine codeAny_builtin F.entry_set_update_loop ?_
    rw [Around.under_plainId F.plain_set_update_loop _]
    show wpAny _ A.in1 (pyNext (.ref I) >>= _) _ _ s
    refine wpAny_bind (W.item i s _ _ (by omega) hst fun v s' hP hst' mv => ?_)
    obtain ⟨k, hk, hv⟩ := val i v hP
    have k1 := on mv k0
    show wpAny _ A.in1 (holding [v] (setAdd S0 v) >>= _) _ _ s'
    refine wpAny_bind (wpAny_holding (Z.add hu (Z.keep hR fun o e => mv.heap S0 o Swr e) (fun q hq => g.is q hq _) (hv _) (by have := g.len; omega) fun b h' L' tk tk0 sb R1 c1 c2 => ?_))
    have k2 : ∀ b o, h0.get? b = some o → h'.get? b = some o := fun b o e => (sb.2 b fun z => by rw [z, hS0] at e; cases e).trans (k1 b o e)
    refine wpAny_pure ⟨plainId_quiet F.plain_set_update_loop _, ih (i + 1) _ L' (by omega) (W.frame _ s' _ _ hst' tk0 fun b hb o e => (sb.2 b fun z => Sfp (z ▸ hb)).trans e) k2 R1 (g.next hk hv c1 c2) fun s'' L2 mv2 R2 g2 k3 => ?_⟩
    exact hY s'' L2 (Moved.trans W.gtrans ((mv.mono wrS).then_heap tk0 fun b o hb e => (sb.2 b fun z => hb (z ▸ List.mem_cons_self)).trans e) mv2) R2 g2 k3
set_option maxRecDepth 100000 in
set_option maxHeartbeats 3200000 in
theorem grow_set_text {x : Str} {tx : Tok} (kk : List κ) {Q : Value → Shared → Prop} (hh : A.handled = none) (size : x.cps.size = kk.length) (val : ∀ i v, SignAt x i v → ∃ k, kk[i]? = some k ∧ ∀ h, Z.Is h k v) (cap : kk.length ≤ Z.cap) (hu : A.units + 3 < cLine)
    (hQ : ∀ h' tk L, Z.R h' s.heap.objs.size L → HasT Z kk kk.length L → (∀ b o, s.heap.get? b = some o → h'.get? b = some o) → Q (.ref s.heap.objs.size) { s with heap := h', toks := tk }) : wpAny (model P w) A (call (.type "set") [.str x tx]) Q E s := by
  have none_from : ∀ b, s.heap.objs.size ≤ b → s.heap.get? b = none := fun b hb => by
    cases q : s.heap.get? b with
    | none => rfl
    | some o => exact absurd (Heap.lt_size q) (Nat.not_lt.mpr hb)
  obtain ⟨c, tl, mro⟩ := F.called_set.mro
  have made := F.called_set.made
  have sub := F.called_set.sub
  refine wpAny_call (codeAny_of_tree (show wpAny _ _ (callAny (.type "set") _) _ _ _ from ?_))
  refine wpAny_pure ⟨Code.quiet_builtin _ (by decide +kernel), codeAny_builtin F.entry_type_call ?_⟩
  rw [Around.under_plain (weight_type_call_type "set" [.str x tx] []) rfl]
  have t1 := F.called_set.notType
  have t2 := F.called_set.canCreate
  have t3 := F.typeCall_set_1 (.str x tx)
  repeat (any_goals (first | assumption | wp_step))
  refine codeAny_mono (code_set_led1 (.str x tx) (E := E) (Q₁ := fun obj s₁ => obj = .ref s.heap.objs.size ∧ s₁ = { s with heap := s.heap.push (newSetObj w) }) ⟨rfl, rfl⟩) fun r s₁ hr => ?_
  match r, hr with
  | .error e, hr => exact hr
  | .ok .next, hr => exact hr.elim
  | .ok .brk, hr => exact hr.elim
  | .ok .cont, hr => exact hr.elim
  | .ok (.ret obj), hr =>
    obtain ⟨rfl, rfl⟩ := hr
    have atS : (s.heap.push (newSetObj w)).get? s.heap.objs.size = some (newSetObj w) := Heap.get?_push_size _ rfl
    have tyS : Shared.TypeIs { s with heap := s.heap.push (newSetObj w) } (.ref s.heap.objs.size) "set" := ⟨_, atS, rfl⟩
    have i1 := F.called_set.init.lookup
    have i2 := F.called_set.init.bind (.ref s.heap.objs.size)
    repeat (any_goals (first | assumption | wp_step))
    refine codeAny_mono (codeAny_call_builtin (R := wants (fun r s₂ => r = .none ∧ ∃ h' tk L, s₂ = { s with heap := h', toks := tk } ∧ Z.R h' s.heap.objs.size L ∧ HasT Z kk kk.length L ∧ ∀ b o, s.heap.get? b = some o → h'.get? b = some o) E) F.called_set.init.plain F.entry_set_init (check_set_init_1 tyS ?_)) fun r₂ s₂ hr₂ => ?_
    · have u1 := F.sub_str_set
      have u2 := F.sub_str_frozenset
      have u3 : (Value.type "str" == Value.type "dict") = false := by decide
      unfold Builtin.«set.__init__» noKeywords Builtin.Frozenset.updateFrom
      generalize hy : pyIter = PI
      wp_walk
      subst hy
      refine wpAny_pyIter_str fun o St hW hst => wpAny_bind (wpAny_runValue ?_)
      have h3 : A.in1.in1.in1.handled = none := by simp [hh]
      have sz : (s.heap.push (newSetObj w)).objs.size = s.heap.objs.size + 1 := Heap.size_push ..
      have Sf : s.heap.objs.size ∉ [(s.heap.push (newSetObj w)).objs.size] := by
        rw [sz]
        intro z
        exact Nat.ne_of_lt (Nat.lt_succ_self _) (List.mem_singleton.mp z)
      refine grow_loopT Z ((hW _ h3).toS) s.heap.objs.size Sf kk size (by omega) val s.heap (none_from _ (Nat.le_refl _)) (fun b hb => none_from b (by rw [List.mem_singleton.mp hb, sz]; exact Nat.le_succ _)) hu x.cps.size 0 _ [] (by omega) ?_
        (fun b o e => Heap.get?_push_of_some _ (Heap.get?_push_of_some _ e)) (Z.fresh (Heap.get?_push_of_some _ atS)) ⟨(fun p hp => nomatch hp), (fun p hp => nomatch (show p ∈ [] from hp)), Nat.le_refl _, fun p hp => nomatch hp⟩ fun s' L mv R g k => ?_
      · exact hst
      · obtain ⟨h', g2, d', tk', os'⟩ := s'
        cases (show g2 = s.gens from mv.gens)
        cases (show d' = s.drawn from mv.drawn)
        cases (show os' = s.os from mv.os)
        rw [size] at g
        show wpAny _ _ _ _ _ _
        exact wpAny_pure (show wpAny _ _ (ret Value.none) _ _ _ from wpAny_pure ⟨rfl, h', tk', L, rfl, R, g, k⟩)
    · match r₂, hr₂ with
      | .error e, hr => exact hr
      | .ok .next, hr => exact hr.elim
      | .ok .brk, hr => exact hr.elim
      | .ok .cont, hr => exact hr.elim
      | .ok (.ret r), hr =>
        obtain ⟨rfl, h', tk, L, rfl, R, g, k⟩ := hr
        repeat (any_goals (first | assumption | wp_step))
        exact hQ h' tk L R g k
end
section
variable {X : Cx}
/-- set(text) -/
def rSetTxt (P : Program) (w : World) : List V → Hp → VK → Prop := fun xs H Q => ∃ z : Str, xs = [.str z] ∧ z.length ≤ 4000 ∧
  ∀ a B, H a = none → (B.map (·.1)).Nodup → (∀ b ∈ B, ∃ c ∈ z.cps.toList, b = (S [c], V.str (S [c]))) → (∀ c ∈ z.cps.toList, S [c] ∈ B.map (·.1)) → Q (.ref a) (upd H a (SetG (txtSet P w) a B))
theorem cSetTxt (hu : X.A.units + 64 < cLine) (hc : X.calm = true := by rfl) {P : Program} {w : World} (hP : X.prog = P := by rfl) (hw : X.w = w := by rfl) : CallR X (.type "set") (rSetTxt P w) := by
  subst hP hw
  intro pins s σ H xs us Q I r h
  obtain ⟨z, rfl, zl, q⟩ := h
  have e1 : ∃ t, us = [.str z t] := by
    cases r with
    | cons a b =>
      cases b
      obtain ⟨t, rfl⟩ := a
      exact ⟨t, rfl⟩
  obtain ⟨t, rfl⟩ := e1
  have lz := str_len z
  refine grow_set_text (txtSet X.prog X.w) (z.cps.toList.map fun c => S [c]) (I.ok.hd hc) (by rw [List.length_map]; simp) (fun i v hv => ?_) (by rw [List.length_map]; show _ ≤ 4000; omega) (by omega) fun h' tk L R g k => ?_
  · obtain ⟨c, u, e, rfl⟩ := hv
    refine ⟨S [c], by rw [List.getElem?_map, Array.getElem?_toList, e]; rfl, fun h => strKind_is _ _ _ _⟩
  · obtain ⟨B, h1, h2, h3⟩ := pick_back (B := (z.cps.toList.map fun c => S [c]).map fun y => (y, V.str y)) L fun p hp => by
      have m := List.mem_of_mem_take (g.from_ p hp)
      refine ⟨(p.1, V.str p.1), List.mem_map.mpr ⟨_, m, rfl⟩, rfl, ?_⟩
      obtain ⟨tk, e⟩ := Value.isStrOf_shape (g.is p hp s.heap)
      exact ⟨tk, e⟩
    have nm := (txtSet X.prog X.w).nd R
    refine ⟨.ref s.heap.objs.size, upd H s.heap.objs.size (SetG (txtSet X.prog X.w) s.heap.objs.size B), I.laid (t' := tk) k (Nat.le_refl _) (setG_new R h2 h3), rfl, q _ B (I.hok.fresh (Nat.le_refl _)) (h2 ▸ nm) (fun b hb => ?_) fun c hc2 => ?_⟩
    · obtain ⟨y, hy, e⟩ := List.mem_map.mp (h1 b hb)
      obtain ⟨c, hc2, rfl⟩ := List.mem_map.mp hy
      exact ⟨c, hc2, e.symm⟩
    · rw [← h2]
      exact g.all _ (by rw [List.take_length]; exact List.mem_map.mpr ⟨c, hc2, rfl⟩)
end
end Xia

set_option Elab.async false
set_option linter.all false
set_option maxRecDepth 100000
set_option maxHeartbeats 4000000
set_option autoImplicit false
/-! Own: on the first of the shortest walks each place is left by letters in their order. -/
namespace Xia
open PySem PySem.Spec PyProof.Rows L2 SX LamX
/-- the letters by which a place is left in the first i steps -/
def dep (r : List Nat) (i : Nat) (p : List Nat) : List Nat := ((List.range i).filter fun k => decide (fol [] (r.take k) = p)).map fun k => r.getD k 0
theorem dep_zero (r : List Nat) (p : List Nat) : dep r 0 p = [] := rfl
theorem dep_succ (r : List Nat) (i : Nat) (p : List Nat) : dep r (i + 1) p = dep r i p ++ if fol [] (r.take i) = p then [r.getD i 0] else [] := by
  unfold dep
  rw [List.range_succ, List.filter_append, List.map_append]
  congr 1
  by_cases h : fol [] (r.take i) = p
  · rw [if_pos h, List.filter_cons, if_pos (decide_eq_true h)]
    rfl
  · rw [if_neg h, List.filter_cons, if_neg (by simp [h])]
    rfl
section
variable {zs : List Str} {e : List Nat}
/-- where the walk is behind i letters, and what is left to go -/
def Pr (r : List Nat) (i : Nat) : List Nat := fol [] (r.take i)
def Gr (zs : List Str) (e : List Nat) (r : List Nat) (i : Nat) : List (List Nat) := gfol e (goalsL (wsO zs) [] e) [] (r.take i)
theorem Gr_sub {r : List Nat} {i j : Nat} (h : i ≤ j) : ∀ g ∈ Gr zs e r j, g ∈ Gr zs e r i := fun g hg => by
  obtain ⟨h1, h2⟩ := mem_gfol.mp hg
  refine mem_gfol.mpr ⟨h1, h2.imp id fun k m m1 m2 => ?_⟩
  rw [List.length_take] at m2
  have := k m m1 (by rw [List.length_take]; omega)
  rwa [List.take_take, Nat.min_eq_left (by omega)] at this ⊢
theorem Pr_succ {r : List Nat} {i c : Nat} (h : r[i]? = some c) : Pr r (i + 1) = stp (Pr r i) c := by
  unfold Pr
  rw [List.take_succ, h, fol_app]
  rfl
theorem walk_at (T : Trd zs e) {i c : Nat} (h : (restS [] zs e)[i]? = some c) :
    Way (wsO zs) (Gr zs e (restS [] zs e) i) (Pr (restS [] zs e) i) e ∧ nxtG (Gr zs e (restS [] zs e) i) (Pr (restS [] zs e) i) e = some c := by
  have nB := inB_nil T
  have X := way_of T.amb T.ew .nil (in_ws T nB)
  obtain ⟨a1, a2, a3, a4, a5⟩ := X.rest
  have il := (List.getElem?_eq_some_iff.mp h).1
  have hr : rst (wsO zs) (goalsL (wsO zs) [] e) (fol [] []) e = (restS [] zs e).take i ++ (restS [] zs e).drop i := (List.take_append_drop _ _).symm
  have k := rst_app X hr
  have X2 : Way (wsO zs) (gfol e (goalsL (wsO zs) [] e) (fol [] []) ((restS [] zs e).take i)) (fol (fol [] []) ((restS [] zs e).take i)) e := X.walk (T.least_l.take i) fun j hj => by
    rw [List.length_take] at hj
    rw [List.take_take, Nat.min_eq_left (by omega)]
    exact a4 j (by show j ≤ (restS [] zs e).length; omega)
  refine ⟨X2, X2.first (r := (restS [] zs e).drop (i + 1)) ?_⟩
  refine k.trans ?_
  rw [List.drop_eq_getElem_cons il, (List.getElem?_eq_some_iff.mp h).2]
/-- the side of an edge changes just by going over it -/
theorem flip_at {r : List Nat} {y : List Nat} : ∀ (d i : Nat), i + d ≤ r.length → pr y (Pr r i) ≠ pr y (Pr r (i + d)) → ∃ k c, i ≤ k ∧ k < i + d ∧ r[k]? = some c ∧ edg (Pr r k) c = y ∧ pr y (Pr r k) = pr y (Pr r i)
  | 0, i, _, h => absurd rfl h
  | d + 1, i, l, h => by
    by_cases c : pr y (Pr r (i + d)) = pr y (Pr r i)
    · have hk : r[i + d]? = some r[i + d] := List.getElem?_eq_getElem (by omega)
      refine ⟨i + d, _, by omega, by omega, hk, ?_, c⟩
      apply Classical.byContradiction
      intro ne
      have e := pr_ne (p := Pr r (i + d)) (c := r[i + d]) (y := y) (fun z => ne z.symm)
      rw [← Pr_succ hk] at e
      exact h (by rw [← c, ← e]; rfl)
    · obtain ⟨k, c2, k1, k2, k3⟩ := flip_at d i (by omega) fun z => c z.symm
      exact ⟨k, c2, k1, by omega, k3⟩
/-- letters that lead not home come in order -/
theorem rise (T : Trd zs e) {i j c d : Nat} (ij : i < j) (hi : (restS [] zs e)[i]? = some c) (hj : (restS [] zs e)[j]? = some d) (same : Pr (restS [] zs e) i = Pr (restS [] zs e) j) (nh : tow (Pr (restS [] zs e) j) e ≠ some d) : c < d := by
  obtain ⟨Xi, ni⟩ := walk_at T hi
  obtain ⟨Xj, nj⟩ := walk_at T hj
  have jl := (List.getElem?_eq_some_iff.mp hj).1
  -- d was ahead all the time
  have aj : aheadB (Gr zs e (restS [] zs e) j) (Pr (restS [] zs e) j) e d = true := by
    unfold nxtG at nj
    cases h : letC.find? (aheadB (Gr zs e (restS [] zs e) j) (Pr (restS [] zs e) j) e) with
    | none => rw [h] at nj; exact absurd nj nh
    | some c' =>
      rw [h] at nj
      cases nj
      exact List.find?_some h
  obtain ⟨_, g, hg, far⟩ := ahead_iff.mp aj
  have hd : d ∈ letC := (Xj.W.next nj).1
  have ai : aheadB (Gr zs e (restS [] zs e) i) (Pr (restS [] zs e) i) e d = true := ahead_iff.mpr ⟨by rw [same]; exact nh, g, Gr_sub (Nat.le_of_lt ij) g hg, by rw [same]; exact far⟩
  have fi : letC.find? (aheadB (Gr zs e (restS [] zs e) i) (Pr (restS [] zs e) i) e) = some c := by
    unfold nxtG at ni
    cases h : letC.find? (aheadB (Gr zs e (restS [] zs e) i) (Pr (restS [] zs e) i) e) with
    | none => exact absurd ai (by have := List.find?_eq_none.mp h d hd; exact this)
    | some c' =>
      rw [h] at ni
      cases ni
      rfl
  have le : c ≤ d := by
    apply Nat.le_of_not_lt
    intro lt
    have := find_first letC_up fi d hd lt
    rw [ai] at this
    cases this
  refine Nat.lt_of_le_of_ne le fun cd => ?_
  subst cd
  -- the walk came back over the edge
  have nhi : tow (Pr (restS [] zs e) i) e ≠ some c := (ahead_iff.mp (List.find?_some fi)).1
  have eP : pr (edg (Pr (restS [] zs e) i) c) e = pr (edg (Pr (restS [] zs e) i) c) (Pr (restS [] zs e) i) := Decidable.of_not_not fun z => nhi ((tow_sep Xi.W.p1 (Xi.W.g1 e Xi.W.en).2 hd).mpr z)
  generalize hy : edg (Pr (restS [] zs e) i) c = y at eP
  have out : pr y (Pr (restS [] zs e) (i + 1)) = !pr y (Pr (restS [] zs e) i) := by
    rw [Pr_succ hi, ← hy]
    exact pr_eq _ _
  have back : pr y (Pr (restS [] zs e) (i + 1)) ≠ pr y (Pr (restS [] zs e) (i + 1 + (j - (i + 1)))) := by
    rw [show i + 1 + (j - (i + 1)) = j by omega, ← same, out]
    cases pr y (Pr (restS [] zs e) i) <;> decide
  obtain ⟨k, ck, k1, k2, k3, k4, k5⟩ := flip_at (j - (i + 1)) (i + 1) (by omega) back
  obtain ⟨Xk, nk⟩ := walk_at T k3
  have hck : ck ∈ letC := (Xk.W.next nk).1
  have tk : tow (Pr (restS [] zs e) k) e = some ck := (tow_sep Xk.W.p1 (Xk.W.g1 e Xk.W.en).2 hck).mpr (by
    rw [k4, k5, out, eP]
    cases pr y (Pr (restS [] zs e) i) <;> decide)
  have hm := Xk.W.home nk tk g (Gr_sub (by omega) g hg)
  rw [k4, k5, out] at hm
  rw [← same, hy] at far
  revert hm far
  cases pr y g <;> cases pr y (Pr (restS [] zs e) i) <;> decide
/-- a place that was left homeward is not come to again -/
theorem no_more (T : Trd zs e) {j k d : Nat} (jk : j < k) (kl : k ≤ (restS [] zs e).length) (hj : (restS [] zs e)[j]? = some d) (same : Pr (restS [] zs e) k = Pr (restS [] zs e) j) : tow (Pr (restS [] zs e) j) e ≠ some d := fun hm => by
  obtain ⟨Xj, nj⟩ := walk_at T hj
  have all := Xj.W.home nj hm
  generalize hy : edg (Pr (restS [] zs e) j) d = y at all
  have out : pr y (Pr (restS [] zs e) (j + 1)) = !pr y (Pr (restS [] zs e) j) := by
    rw [Pr_succ hj, ← hy]
    exact pr_eq _ _
  have back : pr y (Pr (restS [] zs e) (j + 1)) ≠ pr y (Pr (restS [] zs e) (j + 1 + (k - (j + 1)))) := by
    rw [show j + 1 + (k - (j + 1)) = k by omega, same, out]
    cases pr y (Pr (restS [] zs e) j) <;> decide
  obtain ⟨m, cm, m1, m2, m3, m4, m5⟩ := flip_at (k - (j + 1)) (j + 1) (by omega) back
  obtain ⟨Xm, nm⟩ := walk_at T m3
  obtain ⟨_, g, hg, far⟩ := Xm.W.next nm
  have a := all g (Gr_sub (by omega) g hg)
  rw [m4, m5, out] at far
  revert a far
  cases pr y g <;> cases pr y (Pr (restS [] zs e) j) <;> decide
theorem tow_self (p : List Nat) : tow p p = none := by
  unfold tow
  rw [if_pos rfl]
/-- the times at which a place is left -/
theorem times_up (n : Nat) (f : Nat → Bool) : ((List.range n).filter f).Pairwise (· < ·) := List.Pairwise.filter _ List.pairwise_lt_range
theorem first_rows (T : Trd zs e) (p : List Nat) : (if p = e then dep (restS [] zs e) (restS [] zs e).length p else (dep (restS [] zs e) (restS [] zs e).length p).dropLast).Pairwise (· < ·) := by
  have up := times_up (restS [] zs e).length fun k => decide (fol [] ((restS [] zs e).take k) = p)
  have mem : ∀ k ∈ (List.range (restS [] zs e).length).filter (fun k => decide (fol [] ((restS [] zs e).take k) = p)), ∃ c, (restS [] zs e)[k]? = some c ∧ (restS [] zs e).getD k 0 = c ∧ Pr (restS [] zs e) k = p := fun k hk => by
    obtain ⟨h1, h2⟩ := List.mem_filter.mp hk
    have kl := List.mem_range.mp h1
    refine ⟨_, List.getElem?_eq_getElem kl, ?_, of_decide_eq_true h2⟩
    rw [List.getD_eq_getElem?_getD, List.getElem?_eq_getElem kl]
    rfl
  unfold dep
  generalize (List.range (restS [] zs e).length).filter (fun k => decide (fol [] ((restS [] zs e).take k) = p)) = tm at up mem
  by_cases pe : p = e
  · rw [if_pos pe, List.pairwise_map]
    refine List.Pairwise.imp_of_mem (fun {i j} hi hj ij => ?_) up
    obtain ⟨c, c1, c2, c3⟩ := mem i hi
    obtain ⟨d, d1, d2, d3⟩ := mem j hj
    rw [c2, d2]
    exact rise T ij c1 d1 (c3.trans d3.symm) (by rw [d3, pe, tow_self]; exact fun z => nomatch z)
  · rw [if_neg pe, ← List.map_dropLast, List.pairwise_map]
    have sub : ∀ x ∈ tm.dropLast, x ∈ tm := fun x hx => by rw [List.dropLast_eq_take] at hx; exact List.mem_of_mem_take hx
    refine List.Pairwise.imp_of_mem (fun {i j} hi hj ij => ?_) (List.Pairwise.sublist (List.dropLast_sublist tm) up)
    obtain ⟨c, c1, c2, c3⟩ := mem i (sub i hi)
    obtain ⟨d, d1, d2, d3⟩ := mem j (sub j hj)
    rw [c2, d2]
    refine rise T ij c1 d1 (c3.trans d3.symm) ?_
    have ne : tm ≠ [] := fun z => by rw [z] at hj; cases hj
    have lastm := List.getLast_mem ne
    obtain ⟨c', e1, _, e3⟩ := mem _ lastm
    have lt : j < tm.getLast ne := by
      have hs := List.dropLast_concat_getLast ne
      rw [← hs, List.pairwise_append] at up
      exact up.2.2 j hj _ (List.mem_singleton.mpr rfl)
    exact no_more T lt (Nat.le_of_lt (List.getElem?_eq_some_iff.mp e1).1) d1 (e3.trans d3.symm)
end
/-! ### the dict of the letters -/
def knownD (r : List Nat) (i : Nat) (ps : List (List Nat)) : List (Key × PyData) := ps.map fun p => (.inr (S p), .str (S (dep r i p)))
theorem known_len (r : List Nat) (i : Nat) (ps : List (List Nat)) : (knownD r i ps).length = ps.length := List.length_map ..
theorem known_get {r : List Nat} {i : Nat} {q : List Nat} : ∀ {ps : List (List Nat)}, getP (knownD r i ps) (.inr (S q)) = if q ∈ ps then some (.str (S (dep r i q))) else none
  | [] => rfl
  | p :: ps => by
    unfold knownD
    rw [List.map_cons]
    by_cases h : p = q
    · subst h
      rw [getP_pos, if_pos (List.mem_cons_self ..)]
    · rw [getP_neg (by intro z; exact h (S_inj (Sum.inr.inj z)))]
      have := known_get (r := r) (i := i) (q := q) (ps := ps)
      unfold knownD at this
      rw [this]
      by_cases c : q ∈ ps
      · rw [if_pos c, if_pos (List.mem_cons_of_mem _ c)]
      · rw [if_neg c, if_neg (fun z => (List.mem_cons.mp z).elim (fun e => h e.symm) c)]
theorem known_any {r : List Nat} {i : Nat} {q : List Nat} {ps : List (List Nat)} : ((knownD r i ps).any fun x => decide (x.1 = .inr (S q))) = decide (q ∈ ps) := by
  unfold knownD
  rw [List.any_map, Bool.eq_iff_iff, List.any_eq_true, decide_eq_true_eq]
  constructor
  · rintro ⟨y, hy, k⟩
    have k : decide ((Sum.inr (S y) : Key) = .inr (S q)) = true := k
    rw [← S_inj (Sum.inr.inj (of_decide_eq_true k))]
    exact hy
  · intro h
    exact ⟨q, h, by show decide ((Sum.inr (S q) : Key) = .inr (S q)) = true; exact decide_eq_true rfl⟩
/-- what is known behind one step more -/
theorem known_put {r : List Nat} {i : Nat} {ps : List (List Nat)} {c : Nat} (hc : r[i]? = some c) (out : ∀ p, p ∉ ps → dep r i p = []) :
    putP (knownD r i ps) (.inr (S (Pr r i))) (.str (S (dep r i (Pr r i) ++ [c]))) = knownD r (i + 1) (addL ps (Pr r i)) := by
  have gd : r.getD i 0 = c := by
    rw [List.getD_eq_getElem?_getD, hc]
    rfl
  have hd : dep r (i + 1) (Pr r i) = dep r i (Pr r i) ++ [c] := by
    rw [dep_succ, if_pos (show fol [] (r.take i) = Pr r i from rfl), gd]
  have ho : ∀ p, p ≠ Pr r i → dep r (i + 1) p = dep r i p := fun p h => by
    rw [dep_succ, if_neg (fun z => h z.symm), List.append_nil]
  unfold putP addL
  rw [known_any]
  by_cases h : Pr r i ∈ ps
  · rw [if_pos (decide_eq_true h), if_pos h]
    unfold knownD
    rw [List.map_map]
    refine List.map_congr_left fun p hp => ?_
    show (if (Sum.inr (S p) : Key) = .inr (S (Pr r i)) then ((Sum.inr (S p) : Key), PyData.str (S (dep r i (Pr r i) ++ [c]))) else (Sum.inr (S p), PyData.str (S (dep r i p)))) = _
    by_cases k : p = Pr r i
    · subst k
      rw [if_pos rfl, hd]
    · rw [if_neg (by intro z; exact k (S_inj (Sum.inr.inj z))), ho p k]
  · rw [if_neg (by rw [decide_eq_false h]; decide), if_neg h]
    unfold knownD
    rw [List.map_append]
    congr 1
    · refine List.map_congr_left fun p hp => ?_
      rw [ho p (fun z => h (z ▸ hp))]
    · rw [List.map_singleton, hd]
theorem known_out {r : List Nat} {i : Nat} {ps : List (List Nat)} (out : ∀ p, p ∉ ps → dep r i p = []) : ∀ p, p ∉ addL ps (Pr r i) → dep r (i + 1) p = [] := fun p h => by
  have h1 : p ∉ ps := fun z => h (mem_addL.mpr (.inl z))
  have h2 : p ≠ Pr r i := fun z => h (mem_addL.mpr (.inr z))
  rw [dep_succ, out p h1, if_neg (fun z => h2 z.symm)]
  rfl
theorem dep_l {r : List Nat} (hr : IsL r) : ∀ (i : Nat) (p : List Nat), i ≤ r.length → IsL (dep r i p)
  | 0, _, _ => .nil
  | i + 1, p, h => by
    rw [dep_succ]
    refine (dep_l hr i p (by omega)).app ?_
    by_cases c : fol [] (r.take i) = p
    · rw [if_pos c]
      refine .one ?_
      rw [List.getD_eq_getElem?_getD, List.getElem?_eq_getElem (by omega)]
      exact hr _ (List.getElem_mem _)
    · rw [if_neg c]
      exact .nil
theorem dep_le (r : List Nat) : ∀ (i : Nat) (p : List Nat), (dep r i p).length ≤ i
  | 0, _ => Nat.le_refl _
  | i + 1, p => by
    rw [dep_succ, List.length_append]
    have := dep_le r i p
    split
    · show _ + 1 ≤ _; omega
    · show _ + 0 ≤ _; omega
/-- rising signs are in order as they stand -/
theorem ord_rise {u : List Nat} (h : u.Pairwise (· < ·)) : ordS (u.map fun c => S [c]) = u.map fun c => S [c] := by
  refine ordS_id ?_ ?_
  · rw [List.nodup_iff_pairwise_ne, List.pairwise_map]
    refine h.imp fun {a b} lt z => ?_
    have := (List.cons.inj (S_inj z)).1
    omega
  · rw [List.pairwise_map]
    refine h.imp fun {a b} lt => ?_
    refine .inr ⟨rfl, ?_⟩
    show [a] ≤ [b]
    rw [← List.not_lt, List.cons_lt_cons_iff]
    rintro (k | ⟨_, k⟩)
    · omega
    · exact absurd k (List.not_lt_nil _)
def dIsFirst : List PyData → (PyData → Prop) → Prop := fun ds G => ∃ r e, ds = [.str (S r), .str (S e)] ∧ IsL r ∧ r.length ≤ 900 ∧ (∀ p, (if p = e then dep r r.length p else (dep r r.length p).dropLast).Pairwise (· < ·)) ∧ G (.bool true)
end Xia

set_option Elab.async false
set_option linter.all false
set_option maxRecDepth 100000
set_option maxHeartbeats 4000000
set_option autoImplicit false
/-! Own: list(text), sorted(set(text)), at the level of data. -/
namespace Xia
open PySem PySem.Spec PyProof.Rows L2 SX LamX
def rListTxt : List V → Hp → VK → Prop := fun xs H Q => ∃ z : Str, xs = [.str z] ∧ z.length ≤ sizeLine ∧ ∀ l, H l = none → Q (.ref l) (upd H l (.lst (z.cps.toList.map fun c => V.str (S [c]))))
section
variable {X : Cx}
theorem signs_vals {x : Str} {acc : Array Value} {n : Nat} (h : ItemsOf (SignAt x) acc n) (hn : x.cps.size = n) : Vals (x.cps.toList.map fun c => V.str (S [c])) acc.toList := by
  obtain ⟨h1, h2⟩ := h
  have key : ∀ (us : List Nat) (vs : List Value), us.length = vs.length → (∀ (j c : Nat) (v : Value), us[j]? = some c → vs[j]? = some v → RelV (V.str (S [c])) v) → Vals (us.map fun c => V.str (S [c])) vs := by
    intro us
    induction us with
    | nil =>
      intro vs l _
      cases vs with
      | nil => exact .nil
      | cons _ _ => cases l
    | cons c us ih =>
      intro vs l k
      cases vs with
      | nil => cases l
      | cons v vs => exact .cons (k 0 c v rfl rfl) (ih vs (Nat.succ.inj l) fun j c v e1 e2 => k (j + 1) c v e1 e2)
  refine key _ _ (by simp [h1, hn]) fun j c v e1 e2 => ?_
  rw [Array.getElem?_toList] at e1 e2
  obtain ⟨c', u, e3, rfl⟩ := h2 j v e2
  rw [e1] at e3
  cases e3
  exact ⟨u, rfl⟩
theorem cListTxt (hc : X.calm = true := by rfl) : CallR X (.type "list") rListTxt := by
  intro pins s σ H xs us Q I r h
  obtain ⟨z, rfl, zl, q⟩ := h
  have e1 : ∃ t, us = [.str z t] := by
    cases r with
    | cons a b =>
      cases b
      obtain ⟨t, rfl⟩ := a
      exact ⟨t, rfl⟩
  obtain ⟨t, rfl⟩ := e1
  refine call_list_str (I.ok.hd hc) z t (fun h' tk acc c' kp e it => ?_) (by rw [← Array.length_toList, str_len]; exact zl)
  refine ⟨.ref s.heap.objs.size, _, I.laid (t' := tk) kp (Nat.le_refl _) (show ObjOk X.prog X.w _ h' _ (.lst (z.cps.toList.map fun c => V.str (S [c]))) from ⟨by rw [List.length_map, str_len]; exact zl, acc.toList, c', signs_vals it rfl, e⟩), rfl, q _ (I.hok.fresh (Nat.le_refl _))⟩
end
section
variable {K : PySem.W.Frag} {T : List (Addr × Str)}
theorem dp_signs (H : Hp) : ∀ u : List Nat, DpAll K H (u.map fun c => V.str (S [c])) ((u.map fun c => S [c]).map .str)
  | [] => .nil
  | c :: u => .cons (.str _) (dp_signs H u)
/-- list(text) -/
def alListTxt (ae : AE) : AA := fun δ G => ae δ fun d δ1 => match d with
  | .str z => z.length ≤ sizeLine ∧ G ((z.cps.toList.map fun c => S [c]).map .str) δ1
  | _ => False
instance simListTxt {te : TE} {ae : AE} [h1 : SimE K T te ae] : SimL K T (tCB rListTxt (tCons te tNil)) (alListTxt ae) := ⟨fun S h q => h1.run S h fun v M1 H1 d δ1 g1 f1 S1 w1 => by
  split at g1
  · cases w1
    refine ⟨_, rfl, g1.1, fun l nl => ?_⟩
    obtain ⟨ok, nB, fr, S2⟩ := S1.enter _ nl
    exact q _ _ _ _ _ _ g1.2 (f1.trans fr) S2 (dp_signs _ _) ok nB
  · exact g1.elim⟩
theorem ones_sort {zs m : List Str} (h1 : ∀ z ∈ m, z ∈ zs) (one : ∀ z ∈ zs, z.length = 1) (e : (m.mergeSort fun x y => decide ((x.length : Int) ≤ y.length)) = ordS zs) : m = ordS zs := by
  rw [← e]
  refine (List.mergeSort_of_pairwise ?_).symm
  refine List.pairwise_of_forall_mem_list fun a ha b hb => ?_
  rw [one a (h1 a ha), one b (h1 b hb)]
  decide
/-- sorted(set(text)) -/
def alSortTxt (ae : AE) : AA := fun δ G => ae δ fun d δ1 => match d with
  | .str z => z.length ≤ 4000 ∧ G ((ordS (z.cps.toList.map fun c => S [c])).map .str) δ1
  | _ => False
instance simSortTxt {P : Program} {w : World} {te : TE} {ae : AE} [h1 : SimE K T te ae] : SimL K T (tCB (rSortG K (txtSet P w)) (tCons (tCB (rSetTxt P w) (tCons te tNil)) tNil)) (alSortTxt ae) := ⟨fun S h q => h1.run S h fun v M1 H1 d δ1 g1 f1 S1 w1 => by
  split at g1
  · rename_i z
    cases w1
    refine ⟨z, rfl, g1.1, fun a B na nd sub all => ?_⟩
    have key : ∀ b ∈ B, ∃ c ∈ z.cps.toList, b.1 = SX.S [c] ∧ b.2 = V.str (SX.S [c]) := fun b hb => by
      obtain ⟨c, hc, rfl⟩ := sub b hb
      exact ⟨c, hc, rfl, rfl⟩
    refine ⟨a, B, fun z => .str z, rfl, upd_same, fun b hb => ?_, PySem.W.AllAlike.of fun _ _ => rfl, PySem.W.Sortable.others fun _ => ⟨(fun e => nomatch e), fun _ e => nomatch e⟩, fun p1 B' pB nd' np1 => ?_⟩
    · obtain ⟨c, hc, e1, e2⟩ := key b hb
      rw [e1, e2]
      exact ⟨.str _, Nat.zero_le _⟩
    obtain ⟨m, e1, e2, e3⟩ := txt_ord (zs := z.cps.toList.map fun c => SX.S [c]) pB nd' (fun b hb => by
      obtain ⟨c, hc, rfl⟩ := sub b hb
      exact List.mem_map.mpr ⟨_, List.mem_map.mpr ⟨c, hc, rfl⟩, rfl⟩) (fun b hb => by
      obtain ⟨y, hy, rfl⟩ := List.mem_map.mp hb
      obtain ⟨c, hc, rfl⟩ := List.mem_map.mp hy
      exact all c hc)
    have em := ones_sort e2 (fun y hy => by
      obtain ⟨c, hc, rfl⟩ := List.mem_map.mp hy
      exact S_len [c]) e3
    rw [e1, em]
    have sm := same_upd (o := SetG (txtSet P w) a B) na
    obtain ⟨ok, nB, fr, S2⟩ := (S1.same sm).enter ((ordS (z.cps.toList.map fun c => SX.S [c])).map V.str) np1
    exact q _ _ _ _ _ _ g1.2 ((f1.trans (Fr.of sm)).trans fr) S2 (dp_strs _) ok nB
  · exact g1.elim⟩
end
theorem cSortT {X : Cx} {K : PySem.W.Frag} {P : Program} {w : World} (hu : X.A.units + 64 < cLine) (hc : X.calm = true := by rfl) (hP : X.prog = P := by rfl) (hw : X.w = w := by rfl) (hK : X.K = K := by rfl) : CallR X (.builtin "sorted") (rSortG K (txtSet P w)) := by
  subst hP hw hK
  exact cSortG (K := X.K) (Z := txtSet X.prog X.w) hu hc
theorem add_str {d : PyData} {a b : Str} {G : PyData → Prop} (h : d = .str a) (l : a.length + b.length ≤ sizeLine) (g : G (.str (a ++ b))) : dAdd d (.str b) G := by
  subst h
  exact ⟨l, g⟩
theorem s_asg {ae : AE} {ag : AG} {rest : AS} {A : AEnds} {δ : List SD} (h : ae δ fun d δ1 => ag d δ1 (rest A)) : aSeq (aAsg ae ag) rest A δ := h
/-- d[k] = d.get(k, x) + y -/
theorem s_put_add {i : Nat} {ak ak2 ax ay : AE} {rest : AS} {A : AEnds} {δ : List SD} {kvs : List (Key × PyData)} {kd x : PyData} {kk : Key} {a b : Str} (hi : δ[i]? = some (.di none kvs))
    (hk : ∀ G : PyData → List SD → Prop, G kd δ → ak δ G) (hk2 : ∀ G : PyData → List SD → Prop, G kd δ → ak2 δ G) (hkk : keyD kd = some kk) (hx : ∀ G : PyData → List SD → Prop, G x δ → ax δ G) (hg : (getP kvs kk).getD x = .str a)
    (hy : ∀ G : PyData → List SD → Prop, G (.str b) δ → ay δ G) (l : a.length + b.length ≤ sizeLine) (few : kvs.length < sizeLine) (g : rest A (δ.set i (.di none (putP kvs kk (.str (a ++ b)))))) :
    aSeq (aDPut i (aOp dAdd (aDGet2 i ak ax) ay) ak2) rest A δ := by
  show aDPut i (aOp dAdd (aDGet2 i ak ax) ay) ak2 { A with nx := rest A } δ
  unfold aDPut aOp aDGet2
  rw [hi]
  refine hk _ (hx _ ?_)
  rw [hi, hkk]
  show ay δ _
  refine hy _ ?_
  rw [hg]
  refine ⟨l, ?_⟩
  show (match δ[i]? with | some (.di none _) => _ | _ => False)
  rw [hi]
  refine hk2 _ ?_
  show (match δ[i]?, keyD kd with | some (.di none kvs), some kk => _ | _, _ => False)
  rw [hi, hkk]
  exact ⟨few, g⟩
end Xia

set_option Elab.async false
set_option linter.all false
set_option maxRecDepth 100000
set_option maxHeartbeats 4000000
set_option autoImplicit false
/-! Own: t[:0:-1] of a tuple; sets of texts in slots; dicts made by a comprehension, at the level of data. -/
namespace Xia
open PySem PySem.Spec PyProof.Rows L2 SX LamX HT
section
variable {prog : Program} {w : World} {A : Around} {E : Value → Shared → Prop} {s : Shared}
theorem sliceApplied_down {sl : Addr} {vu vs : Value} {n : Nat} {Q : Int × Int × Nat → Shared → Prop} (hs : s.heap.IsSliceOf sl .none vu vs) (pu : IsPart vu (some 0)) (ps : IsPart vs (some (-1))) (n1 : 1 ≤ n)
    (h : Q (((n - 1 : Nat) : Int), -1, n - 1) s) : wpAny (model prog w) A (Builtin.Slice.sliceApplied (.ref sl) (pure (n : Int))) Q E s := by
  obtain ⟨os, hos, hcs, hds⟩ := id hs
  unfold Builtin.Slice.sliceApplied Builtin.Slice.sliceFields
  refine wpAny_bind (wpAny_bind (wpAny_field hos hds (x := .none) rfl (wpAny_bind (wpAny_field hos hds (x := vu) rfl (wpAny_bind (wpAny_field hos hds (x := vs) rfl (wpAny_pure ?_)))))))
  refine wpAny_bind (slicePart_ ps ?_)
  show wpAny _ _ (if ((-1 : Int) == 0) = true then _ else _) _ _ s
  rw [if_neg (by decide)]
  refine wpAny_bind (slicePart_none (wpAny_bind (slicePart_ pu (wpAny_bind (wpAny_pure ?_)))))
  show wpAny _ _ (pure ((Builtin.Slice.sliceAdjust none (some 0) (-1) (n : Int)).1, (-1 : Int), Builtin.Slice.slicePlaces (Builtin.Slice.sliceAdjust none (some 0) (-1) (n : Int)).1 (Builtin.Slice.sliceAdjust none (some 0) (-1) (n : Int)).2 (-1))) _ _ s
  have e1 : (Builtin.Slice.sliceAdjust none (some 0) (-1) (n : Int)).1 = ((n - 1 : Nat) : Int) := by
    show (n : Int) - 1 = _
    omega
  have e2 : (Builtin.Slice.sliceAdjust none (some 0) (-1) (n : Int)).2 = 0 := by
    show min (0 : Int) ((n : Int) - 1) = 0
    omega
  have e3 : Builtin.Slice.slicePlaces ((n - 1 : Nat) : Int) 0 (-1) = n - 1 := by
    unfold Builtin.Slice.slicePlaces
    rw [if_neg (by decide)]
    by_cases c : ((n - 1 : Nat) : Int) > 0
    · rw [if_pos c]
      have : (-(-1 : Int)) = 1 := by decide
      rw [this, Int.ediv_one]
      omega
    · rw [if_neg c]
      omega
  rw [e1, e2, e3]
  exact wpAny_pure h
theorem pick_down (xs : Array Value) (n : Nat) (hn : xs.size = n) (n1 : 1 ≤ n) : ((List.range (n - 1)).filterMap fun (m : Nat) => xs[(((n - 1 : Nat) : Int) + (m : Int) * (-1)).toNat]?).toArray = (xs.toList.drop 1).reverse.toArray := by
  congr 1
  have e : ∀ (k : Nat), k ≤ n - 1 → (List.range k).filterMap (fun (m : Nat) => xs[(((n - 1 : Nat) : Int) + (m : Int) * (-1)).toNat]?) = (xs.toList.drop (n - k)).reverse := by
    intro k
    induction k with
    | zero =>
      intro _
      rw [List.drop_eq_nil_of_le (by rw [Array.length_toList]; omega)]
      rfl
    | succ k ih =>
      intro hk
      have hi : n - (k + 1) < xs.toList.length := by rw [Array.length_toList]; omega
      rw [List.range_succ, List.filterMap_append, ih (by omega), List.drop_eq_getElem_cons hi, List.reverse_cons, show n - (k + 1) + 1 = n - k by omega]
      congr 1
      have ix : (((n - 1 : Nat) : Int) + (k : Int) * (-1)).toNat = n - (k + 1) := by omega
      have g : xs[n - (k + 1)]? = some (xs.toList[n - (k + 1)]) := by
        rw [← Array.getElem?_toList, List.getElem?_eq_getElem hi]
      rw [List.filterMap_cons, ix, g]
      rfl
  have := e (n - 1) (Nat.le_refl _)
  rw [this, show n - (n - 1) = 1 by omega]
theorem getItem_tuple_down {t sl : Addr} {items : Array Value} {vu vs : Value} {Q : Value → Shared → Prop} (ht : PyProof.Rows.IsTup s.heap t items) (hs : s.heap.IsSliceOf sl .none vu vs) (pu : IsPart vu (some 0)) (ps : IsPart vs (some (-1))) (n1 : 1 ≤ items.size)
    (h : Q (.ref s.heap.objs.size) { s with heap := s.heap.push { cls := .type "tuple", data := .seq (items.toList.drop 1).reverse.toArray } })
    (hsz : items.size ≤ sizeLine) : wpAny (model prog w) A (getItem (.ref t) (.ref sl)) Q E s := by
  have htake : sizeOk (.seq (items.toList.drop 1).reverse.toArray) := by
    show (items.toList.drop 1).reverse.toArray.size ≤ sizeLine
    rw [List.size_toArray, List.length_reverse, List.length_drop, Array.length_toList]
    omega
  obtain ⟨os, hos, hcs, hds⟩ := id hs
  have hTs : s.TypeIs (.ref sl) "slice" := ⟨os, hos, hcs⟩
  unfold getItem
  try with_reducible refine wpAny_holding ?_
  first | refine wpAny_bind (wpAny_pure ?_) | skip
  refine wpAny_bind (wpAny_sequenceKey ht.typeIs (by decide) ?_)
  refine wpAny_bind (wpAny_callSpecial?_slot (name := Str.ofString "__getitem__") ht.typeIs PyProof.Rows.slot_tuple_getitem
    (wpAny_call_entry PyProof.Rows.slot_tuple_getitem ht.typeIs entry_tuple_getitem ?_ (args_tuple_getitem _ _)))
  show wpAny _ _ (Builtin.Tuple.tupleItemsOf (.ref t) >>= _) _ _ s
  refine wpAny_bind (tupleItemsOf_ ht ?_)
  refine wpAny_bind (wpAny_typeOf hTs ?_)
  rw [if_pos (by decide)]
  refine wpAny_bind (sliceApplied_down hs pu ps n1 ?_)
  have hno : ¬ ((((items.size - 1 : Nat) : Int) == 0 && (-1 : Int) == 1 && (items.size - 1) == items.size) = true) := by
    intro q
    rw [Bool.and_eq_true, Bool.and_eq_true] at q
    exact absurd q.1.2 (by decide)
  show wpAny _ _ (if (((items.size - 1 : Nat) : Int) == 0 && (-1 : Int) == 1 && (items.size - 1) == items.size) = true then _ else _) _ _ s
  rw [if_neg hno, pick_down items _ rfl n1]
  first
    | exact wpAny_bind (m := Builtin.Tuple.tupleExact _) (wpAny_newObj_type (wpAny_pure ⟨_, rfl, wpAny_pure h⟩) htake)
    | exact wpAny_bind (m := Builtin.Tuple.tupleExact _) (wpAny_newObj_type (wpAny_bind (wpAny_pure (wpAny_pure ⟨_, rfl, wpAny_pure h⟩))) htake)
    | exact wpAny_bind (wpAny_bind (m := Builtin.Tuple.tupleExact _) (wpAny_newObj_type (wpAny_pure (wpAny_pure ⟨_, rfl, wpAny_pure h⟩)) htake))
    | exact wpAny_bind (wpAny_bind (m := Builtin.Tuple.tupleExact _) (wpAny_newObj_type (wpAny_pure ⟨_, rfl, wpAny_pure h⟩) htake))
end
section
variable {X : Cx}
/-- t[:0:-1] -/
def mDown (K : PySem.W.Frag) (te : TE) : TE := fun σ H Q => te σ H fun x H1 => ∃ a xs, x = .ref a ∧ SqT K H1 a xs ∧ 1 ≤ xs.length ∧ ∀ p, H1 p = none → Q (.ref p) (upd H1 p (.tup (xs.drop 1).reverse))
theorem pe_down {K : PySem.W.Frag} {e : Expr} {te : TE} {k k0 : Nat} {p0 p1 p2 p3 pos : Pos} (he : PE X e te) (hK : X.K = K := by rfl) :
    PE X (.Subscript e (.Slice none (some (.Constant (.int 0) k0 p0)) (some (.UnaryOp .USub (.Constant (.int 1) k p1) p2)) p3) pos) (mDown K te) := by
  subst hK
  refine ⟨fun pins s σ H Q I h => ?_⟩
  refine Subscript_ (thn (he.run pins s σ H _ I h) fun v s1 ⟨x, H1, I1, r1, q1⟩ => ?_)
  obtain ⟨a, xs, ex, hx, n1, q⟩ := q1
  subst ex
  cases r1
  have hst : PO X (some (.UnaryOp .USub (.Constant (.int 1) k p1) p2)) (tPart (tUn (rU fun i => .int (-i)) (tC (.int 1)))) := po_some (pe_un un_neg pe_int)
  have hup : PO X (some (.Constant (.int 0) k0 p0)) (tPart (tC (.int 0))) := po_some pe_int
  refine wpAny_Slice (thn (po_none.run pins s1 σ H1 (fun o H2 => o = none ∧ H2 = H1) I1 ⟨rfl, rfl⟩) fun vl s2 ⟨l, H2, I2, pl, el, e2⟩ => ?_)
  subst el e2
  refine thn (hup.run pins s2 σ H2 (fun o H3 => o = some 0 ∧ H3 = H2) I2 ⟨0, rfl, rfl, rfl⟩) fun vu s3 ⟨u, H3, I3, pu, eu, e3⟩ => ?_
  subst eu e3
  refine thn (hst.run pins s3 σ H3 (fun o H4 => o = some (-1) ∧ H4 = H3) I3 ⟨1, rfl, -1, rfl, rfl, rfl⟩) fun vs s4 ⟨o, H4, I4, ps, eo, e4⟩ => ?_
  subst eo e4
  cases pl
  have I5 : Inv X pins σ H4 { s4 with heap := s4.heap.push { cls := .type "slice", data := .fields #[.none, vu, vs] } } := I4.kept (t' := s4.toks) fun b ob q => Heap.get?_push_of_some _ q
  obtain ⟨its, r, ht, hz⟩ := I5.tuple hx
  have hlen := r.length
  show wpAny (model X.prog X.w) X.A (subscriptTail e (.Slice none (some (.Constant (.int 0) k0 p0)) (some (.UnaryOp .USub (.Constant (.int 1) k p1) p2)) p3) (.ref a) (.ref s4.heap.objs.size)) (EP X pins σ Q) X.xe { s4 with heap := s4.heap.push { cls := .type "slice", data := .fields #[.none, vu, vs] } }
  refine tail_any (ops := [.ref a, .ref s4.heap.objs.size]) ht.typeIs (PySem.F.slot_tuple_getitem.lookup) ?_ (by with_unfolding_all rfl)
  refine getItem_tuple_down ht (Heap.IsSliceOf.new _ .none vu vs) pu ps (by rw [List.size_toArray]; omega) ?_ (by rw [List.size_toArray]; omega)
  refine ⟨.ref _, _, I5.laid (t' := s4.toks) (o := .tup (xs.drop 1).reverse) (fun b ob q => Heap.get?_push_of_some _ q) (Nat.le_refl _) ?_, rfl, q _ (I5.hok.fresh (Nat.le_refl _))⟩
  have rr : Vals (xs.drop 1).reverse (its.drop 1).reverse := by
    refine Vals.reverse ?_
    cases r with
    | nil => exact .nil
    | cons _ b => exact b
  exact ⟨by rw [List.length_reverse, List.length_drop]; omega, _, rr, ⟨_, Heap.get?_push_size _ rfl, rfl, _, rfl⟩⟩
end
section
variable {K : PySem.W.Frag} {T : List (Addr × Str)}
theorem dpAll_rev {H : Hp} {vs : List V} {ds : List PyData} (h : DpAll K H vs ds) : DpAll K H vs.reverse ds.reverse := by
  induction ds generalizing vs with
  | nil => cases h; exact .nil
  | cons d ds ih =>
    cases h with
    | cons a b =>
      rw [List.reverse_cons, List.reverse_cons]
      exact dpAll_app (ih b) (.cons a .nil)
/-- a call as a statement -/
def aDrop (ae : AE) : AS := fun A δ => ae δ fun _ δ1 => A.nx δ1
instance (priority := low) simDrop {te : TE} {ae : AE} [h1 : SimE K T te ae] : SimS K T (tDrop te) (aDrop ae) := ⟨fun S h c => h1.run S h fun v M1 H1 d δ1 g1 f1 S1 w1 => c.nx _ _ _ _ g1 f1 S1⟩
/-- t[:0:-1] -/
def aDown (ae : AE) : AE := fun δ G => ae δ fun d δ1 => match d with
  | .tuple ds => 1 ≤ ds.length ∧ G (.tuple (ds.drop 1).reverse) δ1
  | _ => False
instance simDown {te : TE} {ae : AE} [h1 : SimE K T te ae] : SimE K T (mDown K te) (aDown ae) := ⟨fun S h q => h1.run S h fun v M1 H1 d δ1 g1 f1 S1 w1 => by
  split at g1
  · cases w1 with
    | tup a b =>
      refine ⟨_, _, rfl, sqT_same (imm_sub _ _) a, by rw [dpAll_len b]; exact g1.1, fun p np => ?_⟩
      exact q _ _ _ _ _ g1.2 (f1.trans (Fr.of (same_upd np))) (S1.same (same_upd np)) (.tup (.inl (.inl (new_imm S1.mu np rfl))) (Dp.monoAll (Fr.of (same_upd np)) _ _ (dpAll_rev (dpAll_drop 1 b))))
  · exact g1.elim⟩
/-- an object in a slot -/
theorem Sta.putOb {B : Bas} {M : List Addr} {δ : List SD} {σ : L2.St} {H : Hp} (S : Sta K T B M δ σ H) {i : Nat} {p : Addr} {o : HO} {R : Addr → HO → Prop} (h : imm M H p = some o) (r : R p o) : Sta K T B M (δ.set i (.ob R)) (σ.set i (some (.ref p))) H := by
  refine ⟨S.rel, S.tb, S.mu, S.hd, by rw [List.length_set, List.length_set]; exact S.len, fun j x hx => ?_, fun j k s t ne h1 h2 m1 m2 => ?_⟩
  · rw [List.getElem?_set] at hx ⊢
    by_cases c : i = j
    · rw [if_pos c] at hx ⊢
      by_cases l : i < δ.length
      · rw [if_pos l] at hx
        rw [if_pos (by rw [S.len]; exact l)]
        cases hx
        exact ⟨p, o, rfl, h, r⟩
      · rw [if_neg l] at hx
        cases hx
    · rw [if_neg c] at hx ⊢
      exact S.sl j x hx
  · have nj : i ≠ j := fun c => by
      rw [List.getElem?_set, if_pos c] at h1
      split at h1
      · cases h1; cases m1
      · cases h1
    have nk : i ≠ k := fun c => by
      rw [List.getElem?_set, if_pos c] at h2
      split at h2
      · cases h2; cases m2
      · cases h2
    rw [List.getElem?_set_ne nj] at h1 ⊢
    rw [List.getElem?_set_ne nk] at h2 ⊢
    exact S.di j k s t ne h1 h2 m1 m2
/-- a set of texts -/
def isSet (P : Program) (w : World) (zs : List Str) : Addr → HO → Prop := fun a o => ∃ B, o = SetG (txtSet P w) a B ∧ ∀ z, z ∈ B.map (·.1) ↔ z ∈ zs
/-- x = set(e) -/
def aSetOf (P : Program) (w : World) (i : Nat) (ae : AE) : AS := fun A δ => ae δ fun d δ1 => ∃ zs : List Str, (d = .list (zs.map .str) ∨ d = .tuple (zs.map .str)) ∧ zs.length ≤ 4000 ∧ A.nx (δ1.set i (.ob (isSet P w zs)))
instance (priority := 1200) simSetOf {P : Program} {w : World} {i : Nat} {te : TE} {ae : AE} [h1 : SimE K T te ae] : SimS K T (tAsg (tCB (rSetG K (txtSet P w) IsTxt) (tCons te tNil)) (gName i)) (aSetOf P w i ae) := ⟨fun {B M δ σ H D A} S h c => h1.run S h fun v M1 H1 d δ1 g1 f1 S1 w1 => by
  obtain ⟨zs, hd, n, g⟩ := g1
  have key : ∃ l, v = .ref l ∧ (SqL K H1 l (zs.map V.str) ∨ SqT K H1 l (zs.map V.str)) := by
    rcases hd with rfl | rfl
    · cases w1 with
      | lst a b =>
        rw [dpAll_strs b] at a
        exact ⟨_, rfl, .inl (sqL_same (imm_sub _ _) a)⟩
    · cases w1 with
      | tup a b =>
        rw [dpAll_strs b] at a
        exact ⟨_, rfl, .inr (sqT_same (imm_sub _ _) a)⟩
  obtain ⟨l, rfl, hl⟩ := key
  refine ⟨l, zs.map fun z => (z, V.str z), rfl, by rw [List.map_map]; exact hl, fun b hb => ?_, by rw [List.length_map]; exact n, fun a B na nd sub all => ?_⟩
  · obtain ⟨z, _, rfl⟩ := List.mem_map.mp hb
    exact rfl
  have sm := same_upd (o := SetG (txtSet P w) a B) na
  refine c.nx _ _ _ _ g (f1.trans (Fr.of sm)) ((S1.same sm).putOb (new_imm S1.mu na rfl) ⟨B, rfl, fun z => ⟨fun hz => ?_, fun hz => ?_⟩⟩)
  · obtain ⟨b, hb, rfl⟩ := List.mem_map.mp hz
    obtain ⟨y, hy, rfl⟩ := List.mem_map.mp (sub b hb)
    exact hy
  · exact all _ (List.mem_map.mpr ⟨z, hz, rfl⟩)⟩
/-- x in s, a set of texts in a slot -/
def aInSet (P : Program) (w : World) (n : Bool) (ae : AE) (i : Nat) : AE := fun δ G => ae δ fun d δ1 => ∃ (z : Str) (zs : List Str), d = .str z ∧ δ1[i]? = some (.ob (isSet P w zs)) ∧ G (.bool (n != decide (z ∈ zs))) δ1
instance (priority := 1200) simInSet {P : Program} {w : World} {n : Bool} {i : Nat} {te : TE} {ae : AE} [h1 : SimE K T te ae] : SimE K T (tOp (rInTxt P w n) te (tV i)) (aInSet P w n ae i) := ⟨fun {B M δ σ H Q G} S h q => h1.run S h fun v M1 H1 d δ1 g1 f1 S1 w1 => by
  obtain ⟨z, zs, rfl, hi, g⟩ := g1
  cases w1
  obtain ⟨p, o, e, ho, B, rfl, hB⟩ := S1.sl _ _ hi
  show tV i _ H1 fun y H2 => rInTxt P w n (.str z) y H2 Q
  unfold tV
  rw [e]
  refine ⟨B, imm_sub _ _ _ _ ho, ?_⟩
  have : decide (z ∈ B.map (·.1)) = decide (z ∈ zs) := decide_eq_decide.mpr (hB z)
  rw [this]
  exact q _ _ _ _ _ g f1 S1 (.bl _)⟩
/-- d = {x: n for x in e} -/
def cntV (n : Int) (zs : List Str) : List (Key × V) := zs.map fun z => ((.inr z : Key), V.int n)
def cntD (n : Int) (zs : List Str) : List (Key × PyData) := zs.map fun z => ((.inr z : Key), PyData.int n)
theorem cnt_new {n : Int} {z : Str} : ∀ {zs : List Str}, z ∉ zs → valV (cntV n zs) (.inr z) = none
  | [], _ => rfl
  | y :: zs, h => by
    rw [show cntV n (y :: zs) = ((.inr y : Key), V.int n) :: cntV n zs from rfl, valV_neg (p := ((.inr y : Key), V.int n)) fun e => h (by cases e; exact List.mem_cons_self ..)]
    exact cnt_new fun z => h (List.mem_cons_of_mem _ z)
def aDcC (i : Nat) (n : Int) (ae : AE) : AS := fun A δ => ae δ fun d δ1 => ∃ zs : List Str, (d = .list (zs.map .str) ∨ d = .tuple (zs.map .str)) ∧ zs.Nodup ∧ zs.length ≤ 4000 ∧ A.nx (δ1.set i (.di none (cntD n zs)))
theorem dc_fill {zs : List Str} {n : Int} {j : Nat} {σ : L2.St} {H1 : Hp} {D : Addr} {J : It} {G : Hp → Prop} {Y : Nat → Hp → V → Hp → Prop} {Qd : Hp → Prop} (c : j < σ.length) (nd : zs.Nodup) (few : zs.length ≤ 4000) (Wk : Walk J (zs.map V.str).length G Y) (nD : H1 D = none)
    (hG : ∀ H', Same H1 H' → G H') (hY : ∀ i H x H', Same H1 H → Y i H x H' → H' = H ∧ (zs.map V.str)[i]? = some x) (hd : Qd (upd H1 D (.dK (cntV n zs)))) :
    ∃ W : Nat → Nat → Hp → Prop, (∃ m, W 0 m (upd H1 D (HO.dK []))) ∧ ∀ (i m : Nat) (H : Hp), W i m H → J.stop i H ∧ Qd H ∨ J.go i H ∧ ∃ Nx : Hp → Prop, (∀ (H' : Hp), Nx H' → ∃ m', m' < m ∧ W (i + 1) m' H') ∧ ∀ (x : V) (H' : Hp), J.yld i H x H' → gName j x (wipe σ [j]) H' fun σ2 H2 => wipe σ2 [j] = wipe σ [j] ∧ tYes σ2 H2 fun b H3 => if b = true then tV j σ2 H3 fun y H4 => tC (.int n) σ2 H4 fun z H5 => ∃ kvs k, y = kV k ∧ H5 D = some (HO.dK kvs) ∧ kvs.length < sizeLine ∧ Nx (upd H5 D (HO.dK (putK kvs k z))) else Nx H3 := by
  have hz := sizeLine_eq
  rw [List.length_map] at Wk
  refine dc_it Wk (fun i H' => H' = upd H1 D (.dK (cntV n (zs.take i)))) rfl (fun i H' _ e => hG _ (by rw [e]; exact same_upd nD)) ?_ ?_
  · rintro i x H2 H3 hi rfl hy
    obtain ⟨rfl, hx⟩ := hY i _ x _ (same_upd nD) hy
    rw [List.getElem?_map] at hx
    obtain ⟨z, hzi, rfl⟩ := Option.map_eq_some_iff.mp hx
    refine ⟨wipe_set (List.mem_singleton.mpr rfl), ?_⟩
    dsimp only [tYes]
    rw [if_pos rfl]
    · have e1 : ((wipe σ [j]).set j (some (V.str z)))[j]? = some (some (.str z)) := List.getElem?_set_self (by rw [wipe_length]; exact c)
      unfold tV
      rw [e1]
      show ∃ kvs k, V.str z = kV k ∧ _
      have nz : z ∉ zs.take i := fun h => by
        obtain ⟨k, hk, e⟩ := List.getElem_of_mem h
        have hk' : k < i := by rw [List.length_take] at hk; omega
        rw [List.getElem_take] at e
        have := (List.getElem_inj (i := k) (j := i) (h₀ := by omega) (h₁ := by omega) nd).mp (by rw [e]; exact (List.getElem?_eq_some_iff.mp hzi).2.symm)
        omega
      refine ⟨_, .inr z, rfl, upd_same, ?_, ?_⟩
      · unfold cntV
        rw [List.length_map, List.length_take]
        omega
      · rw [putK_new _ (cnt_new nz), L2.upd_upd, List.take_succ, hzi]
        unfold cntV
        rw [List.map_append]
        rfl
  · rintro H' rfl
    rw [List.take_length]
    exact hd
def aDcC' (i j : Nat) (n : Int) (ae : AE) : AS := fun A δ => ae δ fun d δ1 => j < δ1.length ∧ ∃ zs : List Str, (d = .list (zs.map .str) ∨ d = .tuple (zs.map .str)) ∧ zs.Nodup ∧ zs.length ≤ 4000 ∧ A.nx (δ1.set i (.di none (cntD n zs)))
theorem cnt_ents {n : Int} (H : Hp) : ∀ zs : List Str, EntsD K H (cntV n zs) (cntD n zs)
  | [] => ⟨rfl, .nil⟩
  | z :: zs => .cons (.int n) (cnt_ents H zs)
instance (priority := 1200) simDcC {i j : Nat} {n : Int} {te : TE} {ae : AE} [h1 : SimE K T te ae] : SimS K T (tAsg (tDc (iAny K te) (gName j) tYes (tV j) (tC (.int n)) [j]) (gName i)) (aDcC' i j n ae) := ⟨fun {B M δ σ H D A} S h c => h1.run S h fun v M1 H1 d δ1 g1 f1 S1 w1 => by
  obtain ⟨hj, zs, hd, nd, few, g⟩ := g1
  have hjs : j < σ.length := by rw [S1.len]; exact hj
  have fin : ∀ {H' : Hp} (p : Addr), H1 p = none → H' = upd H1 p (.dK (cntV n zs)) → D.nx (σ.set i (some (.ref p))) H' := fun p np e => by
    subst e
    exact c.nx _ _ _ _ g (f1.trans (Fr.of (same_upd np))) (S1.newD np (cnt_ents _ zs))
  rcases hd with rfl | rfl
  · cases w1 with
    | lst a b =>
      have b := dpAll_strs b
      subst b
      have a1 := sqL_same (imm_sub _ _) a
      refine .inl ⟨_, a1, fun p np => dc_fill hjs nd few walk_list np (fun H' s => sqL_same s a1) (fun i H x H' s h => ⟨h.1, h.2⟩) (fin p np rfl)⟩
  · cases w1 with
    | tup a b =>
      have b := dpAll_strs b
      subst b
      have a1 := sqT_same (imm_sub _ _) a
      refine .inr ⟨_, a1, fun p np => dc_fill hjs nd few walk_tup np (fun H' s => sqT_same s a1) (fun i H x H' s h => ⟨h.1, h.2⟩) (fin p np rfl)⟩⟩
instance (priority := 1200) simDcC2 {i j : Nat} {n : Int} {x : Str} {te : TE} {ae : AE} [h1 : SimE K T te ae] : SimS K T (tAsg (tDc (iAny K te) (gName j) tYes (tV j) (tC (.int n)) (([(x, j)] : List (Str × Nat)).map fun q => q.2)) (gName i)) (aDcC' i j n ae) := simDcC
/-! ### the program's defs -/
def dCheckT : List PyData → (PyData → Prop) → Prop := fun ds G => ∃ zs e, ds = [treadD zs (S e)] ∧ Trd zs e ∧ G .none
instance fnCheckT : FnD K (spCheckTreadT K) dCheckT := ⟨fun {M H vs ds Q E G} m h g q => by
  obtain ⟨zs, e, rfl, h1, g⟩ := g
  obtain ⟨v, rfl, w⟩ := dp1 h
  obtain ⟨t, rfl, ht⟩ := dp_trd w
  exact ⟨t, zs, e, rfl, h1, ht, fun H' s => q _ _ _ g s .non⟩⟩
def dPlacesBehind : List PyData → (PyData → Prop) → Prop := fun ds G => ∃ p zs e, ds = [.str (S p), .tuple (zs.map .str)] ∧ IsL p ∧ p.length ≤ 1000 ∧ Trd zs e ∧ G (.list ((mv p zs).map .str))
instance fnPlacesBehind : FnD K (spPlacesBehind K) dPlacesBehind := ⟨fun {M H vs ds Q E G} m h g q => by
  obtain ⟨p, zs, e, rfl, h1, h2, h3, g⟩ := g
  obtain ⟨x, y, rfl, w1, w2⟩ := dp2 h
  cases dp_str w1
  obtain ⟨t, rfl, ht⟩ := dp_rowT w2
  exact ⟨p, t, zs, e, rfl, rfl, h1, h2, h3, ht, fun r H' s nr hr => q _ _ _ g s (.lst (.inl (.inl (imm_of (fun z => by
    obtain ⟨xs, e⟩ := m _ z
    rw [nr] at e
    cases e) hr rfl))) (dp_strs _))⟩⟩
def dSeenW : List PyData → (PyData → Prop) → Prop := fun ds G => ∃ zs e pl, ds = [.tuple (zs.map .str), .str (S pl)] ∧ Trd zs e ∧ S pl ∈ zs ∧ G (.tuple ((turnS zs pl).map .str))
instance fnSeenW : FnD K (spSeen K) dSeenW := ⟨fun {M H vs ds Q E G} m h g q => by
  obtain ⟨zs, e, pl, rfl, h1, h2, g⟩ := g
  obtain ⟨x, y, rfl, w1, w2⟩ := dp2 h
  cases dp_str w2
  obtain ⟨t, rfl, ht⟩ := dp_rowT w1
  exact ⟨t, zs, e, pl, rfl, rfl, ht, h1, h2, fun r H' s nr hr => q _ _ _ g s (dp_tup_imm (m.same s) (.inl (.inl hr)))⟩⟩
/-- list(places_on_ways(..)) -/
def alWays (aa : AA) : AA := fun δ G => aa δ fun ds δ1 => ∃ (p : List Nat) (gs : List (List Nat)), ds = [.str (S p), .list ((gs.map S).map .str)] ∧ IsL p ∧ isP p = true ∧ p.length ≤ 1000 ∧ (∀ g ∈ gs, IsL g ∧ isP g = true ∧ g.length ≤ 1000) ∧ gs.length ≤ 1000 ∧
  ∀ ks : List (List Nat), ks.Nodup → (∀ x, x ∈ ks ↔ x = p ∨ ∃ g ∈ gs, onw p g x) → G ((ks.map S).map .str) δ1
instance simWays {E : XK} {ta : TA} {aa : AA} [h1 : SimA K T ta aa] : SimL K T (tCB mListD (tCons (tCall (spWays K) [] E ta) tNil)) (alWays aa) := ⟨fun {B M δ σ H Q G} S h q => h1.run S h fun vs M1 H1 ds δ1 g1 f1 S1 w1 => by
  obtain ⟨p, gs, rfl, p1, p2, p3, g2, g3, g⟩ := g1
  obtain ⟨x, y, rfl, w1, w2⟩ := dp2 w1
  cases dp_str w1
  obtain ⟨l, rfl, hl⟩ := dp_rowL w2
  refine ⟨p, l, gs, rfl, rfl, by rw [List.map_map] at hl; exact hl, p1, p2, p3, g2, g3, fun d ks H' s nd hd nk hk => ?_⟩
  refine ⟨d, _, rfl, .inl hd, fun a na => ?_⟩
  have S2 := S1.same s
  obtain ⟨ok, nB, fr, S3⟩ := S2.enter ((keysD ks).map fun kv => kV kv.1) na
  have e : (keysD ks).map (fun kv => kV kv.1) = (ks.map SX.S).map V.str := by
    unfold keysD
    rw [List.map_map, List.map_map]
    rfl
  rw [e] at S3 fr ⊢
  exact q _ _ _ _ _ _ (g ks nk hk) ((f1.trans (Fr.of s)).trans fr) S3 (dp_strs _) ok nB⟩
end
/-! ### defs that give a new dict -/
section
variable {K : PySem.W.Frag} {T : List (Addr × Str)}
abbrev DD := List PyData → (List (Key × PyData) → Prop) → Prop
def spDd (K : PySem.W.Frag) (n : Nat) (o : DD) : Sp := fun vs H Q _ => ∃ (M : List Addr) (ds : List PyData) (G : List (Key × PyData) → Prop), ds.length = n ∧ MutOk M H ∧ DpAll K (imm M H) vs ds ∧ o ds G ∧
  ∀ (p : Addr) (H' : Hp) (es : List (Key × V)) (kvs : List (Key × PyData)), G kvs → Same H H' → H p = none → H' p = some (.dK es) → EntsD K (imm M H') es kvs → Q (.ref p) H'
theorem spDd.len {n : Nat} {o : DD} {vs : List V} {H : Hp} {Q : VK} {E : XK} (h : spDd K n o vs H Q E) : vs.length = n := by
  obtain ⟨M, ds, G, e, _, w, _⟩ := h
  rw [dpAll_len w, e]
theorem seq3 (a b c d : TS) : tSeq a (tSeq b (tSeq c d)) = tSeq (tSeq a (tSeq b c)) d := rfl
theorem seq4 (a b c d e : TS) : tSeq a (tSeq b (tSeq c (tSeq d e))) = tSeq (tSeq a (tSeq b (tSeq c d))) e := rfl
theorem go_dict {n i : Nat} {o : DD} {ts : TS} {as_ : AS} [hs : SimS K [] ts as_] {N : List Str} {vs : List V} {H : Hp} {Q : VK} {E : XK} (k : Nat) (hN : N.length = n + k) (h : spDd K n o vs H Q E)
    (g : ∀ (ds : List PyData) (G : List (Key × PyData) → Prop), ds.length = n → o ds G → as_ ⟨fun δ => ∃ kvs, δ[i]? = some (.di none kvs) ∧ G kvs, fun _ _ => False, fun _ => False, fun _ => False⟩ (ds.map .da ++ List.replicate k .no)) :
    tSeq ts (tRet (tV i)) { nx := fun _ H' => Q .non H', rt := Q } (L2.start N vs) H := by
  have hv := spDd.len h
  obtain ⟨M, ds, G, e, mu, w, ho, q⟩ := h
  rw [start_split hN hv]
  have S1 : Sta K [] (Bas.keep H M) M (ds.map .da ++ List.replicate k .no) (vs.map some ++ List.replicate k none) H := by
    refine ⟨Same.refl H, ⟨fun p hp => (nomatch hp), fun z => absurd rfl z⟩, mu, fun b hb => hb, by simp [hv, e], fun i s h => ?_, fun i j s t ne h1 h2 m1 m2 => ?_⟩
    · by_cases c : i < ds.length
      · rw [List.getElem?_append_left (by rw [List.length_map]; exact c), List.getElem?_map] at h
        obtain ⟨d, e1, rfl⟩ := Option.map_eq_some_iff.mp h
        obtain ⟨v, e2, wd⟩ := dpAll_at' w e1
        refine ⟨v, ?_, wd⟩
        rw [List.getElem?_append_left (by rw [List.length_map, hv, ← e]; exact c), List.getElem?_map, e2]
        rfl
      · rw [List.getElem?_append_right (by rw [List.length_map]; omega)] at h
        rw [(List.mem_replicate.mp (List.mem_of_getElem? h)).2]
        trivial
    · exfalso
      have := List.mem_of_getElem? h1
      rcases List.mem_append.mp this with h | h
      · obtain ⟨d, _, rfl⟩ := List.mem_map.mp h
        cases m1
      · rw [(List.mem_replicate.mp h).2] at m1
        cases m1
  refine hs.run S1 (g ds G e ho) ⟨fun M' δ' σ' H' z f S => ?_, fun v d M' δ' σ' H' z f S w => z.elim, fun M' δ' σ' H' z _ _ => z.elim, fun M' δ' σ' H' z _ _ => z.elim⟩
  obtain ⟨kvs, e1, gk⟩ := z
  obtain ⟨p, e2, ok, o', es, h1, h0, he⟩ := S.sl _ _ e1
  have h0 : o' = .dK es := h0
  subst h0
  show tV i σ' H' fun v H2 => Q v H2
  unfold tV
  rw [e2]
  exact q p H' es kvs gk S.rel ok h1 ⟨he.1, Dp.monoAll (Fr.sub S.hd) _ _ he.2⟩
class FnDd (K : PySem.W.Frag) (sp : Sp) (o : outParam DD) : Prop where
  run : ∀ {M : List Addr} {H : Hp} {vs : List V} {ds : List PyData} {Q : VK} {E : XK} {G : List (Key × PyData) → Prop}, MutOk M H → DpAll K (imm M H) vs ds → o ds G →
    (∀ (p : Addr) (H' : Hp) (es : List (Key × V)) (kvs : List (Key × PyData)), G kvs → Same H H' → H p = none → H' p = some (.dK es) → EntsD K (imm M H') es kvs → Q (.ref p) H') → sp vs H Q E
def dLenIs2 (n : Nat) (o : DD) : DD := fun ds G => ds.length = n ∧ o ds G
instance fnSpDd {n : Nat} {o : DD} : FnDd K (spDd K n o) (dLenIs2 n o) := ⟨fun {M H vs ds Q E G} m h g q => ⟨M, ds, G, g.1, m, h, g.2, q⟩⟩
/-- f(..)[k], a def that gives a dict -/
def aGetOf (o : DD) (aa : AA) (k : Str) : AE := fun δ G => aa δ fun ds δ1 => o ds fun kvs => ∃ d, getP kvs (.inr k) = some d ∧ G d δ1
instance simGetOf {sp : Sp} {o : DD} {E : XK} {ta : TA} {k : Str} {aa : AA} [ho : FnDd K sp o] [h1 : SimA K T ta aa] : SimE K T (tDGet (tCall sp [] E ta) (tC (.str k))) (aGetOf o aa k) := ⟨fun {B M δ σ H Q G} S h q => h1.run S h fun vs M1 H1 ds δ1 g1 f1 S1 w1 => by
  rw [List.append_nil]
  exact ho.run S1.mu w1 g1 fun p H' es kvs g2 sm np hp en => by
    obtain ⟨d, gd, g⟩ := g2
    obtain ⟨v, hv, w⟩ := ents_some en gd
    exact ⟨p, v, rfl, .inl ⟨es, .inr k, .inl hp, rfl, hv.symm⟩, q _ _ _ _ _ g (f1.trans (Fr.of sm)) (S1.same sm) w⟩⟩
/-- x = f(..), a def that gives a dict -/
def aSetOfDd (o : DD) (aa : AA) (i : Nat) : AS := fun A δ => aa δ fun ds δ1 => o ds fun kvs => A.nx (δ1.set i (.di none kvs))
end
theorem cSetQ {X : Cx} {K : PySem.W.Frag} {P : Program} {w : World} (hu : X.A.units + 64 < cLine) (hc : X.calm = true := by rfl) (hP : X.prog = P := by rfl) (hw : X.w = w := by rfl) (hK : X.K = K := by rfl) : CallR X (.type "set") (rSetG K (txtSet P w) IsTxt) := by
  subst hP hw hK
  exact cSetG (Z := txtSet X.prog X.w) (IsV := IsTxt) (fun I h r => txt_of I h r) hu hc
/-! ### list + list, told as data -/
def mCatL (K : PySem.W.Frag) : R2 := fun x y H Q => ∃ a b xs ys, x = .ref a ∧ y = .ref b ∧ SqL K H a xs ∧ SqL K H b ys ∧ xs.length + ys.length ≤ sizeLine ∧ ∀ p, H p = none → Q (.ref p) (upd H p (.lst (xs ++ ys)))
theorem oCatL {X : Cx} {K : PySem.W.Frag} (hK : X.K = K := by rfl) : OpR X (binaryOp .Add) (mCatL K) := by
  subst hK
  intro pins s σ H x y v u Q I rx ry h
  obtain ⟨l, b, xs, zs, rfl, rfl, hH, hB, hz, q⟩ := h
  cases rx
  cases ry
  obtain ⟨its, r, ⟨⟨cls, dd, data, sl⟩, n, e, hc, hs, hd⟩, z⟩ := I.list hH
  obtain ⟨its2, r2, ⟨⟨cls2, dd2, data2, sl2⟩, n2, e2, hc2, hs2, hd2⟩, z2⟩ := I.list hB
  simp only at hc hs hd hc2 hs2 hd2
  subst hc hs hd hc2 hs2 hd2
  have hl := r.length
  have hl2 := r2.length
  have ea : its.toArray ++ its2.toArray = (its ++ its2).toArray := by simp
  refine concat_meets ⟨_, e, rfl⟩ ⟨_, e2, rfl⟩ noFill_list_add seq_list_add PySem.F.slot_list_add PySem.F.entry_list_add (PySem.F.args_list_add_2 _ _) (list_addW l b its.toArray its2.toArray n n2 none none sl sl2 (by rw [List.size_toArray, List.size_toArray]; omega)) ⟨e, e2, ?_⟩
  rw [ea]
  exact ⟨.ref _, _, I.lnew (t' := s.toks) (r.append r2) (by rw [List.length_append]; omega), rfl, q _ I.fresh⟩
def dCatL : PyData → PyData → (PyData → Prop) → Prop := fun d e G => match d, e with
  | .list ds, .list es => ds.length + es.length ≤ sizeLine ∧ G (.list (ds ++ es))
  | _, _ => False
instance opdCatL {K : PySem.W.Frag} : OpD K (mCatL K) dCatL := ⟨fun {M H x y d e Q G} m hx hy h q => by
  unfold dCatL at h
  split at h
  · cases hx with
    | lst a b =>
      cases hy with
      | lst a' b' =>
        refine ⟨_, _, _, _, rfl, rfl, sqL_same (imm_sub _ _) a, sqL_same (imm_sub _ _) a', by rw [dpAll_len b, dpAll_len b']; exact h.1, fun p np => ?_⟩
        exact q _ _ _ h.2 (same_upd np) (.lst (.inl (.inl (new_imm m np rfl))) (Dp.monoAll (Fr.of (same_upd np)) _ _ (dpAll_app b b')))
  · exact h.elim⟩
/-! ### a, b, c = a list -/
theorem pg_lstK {X : Cx} {K : PySem.W.Frag} {es : List Expr} {k : Nat} {t : TGs} {n : Nat} {pos : Pos} (hc : X.calm = true) (h : PGs X es t) (hn : (assignEach es X.env).length = n := by rfl) (hst : (assignEach es X.env).findIdx? (·.1) = none := by rfl) (hK : X.K = K := by rfl) : PG X (.Tuple es k pos) (gLst K n t) := by
  subst hK
  exact pg_lst hc h hn hst
def agLst (n : Nat) (b : AGs) : AG := fun d δ G => match d with
  | .list ds => ds.length = n ∧ b ds δ G
  | _ => False
instance simGLst {K : PySem.W.Frag} {T : List (Addr × Str)} {n : Nat} {gs : TGs} {b : AGs} [h2 : SimGs K T gs b] : SimG K T (gLst K n gs) (agLst n b) := ⟨fun {B M δ σ H v d Q G} S w h q => by
  cases w with
  | lst x y => exact ⟨_, _, rfl, sqL_same (imm_sub _ _) x, by rw [dpAll_len y]; exact h.1, h2.run S y h.2 q⟩
  | _ => exact h.elim⟩
/-! ### products of great numbers -/
def mMulW : R2 := fun x y H Q => match x, y with
  | .int i, .int j => CMulW i j ∧ Q (.int (i * j)) H
  | _, _ => False
theorem oMulW {X : Cx} : OpR X (binaryOp .Mult) mMulW := by
  intro pins s σ H x y v u Q I rx ry h
  unfold mMulW at h
  split at h
  · exact op_mulW pins s σ H _ _ v u Q I rx ry ⟨_, _, rfl, rfl, h.1, h.2⟩
  · exact h.elim
def dMulW : PyData → PyData → (PyData → Prop) → Prop := fun d e G => match d, e with
  | .int i, .int j => CMulW i j ∧ G (.int (i * j))
  | _, _ => False
instance opdMulW {K : PySem.W.Frag} : OpD K mMulW dMulW := ⟨fun {M H x y d e Q G} m hx hy h q => by
  unfold dMulW at h
  split at h
  · cases hx; cases hy
    exact ⟨h.1, q _ _ _ h.2 (.refl _) (.int _)⟩
  · exact h.elim⟩
end Xia

set_option Elab.async false
set_option linter.all false
set_option maxRecDepth 100000
set_option maxHeartbeats 4000000
set_option autoImplicit false
/-! Own: equations: the least and the greatest solution, how many there are. -/
namespace Xia
open PySem PySem.Spec PyProof.Rows L2 SX LamX
/-! ### products -/
def prodM {α : Type} (h : α → Nat) : List α → Nat
  | [] => 1
  | a :: r => h a * prodM h r
section
variable {α : Type} {h : α → Nat}
theorem prodM_app : ∀ {l m : List α}, prodM h (l ++ m) = prodM h l * prodM h m
  | [], m => (Nat.one_mul _).symm
  | a :: l, m => by
    show h a * prodM h (l ++ m) = h a * prodM h l * prodM h m
    rw [prodM_app, Nat.mul_assoc]
theorem prodM_snoc {l : List α} {a : α} : prodM h (l ++ [a]) = prodM h l * h a := by
  rw [prodM_app]
  show _ * (h a * 1) = _
  rw [Nat.mul_one]
theorem prodM_congr {g : α → Nat} : ∀ {l : List α}, (∀ a ∈ l, g a = h a) → prodM g l = prodM h l
  | [], _ => rfl
  | a :: l, e => by
    show g a * prodM g l = h a * prodM h l
    rw [e a (List.mem_cons_self ..), prodM_congr fun b hb => e b (List.mem_cons_of_mem _ hb)]
theorem prodM_one : ∀ {l : List α}, (∀ a ∈ l, h a = 1) → prodM h l = 1
  | [], _ => rfl
  | a :: l, e => by
    show h a * prodM h l = 1
    rw [e a (List.mem_cons_self ..), prodM_one fun b hb => e b (List.mem_cons_of_mem _ hb)]
theorem prodM_pos (p : ∀ a, 1 ≤ h a) : ∀ l : List α, 1 ≤ prodM h l
  | [] => Nat.le_refl _
  | a :: l => Nat.mul_le_mul (p a) (prodM_pos p l)
theorem prodM_filter_le (p : ∀ a, 1 ≤ h a) (f : α → Bool) : ∀ l : List α, prodM h (l.filter f) ≤ prodM h l
  | [] => Nat.le_refl _
  | a :: l => by
    rw [List.filter_cons]
    split
    · exact Nat.mul_le_mul (Nat.le_refl _) (prodM_filter_le p f l)
    · have := Nat.mul_le_mul (p a) (prodM_filter_le p f l)
      rw [Nat.one_mul] at this
      exact this
theorem prodM_add [DecidableEq α] {f g : α → Bool} {x : α} : ∀ {l : List α}, l.Nodup → x ∈ l → f x = false → (∀ y, g y = (f y || decide (y = x))) → prodM h (l.filter g) = prodM h (l.filter f) * h x
  | [], _, m, _, _ => by cases m
  | a :: l, nd, m, n, e => by
    obtain ⟨na, nd⟩ := List.nodup_cons.mp nd
    rw [List.filter_cons, List.filter_cons]
    by_cases c : a = x
    · subst c
      rw [if_pos (by rw [e, decide_eq_true rfl, Bool.or_true]), if_neg (by rw [n]; decide)]
      have : l.filter g = l.filter f := List.filter_congr fun y hy => by
        rw [e, decide_eq_false (fun z : y = a => na (z ▸ hy)), Bool.or_false]
      rw [this]
      exact Nat.mul_comm ..
    · have ga : g a = f a := by rw [e, decide_eq_false c, Bool.or_false]
      have m := (List.mem_cons.mp m).resolve_left fun z => c z.symm
      rw [ga]
      split
      · show h a * prodM h _ = h a * prodM h _ * h x
        rw [prodM_add nd m n e, Nat.mul_assoc]
      · exact prodM_add nd m n e
theorem prodM_le {s : α → Nat} : ∀ {l : List α}, (∀ a ∈ l, h a ≤ 2 ^ s a) → prodM h l ≤ 2 ^ (l.map s).sum
  | [], _ => Nat.le_refl _
  | a :: l, e => by
    show h a * prodM h l ≤ 2 ^ (s a + (l.map s).sum)
    rw [Nat.pow_add]
    exact Nat.mul_le_mul (e a (List.mem_cons_self ..)) (prodM_le fun b hb => e b (List.mem_cons_of_mem _ hb))
theorem count_or {p q : α → Bool} : ∀ {l : List α}, (∀ a ∈ l, p a = true → q a = false) → l.countP p + l.countP q = l.countP fun a => p a || q a
  | [], _ => rfl
  | a :: l, e => by
    have ih := count_or fun b hb => e b (List.mem_cons_of_mem _ hb)
    rw [List.countP_cons, List.countP_cons, List.countP_cons]
    cases hp : p a with
    | true =>
      rw [e a (List.mem_cons_self ..) hp]
      simp
      omega
    | false =>
      cases hq : q a <;> simp <;> omega
end
/-! ### in how many ways places can be trod -/
def letL : List Nat := [97, 98, 99, 100, 65, 66, 67, 68]
theorem letL_mem {c : Nat} : c ∈ letL ↔ c ∈ letC := ⟨fun h => by revert h; revert c; decide, fun h => by revert h; revert c; decide⟩
def kidsW (zs : List Str) (p : List Nat) : List (List Nat) := (letL.map fun c => p ++ [c]).filter fun x => decide (S x ∈ zs)
def wyK (zs ks : List Str) : Nat → List Nat → Nat
  | 0, _ => 1
  | k + 1, p => prodM (fun x => wyK zs ks k x + if S x ∈ ks then 0 else 1) (kidsW zs p)
def wy (zs ks : List Str) (p : List Nat) : Nat := wyK zs ks (300 - p.length) p
def wyG (zs ks : List Str) (x : List Nat) : Nat := wy zs ks x + if S x ∈ ks then 0 else 1
section
variable {zs ks : List Str} {e : List Nat}
theorem kids_mem {p x : List Nat} : x ∈ kidsW zs p ↔ S x ∈ zs ∧ ∃ c ∈ letL, x = p ++ [c] := by
  unfold kidsW
  rw [List.mem_filter, List.mem_map, decide_eq_true_eq]
  constructor
  · rintro ⟨⟨c, hc, rfl⟩, h⟩
    exact ⟨h, c, hc, rfl⟩
  · rintro ⟨h, c, hc, rfl⟩
    exact ⟨⟨c, hc, rfl⟩, h⟩
theorem kids_len {p x : List Nat} (h : x ∈ kidsW zs p) : x.length = p.length + 1 := by
  obtain ⟨_, c, _, rfl⟩ := kids_mem.mp h
  rw [List.length_append]
  rfl
theorem kids_nodup {p : List Nat} : (kidsW zs p).Nodup := by
  refine List.Pairwise.filter _ ?_
  have : letL.Nodup := by decide
  refine List.pairwise_map.mpr (this.imp fun {a b} h z => h ?_)
  have := List.append_cancel_left z
  cases this
  rfl
theorem wy_eq {p : List Nat} (h : p.length < 300) : wy zs ks p = prodM (wyG zs ks) (kidsW zs p) := by
  unfold wy
  rw [show 300 - p.length = (300 - (p.length + 1)) + 1 by omega]
  refine prodM_congr fun x hx => ?_
  unfold wyG wy
  rw [kids_len hx]
theorem wyK_pos : ∀ (k : Nat) (p : List Nat), 1 ≤ wyK zs ks k p
  | 0, _ => Nat.le_refl _
  | k + 1, p => prodM_pos (fun x => by have := wyK_pos k x; show 1 ≤ wyK zs ks k x + _; omega) _
theorem wyG_pos (x : List Nat) : 1 ≤ wyG zs ks x := by
  have := wyK_pos (zs := zs) (ks := ks) (300 - x.length) x
  unfold wyG wy
  omega
def preC (zs : List Str) (p : List Nat) : Nat := zs.countP fun z => pr p z.cps.toList
def belC (zs : List Str) (p : List Nat) : Nat := zs.countP fun z => pr p z.cps.toList && decide (z ≠ S p)
theorem pre_bel {p : List Nat} (h : S p ∈ zs) : belC zs p + 1 ≤ preC zs p := by
  have h1 : 1 ≤ zs.countP fun z => decide (z = S p) := by
    rw [Nat.one_le_iff_ne_zero, ← Nat.pos_iff_ne_zero, List.countP_pos_iff]
    exact ⟨_, h, decide_eq_true rfl⟩
  have h2 := count_or (p := fun z : Str => pr p z.cps.toList && decide (z ≠ S p)) (q := fun z => decide (z = S p)) (l := zs) fun a _ k => by
    rw [Bool.and_eq_true] at k
    have k2 := of_decide_eq_true k.2
    exact decide_eq_false k2
  have h3 : (zs.countP fun z => (pr p z.cps.toList && decide (z ≠ S p)) || decide (z = S p)) ≤ preC zs p := by
    refine List.countP_mono_left fun z _ k => ?_
    rw [Bool.or_eq_true, Bool.and_eq_true] at k
    rcases k with k | k
    · exact k.1
    · rw [of_decide_eq_true k]
      exact pr_iff.mpr (List.prefix_refl _)
  unfold belC
  omega
theorem pr_len_eq {c d z : List Nat} (l : c.length = d.length) (h1 : pr c z = true) (h2 : pr d z = true) : c = d := by
  obtain ⟨s, rfl⟩ := pr_iff.mp h1
  obtain ⟨t, e⟩ := pr_iff.mp h2
  exact ((List.append_inj e (l.symm)).1).symm
theorem pre_sum {m : Nat} : ∀ {l : List (List Nat)}, l.Nodup → (∀ c ∈ l, c.length = m) → (l.map (preC zs)).sum = zs.countP fun z => l.any fun c => pr c z.cps.toList
  | [], _, _ => by
    show 0 = _
    symm
    rw [List.countP_eq_zero]
    intro a _ z
    cases z
  | c :: l, nd, hl => by
    obtain ⟨n1, n2⟩ := List.nodup_cons.mp nd
    show preC zs c + (l.map (preC zs)).sum = _
    rw [pre_sum n2 fun d hd => hl d (List.mem_cons_of_mem _ hd)]
    unfold preC
    rw [count_or]
    · rfl
    · intro z _ k
      rw [Bool.eq_false_iff]
      intro q
      obtain ⟨d, hd, k2⟩ := List.any_eq_true.mp q
      have := pr_len_eq ((hl c (List.mem_cons_self ..)).trans (hl d (List.mem_cons_of_mem _ hd)).symm) k k2
      rw [this] at n1
      exact n1 hd
theorem kids_sum {p : List Nat} : ((kidsW zs p).map (preC zs)).sum ≤ belC zs p := by
  rw [pre_sum kids_nodup fun c hc => kids_len hc]
  refine List.countP_mono_left fun z _ k => ?_
  obtain ⟨x, hx, k2⟩ := List.any_eq_true.mp k
  obtain ⟨_, c, _, rfl⟩ := kids_mem.mp hx
  obtain ⟨t, e⟩ := pr_iff.mp k2
  rw [Bool.and_eq_true]
  refine ⟨pr_iff.mpr ⟨[c] ++ t, by rw [← List.append_assoc]; exact e⟩, decide_eq_true fun q => ?_⟩
  rw [q] at e
  have := congrArg List.length e
  rw [List.length_append, List.length_append] at this
  have k3 : (S p).cps.toList.length = p.length := rfl
  rw [k3] at this
  have k4 : [c].length = 1 := rfl
  omega
theorem wyK_le : ∀ (k : Nat) (p : List Nat), wyK zs ks k p ≤ 2 ^ belC zs p
  | 0, p => Nat.one_le_two_pow
  | k + 1, p => by
    refine Nat.le_trans (prodM_le (s := preC zs) fun x hx => ?_) (Nat.pow_le_pow_right (by decide) kids_sum)
    have h1 := wyK_le k x
    have h2 := pre_bel (kids_mem.mp hx).1
    have h3 : (2 : Nat) ^ (belC zs x + 1) ≤ 2 ^ preC zs x := Nat.pow_le_pow_right (by decide) h2
    have h4 : 1 ≤ 2 ^ belC zs x := Nat.one_le_two_pow
    rw [Nat.pow_succ] at h3
    have h5 : (if S x ∈ ks then 0 else 1) ≤ 1 := by split <;> omega
    show wyK zs ks k x + _ ≤ _
    omega
theorem wy_le (p : List Nat) (few : zs.length ≤ 201) : wy zs ks p ≤ 2 ^ 201 := by
  refine Nat.le_trans (wyK_le _ p) (Nat.pow_le_pow_right (by decide) ?_)
  exact Nat.le_trans List.countP_le_length few
theorem wyG_le (p : List Nat) (few : zs.length ≤ 201) : wyG zs ks p ≤ 2 ^ 202 := by
  have h1 := wy_le (ks := ks) p few
  have h5 : (if S p ∈ ks then 0 else 1) ≤ 1 := by split <;> omega
  have h6 : (2 : Nat) ^ 202 = 2 ^ 201 * 2 := Nat.pow_succ ..
  have h7 : 1 ≤ (2 : Nat) ^ 201 := Nat.one_le_two_pow
  unfold wyG
  omega
theorem part_le {p : List Nat} (f : List Nat → Bool) (few : zs.length ≤ 201) (hp : p.length < 300) : prodM (wyG zs ks) ((kidsW zs p).filter f) ≤ 2 ^ 201 := by
  refine Nat.le_trans (prodM_filter_le wyG_pos f _) ?_
  rw [← wy_eq hp]
  exact wy_le p few
theorem ways_part {p : List Nat} (j : Nat) : ((letL.take j).map fun c => p ++ [c]).filter (fun x => decide (S x ∈ zs)) = (kidsW zs p).filter fun x => decide (x ∈ (letL.take j).map fun c => p ++ [c]) := by
  have key : ∀ l : List Nat, l.Nodup → ∀ j : Nat, ((l.take j).map fun c => p ++ [c]) = (l.map fun c => p ++ [c]).filter fun x => decide (x ∈ (l.take j).map fun c => p ++ [c]) := by
    intro l
    induction l with
    | nil => intro _ j; rw [List.take_nil]; rfl
    | cons a l ih =>
      intro nd j
      obtain ⟨na, nd⟩ := List.nodup_cons.mp nd
      cases j with
      | zero =>
        rw [List.take_zero]
        symm
        exact List.filter_eq_nil_iff.mpr fun x _ h => by cases of_decide_eq_true h
      | succ j =>
        rw [List.take_succ_cons, List.map_cons, List.map_cons, List.filter_cons, if_pos (decide_eq_true (List.mem_cons_self ..))]
        congr 1
        conv => lhs; rw [ih nd j]
        refine List.filter_congr fun x hx => decide_eq_decide.mpr ?_
        obtain ⟨c, hc, rfl⟩ := List.mem_map.mp hx
        rw [List.mem_cons]
        refine ⟨.inr, fun h => h.resolve_left fun z => ?_⟩
        have := List.append_cancel_left z
        cases this
        exact na hc
  have nl : letL.Nodup := by decide
  unfold kidsW
  rw [List.filter_filter]
  conv => lhs; rw [key letL nl j]
  rw [List.filter_filter]
  exact List.filter_congr fun x _ => Bool.and_comm ..
theorem mul_fits {a b : Nat} (h1 : a ≤ 2 ^ 202) (h2 : b ≤ 2 ^ 202) : CMulW (a : Int) (b : Int) := by
  have k : (2 : Nat) ^ 202 < 2 ^ 203 := Nat.pow_lt_pow_right (by decide) (by decide)
  refine wide_mul (a := 203) (b := 203) ?_ ?_ (by decide) (by decide) (by decide)
  · rw [Int.natAbs_natCast]; omega
  · rw [Int.natAbs_natCast]; omega
/-- all that must be: one way -/
theorem wy_all (h : ∀ z ∈ zs, z ∈ ks) : ∀ (k : Nat) (p : List Nat), wyK zs ks k p = 1
  | 0, _ => rfl
  | k + 1, p => prodM_one fun x hx => by
    show wyK zs ks k x + _ = 1
    rw [wy_all h k x, if_pos (h _ (kids_mem.mp hx).1)]
end
/-! ### the least and the greatest solution -/
theorem onw_nil {g x : List Nat} : onw [] g x ↔ x <+: g := by
  constructor
  · intro h
    rcases onw_sub h with k | k
    · rw [List.prefix_nil.mp k]
      exact List.nil_prefix
    · exact k
  · intro h y
    cases y with
    | nil => exact .inl rfl
    | cons c y =>
      cases hx : pr (c :: y) x with
      | false => exact .inl (by rfl)
      | true =>
        right
        exact (pr_iff.mpr (List.IsPrefix.trans (pr_iff.mp hx) h)).symm
/-- all beginnings of words, and the empty one -/
def allB (ws : List (List Nat)) : List Str := S [] :: ws.flatMap begs
theorem mem_begs {g : List Nat} {z : Str} : z ∈ begs g ↔ ∃ x, z = S x ∧ x <+: g := by
  unfold begs
  rw [List.mem_map]
  constructor
  · rintro ⟨i, _, rfl⟩
    exact ⟨_, rfl, List.take_prefix ..⟩
  · rintro ⟨x, rfl, h⟩
    refine ⟨x.length, List.mem_range.mpr (Nat.lt_succ_of_le h.length_le), ?_⟩
    rw [← List.prefix_iff_eq_take.mp h]
theorem mem_allB {ws : List (List Nat)} {z : Str} : z ∈ allB ws ↔ ∃ x, z = S x ∧ (x = [] ∨ ∃ g ∈ ws, x <+: g) := by
  unfold allB
  rw [List.mem_cons, List.mem_flatMap]
  constructor
  · rintro (rfl | ⟨g, hg, hz⟩)
    · exact ⟨[], rfl, .inl rfl⟩
    · obtain ⟨x, rfl, h⟩ := mem_begs.mp hz
      exact ⟨x, rfl, .inr ⟨g, hg, h⟩⟩
  · rintro ⟨x, rfl, rfl | ⟨g, hg, h⟩⟩
    · exact .inl rfl
    · exact .inr ⟨g, hg, mem_begs.mpr ⟨x, rfl, h⟩⟩
theorem trd_len {zs : List Str} {e w : List Nat} (T : Trd zs e) (h : S w ∈ zs) : w.length + 1 ≤ zs.length := by
  have pre : ∀ k, S (w.take k) ∈ zs := shut_pre (A := fun w => S w ∈ zs) T.cl h
  have nd : ((List.range (w.length + 1)).map fun k => S (w.take k)).Nodup := by
    rw [List.nodup_iff_pairwise_ne, List.pairwise_map]
    refine List.Pairwise.imp_of_mem (fun {i j} hi hj hl e => ?_) List.pairwise_lt_range
    have := congrArg List.length (S_inj e)
    have := List.mem_range.mp hj
    rw [List.length_take, List.length_take] at *
    omega
  have := len_sub (m := zs) nd (fun z hz => by
    obtain ⟨k, _, rfl⟩ := List.mem_map.mp hz
    exact pre k)
  rw [List.length_map, List.length_range] at this
  exact this
def wordsOf (zs : List Str) : List (List Nat) := zs.map fun z => z.cps.toList
def stopE (c b : List Nat) : List Nat := fol c (mir b)
def givenE (A B : List Str) (c b : List Nat) : List Str := A ++ mv (stopE c b) B
def dueE (A B C : List Str) (a b c : List Nat) : List (List Nat) := ((C.filter fun z => decide (z ∉ givenE A B c b)).map fun z => fol (mir a) z.cps.toList) ++ [fol (mir a) (stopE c b)]
def lowE (A B C : List Str) (a b c : List Nat) : List Str := ordS (allB (dueE A B C a b c))
def endE (a b c : List Nat) : List Nat := fol (mir a) (stopE c b)
/-- three treads, an equation -/
structure Eqn (A B C : List Str) (a b c : List Nat) : Prop where
  A : Trd A a
  B : Trd B b
  C : Trd C c
section
variable {A B C X : List Str} {a b c : List Nat}
theorem Eqn.stop (E : Eqn A B C a b c) : IsL (stopE c b) ∧ isP (stopE c b) = true ∧ (stopE c b).length ≤ 400 := by
  have c1 := E.C.word E.C.en
  have b1 := E.B.word E.B.en
  have m1 := b1.1.mir
  have m2 : (mir b).length = b.length := mir_len b
  have fl := fol_len (p := c) (w := mir b)
  exact ⟨IsL.fol c1.1 m1, isP_fol c1.1 m1 c1.2.1, by unfold stopE; omega⟩
theorem Eqn.given (E : Eqn A B C a b c) : ∀ z ∈ givenE A B c b, ∃ w, z = S w ∧ IsL w ∧ isP w = true ∧ w.length ≤ 600 := fun z hz => by
  rcases List.mem_append.mp hz with h | h
  · obtain ⟨w, rfl, _⟩ := E.A.pl z h
    have := E.A.word h
    exact ⟨w, rfl, this.1, this.2.1, by omega⟩
  · obtain ⟨w, hw, rfl⟩ := mem_mv.mp h
    have := E.B.word hw
    have s := E.stop
    have fl := fol_len (p := stopE c b) (w := w)
    exact ⟨_, rfl, IsL.fol s.1 this.1, isP_fol s.1 this.1 s.2.1, by omega⟩
theorem Eqn.given_len (E : Eqn A B C a b c) : (givenE A B c b).length ≤ 402 := by
  unfold givenE
  have h1 := E.A.few
  have h2 := E.B.few
  rw [List.length_append]
  unfold mv
  rw [List.length_map]
  omega
theorem stop_in (B1 : Trd B b) (h : ∀ z ∈ givenE A B c b, z ∈ C) : S (stopE c b) ∈ C := by
  refine h _ (List.mem_append.mpr (.inr (mem_mv.mpr ⟨[], B1.nil_mem, ?_⟩)))
  rfl
theorem start_in (A1 : Trd A a) (h : ∀ z ∈ givenE A B c b, z ∈ C) : S a ∈ C := h _ (List.mem_append.mpr (.inl A1.en))
theorem Eqn.most (E : Eqn A B C a b c) (h : ∀ z ∈ givenE A B c b, z ∈ C) : Trd (turnS C a) (endE a b c) := by
  have T := (E.C.ended (start_in E.A h)).turn
  refine T.ended ?_
  exact memT.mpr ⟨_, stop_in E.B h, rfl⟩
theorem Eqn.due (E : Eqn A B C a b c) (h : ∀ z ∈ givenE A B c b, z ∈ C) : ∀ g ∈ dueE A B C a b c, S g ∈ turnS C a := fun g hg => by
  rcases List.mem_append.mp hg with k | k
  · obtain ⟨z, hz, rfl⟩ := List.mem_map.mp k
    obtain ⟨hz, _⟩ := List.mem_filter.mp hz
    obtain ⟨w, rfl, _⟩ := E.C.pl z hz
    exact memT.mpr ⟨w, hz, rfl⟩
  · rw [List.mem_singleton.mp k]
    exact (E.most h).en
theorem Trd.pre {zs : List Str} {e g x : List Nat} (T : Trd zs e) (h : S g ∈ zs) (k : x <+: g) : S x ∈ zs := by
  have := shut_pre (A := fun w => S w ∈ zs) T.cl h x.length
  rwa [← List.prefix_iff_eq_take.mp k] at this
theorem Eqn.low_sub (E : Eqn A B C a b c) (h : ∀ z ∈ givenE A B c b, z ∈ C) : ∀ z ∈ allB (dueE A B C a b c), z ∈ turnS C a := fun z hz => by
  obtain ⟨x, rfl, rfl | ⟨g, hg, k⟩⟩ := mem_allB.mp hz
  · exact (E.most h).nil_mem
  · exact (E.most h).pre (E.due h g hg) k
theorem Eqn.low (E : Eqn A B C a b c) (h : ∀ z ∈ givenE A B c b, z ∈ C) : Trd (lowE A B C a b c) (endE a b c) := by
  have M := E.most h
  refine ⟨ord_ord _, fun z hz => M.pl z (E.low_sub h z (mem_ordS.mp hz)), fun w hw => ?_, ?_, ?_⟩
  · obtain ⟨x, e, k⟩ := mem_allB.mp (mem_ordS.mp hw)
    cases S_inj e
    refine mem_ordS.mpr (mem_allB.mpr ⟨_, rfl, ?_⟩)
    rcases k with rfl | ⟨g, hg, k⟩
    · exact .inl rfl
    · exact .inr ⟨g, hg, (List.dropLast_prefix _).trans k⟩
  · exact Nat.le_trans (len_sub (ordS_nodup _) fun z hz => E.low_sub h z (mem_ordS.mp hz)) M.few
  · exact mem_ordS.mpr (mem_allB.mpr ⟨_, rfl, .inr ⟨_, List.mem_append.mpr (.inr (List.mem_singleton.mpr rfl)), List.prefix_refl _⟩⟩)
/-- what stands between is a solution -/
theorem Eqn.solves (E : Eqn A B C a b c) (h : ∀ z ∈ givenE A B c b, z ∈ C) (T : Trd X (endE a b c)) (lo : ∀ z ∈ lowE A B C a b c, z ∈ X) (hi : ∀ z ∈ X, z ∈ turnS C a) :
    joinS (joinS A a X) (fol a (endE a b c)) B = C ∧ fol (fol a (endE a b c)) b = c ∧ Trd (joinS A a X) (fol a (endE a b c)) := by
  have s := E.stop
  have a1 := E.A.word E.A.en
  have c1 := E.C.word E.C.en
  have b1 := E.B.word E.B.en
  have e1 : fol a (endE a b c) = stopE c b := fol_home a1.1 a1.2.1 s.1 s.2.1
  have sub1 : ∀ w, S w ∈ joinS A a X → S w ∈ C := fun w hw => by
    rcases memJ.mp hw with k | ⟨x, hx, rfl⟩
    · exact h _ (List.mem_append.mpr (.inl k))
    · obtain ⟨y, hy, rfl⟩ := memT.mp (hi _ hx)
      have y1 := E.C.word hy
      rw [fol_home a1.1 a1.2.1 y1.1 y1.2.1]
      exact hy
  have Tj : Trd (joinS A a X) (fol a (endE a b c)) := E.A.join T (Nat.le_trans (len_sub (by unfold joinS; exact ordS_nodup _) fun z hz => by
    obtain ⟨w, rfl⟩ := sJ E.A T.s z hz
    exact sub1 w hz) E.C.few)
  refine ⟨?_, ?_, Tj⟩
  · refine ord_ext oJ E.C.asc (sJ Tj E.B.s) E.C.s fun w => ?_
    rw [memJ, e1]
    constructor
    · rintro (k | ⟨x, hx, rfl⟩)
      · exact sub1 w k
      · exact h _ (List.mem_append.mpr (.inr (mem_mv.mpr ⟨x, hx, rfl⟩)))
    · intro k
      by_cases g : S w ∈ givenE A B c b
      · rcases List.mem_append.mp g with q | q
        · exact .inl (memJ.mpr (.inl q))
        · obtain ⟨x, hx, ex⟩ := mem_mv.mp q
          exact .inr ⟨x, hx, S_inj ex⟩
      · left
        have w1 := E.C.word k
        refine memJ.mpr (.inr ⟨fol (mir a) w, lo _ ?_, (fol_home a1.1 a1.2.1 w1.1 w1.2.1).symm⟩)
        refine mem_ordS.mpr (mem_allB.mpr ⟨_, rfl, .inr ⟨_, List.mem_append.mpr (.inl (List.mem_map.mpr ⟨_, List.mem_filter.mpr ⟨k, decide_eq_true g⟩, rfl⟩)), List.prefix_refl _⟩⟩)
  · rw [e1]
    unfold stopE
    have m1 := b1.1.mir
    rw [← fol_app]
    have : fol c (mir b ++ b) = fol c (fol [] (mir b ++ b)) := (fol_fol c1.1 c1.2.1 _ (m1.app b1.1)).symm
    rw [this, fol_app, fol_nil m1 (isP_mir b1.1 b1.2.1)]
    have := fol_mir0 (p := mir b) m1 (isP_mir b1.1 b1.2.1)
    rw [mir_mir b1.1] at this
    rw [this]
    rfl
end
end Xia

set_option Elab.async false
set_option linter.all false
set_option maxRecDepth 100000
set_option maxHeartbeats 4000000
set_option autoImplicit false
/-! Own: what the defs of equations give. -/
namespace Xia
open PySem PySem.Spec PyProof.Rows L2 SX LamX
theorem lc_fmS {ai : AI} {at_ : AT} {ae : AE} {i : Nat} {vs : List Nat} {δ : List SD} {G : List PyData → List SD → Prop} (zs : List Str) (p : Str → Bool) (f : Str → PyData) (small : zs.length ≤ sizeLine) (hw : wipeD δ vs = δ)
    (ht : ∀ z ∈ zs, wipeD (δ.set i (.da (.str z))) vs = δ ∧ (∀ G' : Bool → List SD → Prop, G' (p z) (δ.set i (.da (.str z))) → at_ (δ.set i (.da (.str z))) G') ∧ ∀ G' : PyData → List SD → Prop, p z = true → G' (f z) (δ.set i (.da (.str z))) → ae (δ.set i (.da (.str z))) G')
    (hi : ∀ G' : List PyData → List SD → Prop, G' (zs.map .str) δ → ai δ G') (g : G ((zs.filter p).map f) δ) : alLc ai (agName i) at_ ae vs δ G := by
  refine hi _ ⟨fun j acc δ' => acc = ((zs.take j).filter p).map f ∧ δ' = δ, ⟨rfl, rfl⟩, ?_, by rw [List.length_map]; exact small, ?_⟩
  · rintro j x acc δ' hx _ _ ⟨rfl, rfl⟩
    rw [List.getElem?_map] at hx
    obtain ⟨z, hz, rfl⟩ := Option.map_eq_some_iff.mp hx
    obtain ⟨h1, h2, h3⟩ := ht z (List.mem_of_getElem? hz)
    show at_ ((wipeD δ' vs).set i _) _
    rw [hw]
    refine h2 _ ?_
    have e : zs.take (j + 1) = zs.take j ++ [z] := by rw [List.take_succ, hz]; rfl
    cases hp : p z with
    | true =>
      rw [if_pos rfl]
      refine h3 _ hp ?_
      refine ⟨?_, h1⟩
      rw [e, List.filter_append, List.map_append]
      simp [hp]
    | false =>
      rw [if_neg Bool.false_ne_true]
      refine ⟨?_, h1⟩
      rw [e, List.filter_append, List.map_append]
      simp [hp]
  · rintro acc δ' _ ⟨rfl, rfl⟩
    rw [List.length_map, List.take_length]
    exact g
def noneD : PyData → Bool
  | .none => true
  | .dict _ => true
  | _ => false
theorem s_is_none {i : Nat} {x rest : AS} {A : AEnds} {δ : List SD} (hi : δ[i]? = some (.da .none)) (k : x { A with nx := rest A } δ) : aSeq (aIfS (aMT (aOp (dIsN false) (aV i) (aC .none))) x aNext) rest A δ :=
  s_if (t_mt (e_op (e_v hi k)))
theorem s_if_none {i : Nat} {x y : AS} {A : AEnds} {δ : List SD} (hi : δ[i]? = some (.da .none)) (k : x A δ) : aIfS (aMT (aOp (dIsN false) (aV i) (aC .none))) x y A δ :=
  s_if1 (t_mt (e_op (e_v hi k)))
theorem s_if_some {i : Nat} {x y : AS} {A : AEnds} {δ : List SD} {d : PyData} (hi : δ[i]? = some (.da d)) (n : noneD d = false) (k : y A δ) : aIfS (aMT (aOp (dIsN false) (aV i) (aC .none))) x y A δ := by
  refine s_if1 (t_mt (e_op (e_v hi ?_)))
  cases d <;> first | exact k | cases n
theorem t_same {ax ay : AE} {δ : List SD} {G : Bool → List SD → Prop} (z : Str) (hx : ∀ G' : PyData → List SD → Prop, G' (.str z) δ → ax δ G') (hy : ∀ G' : PyData → List SD → Prop, G' (.str z) δ → ay δ G') (k : G false δ) : aMT (aOp (dEq true) ax ay) δ G := by
  refine t_mt (e_op (hx _ (hy _ ?_)))
  show G (true != decide (z = z)) δ
  rw [decide_eq_true rfl]
  exact k
theorem t_or_ff {a b : AT} {δ : List SD} {G : Bool → List SD → Prop} (ha : ∀ G' : Bool → List SD → Prop, G' false δ → a δ G') (hb : ∀ G' : Bool → List SD → Prop, G' false δ → b δ G') (k : G false δ) : aOr a b δ G := by
  refine ha _ ?_
  show (if false = true then _ else _)
  rw [if_neg (by decide)]
  exact hb _ k
theorem s_if_ff {a : AT} {x rest : AS} {A : AEnds} {δ : List SD} (ha : ∀ G' : Bool → List SD → Prop, G' false δ → a δ G') (k : rest A δ) : aSeq (aIfS a x aNext) rest A δ := by
  refine s_if (ha _ ?_)
  show (if false = true then _ else _)
  rw [if_neg (by decide)]
  exact k
theorem s_if1_ff {a : AT} {x : AS} {A : AEnds} {δ : List SD} (ha : ∀ G' : Bool → List SD → Prop, G' false δ → a δ G') (k : A.nx δ) : aIfS a x aNext A δ := by
  refine s_if1 (ha _ ?_)
  show (if false = true then _ else _)
  rw [if_neg (by decide)]
  exact k
theorem s_is_some {i : Nat} {x rest : AS} {A : AEnds} {δ : List SD} {d : PyData} (hi : δ[i]? = some (.da d)) (n : noneD d = false) (k : rest A δ) : aSeq (aIfS (aMT (aOp (dIsN false) (aV i) (aC .none))) x aNext) rest A δ := by
  refine s_if (t_mt (e_op (e_v hi ?_)))
  cases d <;> first | exact k | cases n
theorem shaped_S {n : Nat} {zs : List Str} (h : ∀ z ∈ zs, Ls n z) : SeqAt.shaped (.list (zs.map .str)) = true := (nice_list (k := 0) (n := 10 * n + 2) (m := zs.length) (fun d hd => by
  obtain ⟨z, hz1, rfl⟩ := List.mem_map.mp hd
  exact nice_str (h z hz1)) (by rw [List.length_map]; exact Nat.le_refl _)).shaped (by decide)
theorem filter_has (zs ys : List Str) : decide ((ys.filter fun z => !decide (z ∈ zs)) = []) = hasB zs ys := by
  rw [Bool.eq_iff_iff, decide_eq_true_eq, List.filter_eq_nil_iff, hasB_iff]
  refine forall_congr' fun z => forall_congr' fun _ => ?_
  by_cases c : z ∈ zs
  · simp [c]
  · simp [c]
theorem lets8 : ("abcdABCD" : Str).cps.toList = letL := by decide +kernel
theorem al_cat_places {i : Nat} {bl : AA} {δ : List SD} {G : List PyData → List SD → Prop} {zs : List Str} {e : Str} (hi : δ[i]? = some (.da (treadD zs e))) (h : bl δ fun es δ2 => (zs.map PyData.str).length + es.length ≤ sizeLine ∧ G (zs.map .str ++ es) δ2) :
    alCat (alListOf (aCons (aOp dIx (aV i) (aC (.int 0))) aNil)) bl δ G := by
  unfold alCat alListOf
  refine a_cons (e_op (e_v hi ?_))
  exact ⟨.tuple (zs.map .str), rfl, h⟩
theorem s_for {ai : AI} {ag : AG} {ab rest : AS} {A : AEnds} {δ : List SD} (h : ai δ fun ds δ1 => ∃ I : Nat → List SD → Prop, I 0 δ1 ∧
  (∀ (j : Nat) (x : PyData) (δ' : List SD), ds[j]? = some x → I j δ' → ag x δ' fun δ2 => ab { A with nx := I (j + 1), ct := I (j + 1), bk := rest A } δ2) ∧ ∀ δ', I ds.length δ' → rest A δ') : aSeq (aFor ai ag ab) rest A δ := h
theorem i_any {ae : AE} {δ : List SD} {G : List PyData → List SD → Prop} (h : ae δ fun d δ1 => ∃ ds, Items d ds ∧ G ds δ1) : aAny ae δ G := h
theorem al_cat {al bl : AA} {δ : List SD} {G : List PyData → List SD → Prop} (h : al δ fun ds δ1 => bl δ1 fun es δ2 => ds.length + es.length ≤ sizeLine ∧ G (ds ++ es) δ2) : alCat al bl δ G := h
/-- an own list + a new one, back into its slot -/
theorem s_cat_own {i : Nat} {bl : AA} {A : AEnds} {δ : List SD} {ds es : List PyData} (hi : δ[i]? = some (.ac ds)) (hb : ∀ G : List PyData → List SD → Prop, G es δ → bl δ G) (l : ds.length + es.length ≤ sizeLine) (k : A.nx (δ.set i (.ac (ds ++ es)))) : aSetL (alCatV i bl) i A δ := by
  unfold aSetL alCatV
  rw [hi]
  refine hb _ ?_
  rw [hi]
  exact ⟨l, .inr k⟩
theorem flat_begs {m : Nat} : ∀ {ws : List (List Nat)}, (∀ g ∈ ws, g.length ≤ m) → (ws.flatMap begs).length ≤ ws.length * (m + 1)
  | [], _ => Nat.zero_le _
  | g :: ws, h => by
    rw [List.flatMap_cons, List.length_append, List.length_cons, Nat.succ_mul]
    have h1 := flat_begs fun x hx => h x (List.mem_cons_of_mem _ hx)
    have h2 := h g (List.mem_cons_self ..)
    have h3 : (begs g).length = g.length + 1 := by unfold begs; rw [List.length_map, List.length_range]
    omega
theorem cond_t {p : Prop} [Decidable p] (c : (false != decide p) = true) : p := by
  apply Classical.byContradiction
  intro n
  rw [decide_eq_false n] at c
  cases c
theorem cond_f {p : Prop} [Decidable p] (c : ¬ (false != decide p) = true) : ¬ p := fun h => c (by rw [decide_eq_true h]; rfl)
def solD (A B C : List Str) (a b c : List Nat) : PyData := if hasB C (givenE A B c b) = true then .tuple [treadD (lowE A B C a b c) (S (endE a b c)), treadD (turnS C a) (S (endE a b c)), .int (wy (turnS C a) (lowE A B C a b c) [])] else .none
theorem nice_int {n : Nat} (h : n ≤ 2 ^ 202) : Nice 0 70 (.int (n : Int)) := by
  have k1 : (2 : Nat) ^ 202 < 2 ^ 203 := Nat.pow_lt_pow_right (by decide) (by decide)
  have k2 : (2 : Nat) ^ 202 < 10 ^ 70 := by decide
  refine ⟨?_, rfl, Nat.le_refl _, ?_⟩
  · show decide ((n : Int).natAbs.log2 < 1920) = true
    rw [Int.natAbs_natCast]
    exact decide_eq_true (Nat.lt_trans (PySem.Flt.log2_lt_of (k := 203) (by decide) (by omega)) (by decide))
  · have e := (Nat.length_repr_le_iff (n := n) (by decide : 0 < 70)).mpr (by omega)
    show (Str.ofString (toString (n : Int))).length ≤ 70
    have e2 : toString (n : Int) = n.repr := rfl
    rw [e2, PySem.Str.ofString_eq_toList]
    show ((n.repr.toList.map Char.toNat).toArray).size ≤ 70
    rw [List.size_toArray, List.length_map, String.length_toList]
    exact e
theorem shows_sol {A B : List Str} {a b : List Nat} {n : Nat} (T : Trd A a) (U : Trd B b) (h : n ≤ 2 ^ 202) : Shows (.tuple [treadD A (S a), treadD B (S b), .int (n : Int)]) :=
  (nice_tuple (k := 2) (n := 809648) (m := 3) (fun d hd => by
    simp only [List.mem_cons, List.not_mem_nil, or_false] at hd
    rcases hd with rfl | rfl | rfl
    · exact ok_trd T
    · exact ok_trd U
    · exact (nice_int h).mono (by decide) (by decide)) (Nat.le_refl _)).shows (by decide) (by decide)
theorem shows_3 {A B C : List Str} {a b c : List Nat} (E : Eqn A B C a b c) : Shows (.tuple [treadD A (S a), treadD B (S b), treadD C (S c)]) :=
  (nice_tuple (k := 2) (n := 809648) (m := 3) (fun d hd => by
    simp only [List.mem_cons, List.not_mem_nil, or_false] at hd
    rcases hd with rfl | rfl | rfl
    · exact ok_trd E.A
    · exact ok_trd E.B
    · exact ok_trd E.C) (Nat.le_refl _)).shows (by decide) (by decide)
/-! ### rows of one letter -/
structure Row (c : Nat) (u : List Nat) : Prop where
  l : IsL u
  p : isP u = true
  lo : 100 ≤ u.length
  hi : u.length ≤ 200
  all : ∀ x ∈ u, x = c
theorem row_of {c : Nat} (h : c ∈ letC) {n : Nat} (h1 : 100 ≤ n) (h2 : n ≤ 200) : Row c ((rep [c] 200).take n) := by
  have pp : isP ([c] ++ [c]) = true := isP_iff.mpr fun i a b e1 e2 => by
    cases i with
    | zero =>
      cases e1
      cases e2
      intro z
      revert z
      revert h
      revert c
      decide
    | succ i =>
      cases i with
      | zero => cases e2
      | succ i => cases e2
  have pr2 := rep_isP pp (by simp) 200
  have rl : (rep [c] 200).length = 200 := by rw [rep_len]; rfl
  refine ⟨(rep_l (.one h) 200).take n, ?_, by rw [List.length_take]; omega, by rw [List.length_take]; omega, fun x hx => ?_⟩
  · have e := List.take_append_drop n (rep [c] 200)
    rw [← e] at pr2
    exact isP_left pr2
  · have := List.mem_of_mem_take hx
    unfold rep at this
    rw [List.mem_flatten] at this
    obtain ⟨l, hl, hx2⟩ := this
    rw [(List.mem_replicate.mp hl).2] at hx2
    exact List.mem_singleton.mp hx2
theorem fol_sub {w : List Nat} : ∀ {p : List Nat} {x : Nat}, x ∈ fol p w → x ∈ p ∨ x ∈ w := by
  induction w with
  | nil => intro p x h; exact .inl h
  | cons c w ih =>
    intro p x h
    rw [fol_cons] at h
    rcases ih h with k | k
    · unfold stp at k
      split at k
      · rw [List.dropLast_eq_take] at k
        exact .inl (List.mem_of_mem_take k)
      · rcases List.mem_append.mp k with k | k
        · exact .inl k
        · exact .inr (by rw [List.mem_singleton.mp k]; exact List.mem_cons_self ..)
    · exact .inr (List.mem_cons_of_mem _ k)
theorem Row.trd {c : Nat} {u : List Nat} (R : Row c u) : Trd (plc u) (fol [] u) := plc_trd R.l R.hi (mem_plc.mpr ⟨_, trodL_end _, rfl⟩)
theorem Row.fol {c : Nat} {u : List Nat} (R : Row c u) : fol [] u = u := fol_nil R.l R.p
theorem Row.mem {c : Nat} {u w : List Nat} (R : Row c u) (h : S w ∈ plc u) : ∀ x ∈ w, x = c := fun x hx => by
  rw [plc_place R.l R.p] at h
  obtain ⟨i, _, e⟩ := List.mem_map.mp h
  rw [← S_inj e] at hx
  exact R.all x (List.mem_of_mem_take hx)
theorem Row.pre {c : Nat} {u : List Nat} (R : Row c u) (k : Nat) : S (u.take k) ∈ plc u := by
  rw [plc_place R.l R.p]
  by_cases h : k ≤ u.length
  · exact List.mem_map.mpr ⟨k, List.mem_range.mpr (by omega), rfl⟩
  · refine List.mem_map.mpr ⟨u.length, List.mem_range.mpr (by omega), ?_⟩
    rw [List.take_length, List.take_of_length_le (by omega)]
theorem row_apart {c d : Nat} {u v : List Nat} (R : Row c u) (R2 : Row d v) (ne : c ≠ d) : ∃ z ∈ plc u, z ∉ plc v := by
  refine ⟨_, R.pre 1, fun h => ?_⟩
  have lo := R.lo
  cases u with
  | nil => exact absurd lo (by decide)
  | cons x u =>
    have h1 := R2.mem h x (by simp)
    have h2 := R.all x (List.mem_cons_self ..)
    exact ne (h2.symm.trans h1)
theorem one_trd : Trd [S []] [] := by
  have := plc_trd (u := []) (e := []) .nil (by decide) (mem_plc.mpr ⟨_, trodL_end _, rfl⟩)
  rw [plc_place .nil rfl] at this
  exact this
theorem no_sol1 {A B C : List Str} {a b c : List Nat} {z : Str} (h : z ∈ A) (n : z ∉ C) : solD A B C a b c = .none := by
  unfold solD
  exact if_neg fun k => n (hasB_iff.mp k z (List.mem_append.mpr (.inl h)))
theorem no_sol2 {u v : List Nat} (R : Row 97 u) (R2 : Row 99 v) : solD [S []] (plc u) (plc v) [] (fol [] u) (fol [] v) = .none := by
  unfold solD
  rw [if_neg fun k => ?_]
  have h := hasB_iff.mp k
  have E : Eqn [S []] (plc u) (plc v) [] (Xia.fol [] u) (Xia.fol [] v) := ⟨one_trd, R.trd, R2.trd⟩
  have hs := stop_in R.trd h
  have s := E.stop
  have sl := R2.mem hs
  have e1 : Xia.fol (stopE (Xia.fol [] v) (Xia.fol [] u)) u = v := by
    unfold stopE
    rw [R.fol, R2.fol, ← fol_app]
    have : Xia.fol v (mir u ++ u) = Xia.fol v (Xia.fol [] (mir u ++ u)) := (fol_fol R2.l R2.p _ (R.l.mir.app R.l)).symm
    rw [this, fol_app, fol_nil R.l.mir (isP_mir R.l R.p)]
    have := fol_mir0 (p := mir u) R.l.mir (isP_mir R.l R.p)
    rw [mir_mir R.l] at this
    rw [this]
    rfl
  have e2 := fol_home' s.1 s.2.1 R.l R.p
  rw [e1] at e2
  have lo := R.lo
  cases u with
  | nil => exact absurd lo (by decide)
  | cons x u =>
    have hx : x ∈ Xia.fol (mir (stopE (Xia.fol [] v) (Xia.fol [] (x :: u)))) v := by rw [e2]; exact List.mem_cons_self ..
    have x97 := R.all x (List.mem_cons_self ..)
    rcases fol_sub hx with k | k
    · have : ∀ y ∈ mir (stopE (Xia.fol [] v) (Xia.fol [] (x :: u))), y = oth 99 := fun y hy => by
        unfold mir at hy
        obtain ⟨q, hq, rfl⟩ := List.mem_map.mp (List.mem_reverse.mp hy)
        rw [sl q hq]
      have := this x k
      rw [x97] at this
      revert this
      decide
    · have := R2.all x k
      rw [x97] at this
      revert this
      decide
/-- nothing ahead, nothing behind: the goal itself -/
theorem sol_self {C : List Str} {c : List Nat} (T : Trd C c) : solD [S []] [S []] C [] [] c = .tuple [treadD C (S c), treadD C (S c), .int 1] := by
  have c1 := T.word T.en
  have E : Eqn [S []] [S []] C [] [] c := ⟨one_trd, one_trd, T⟩
  have st : stopE c [] = c := rfl
  have gv : ∀ z ∈ givenE [S []] [S []] c [], z ∈ C := fun z hz => by
    rcases List.mem_append.mp hz with h | h
    · rw [List.mem_singleton.mp h]; exact T.nil_mem
    · obtain ⟨w, hw, rfl⟩ := mem_mv.mp h
      cases S_inj (List.mem_singleton.mp hw)
      exact T.en
  have ee : endE [] [] c = c := fol_nil c1.1 c1.2.1
  have tn : turnS C [] = C := turn_nil T
  have lo : lowE [S []] [S []] C [] [] c = C := by
    rw [← T.asc]
    conv => rhs; rw [← T.asc]
    rw [T.asc]
    refine ordS_congr fun z => ⟨fun hz => ?_, fun hz => ?_⟩
    · have := E.low_sub gv z hz
      rwa [tn] at this
    · obtain ⟨w, rfl, w1, w2⟩ := T.pl z hz
      refine mem_allB.mpr ⟨w, rfl, ?_⟩
      by_cases g : S w ∈ givenE [S []] [S []] c []
      · rcases List.mem_append.mp g with h | h
        · exact .inl (S_inj (List.mem_singleton.mp h))
        · obtain ⟨x, hx, ex⟩ := mem_mv.mp h
          cases S_inj (List.mem_singleton.mp hx)
          refine .inr ⟨c, List.mem_append.mpr (.inr (List.mem_singleton.mpr ?_)), ?_⟩
          · exact ee.symm
          · rw [S_inj ex]
            exact List.prefix_refl _
      · refine .inr ⟨w, List.mem_append.mpr (.inl (List.mem_map.mpr ⟨_, List.mem_filter.mpr ⟨hz, decide_eq_true g⟩, ?_⟩)), List.prefix_refl _⟩
        exact fol_nil w1 w2
  unfold solD
  rw [if_pos (hasB_iff.mpr gv), lo, ee, tn]
  have : wy C C [] = 1 := wy_all (fun _ h => h) _ _
  rw [this]
  rfl
/-- x in an own list that grows -/
def rInOwn (K : PySem.W.Frag) (n : Bool) : R2 := rInRow K n
theorem oInOwn {X : Cx} {K : PySem.W.Frag} (hK : X.K = K := by rfl) : OpR X (compareOp .In) (rInOwn K false) := oInRow hK
def aInOwn (n : Bool) (ae : AE) (i : Nat) : AE := fun δ G => ae δ fun d δ1 => ∃ (z : Str) (zs : List Str), d = .str z ∧ δ1[i]? = some (.ac (zs.map .str)) ∧ G (.bool (n != decide (z ∈ zs))) δ1
instance simInOwn {K : PySem.W.Frag} {T : List (Addr × Str)} {n : Bool} {i : Nat} {te : TE} {ae : AE} [h1 : SimE K T te ae] : SimE K T (tOp (rInOwn K n) te (tV i)) (aInOwn n ae i) := ⟨fun {B M δ σ H Q G} S h q => h1.run S h fun v M1 H1 d δ1 g1 f1 S1 w1 => by
  obtain ⟨z, zs, rfl, hi, g⟩ := g1
  cases w1
  obtain ⟨l, vs, e, k1, k2, k3, k4, _⟩ := S1.sl _ _ hi
  show tV i _ H1 fun y H2 => rInRow K n (.str z) y H2 Q
  unfold tV
  rw [e]
  have ev := dpAll_strs k4
  subst ev
  exact ⟨zs, .inl (.inl (.inl k3)), q _ _ _ _ _ g f1 S1 (.bl _)⟩⟩
def dCheckEq : List PyData → (PyData → Prop) → Prop := fun ds G => ∃ A B C a b c, ds = [treadD A (S a), treadD B (S b), treadD C (S c)] ∧ Eqn A B C a b c ∧ G .none
def dHasAllQ : List PyData → (PyData → Prop) → Prop := fun ds G => ∃ (zs ys : List Str) (d : PyData), ds = [.tuple (zs.map .str), d] ∧ (d = .list (ys.map .str) ∨ d = .tuple (ys.map .str)) ∧ zs.length ≤ 500 ∧ G (.bool (hasB zs ys))
def lamD (A B C : List Str) (a b c : List Nat) : PyData := if hasB C (givenE A B c b) = true then .tuple [treadD (lowE A B C a b c) (S (endE a b c)), treadD (turnS C a) (S (endE a b c))] else .none
def dLeastMost : List PyData → (PyData → Prop) → Prop := fun ds G => ∃ A B C a b c, ds = [treadD A (S a), treadD B (S b), treadD C (S c)] ∧ Eqn A B C a b c ∧ G (lamD A B C a b c)
def wayD (M L : List Str) : List (Key × PyData) := M.map fun z => ((.inr z : Key), PyData.int (wy M L z.cps.toList))
def dChoices : DD := fun ds G => ∃ L M e f, ds = [treadD L (S e), treadD M (S f)] ∧ Trd L e ∧ Trd M f ∧ G (wayD M L)
theorem getP_map {g : Str → PyData} {z : Str} : ∀ {zs : List Str}, z ∈ zs → getP (zs.map fun z => ((.inr z : Key), g z)) (.inr z) = some (g z)
  | [], h => by cases h
  | y :: zs, h => by
    by_cases c : y = z
    · subst c
      unfold getP
      rw [List.map_cons, List.find?_cons_of_pos (by exact decide_eq_true rfl)]
      rfl
    · unfold getP
      rw [List.map_cons, List.find?_cons_of_neg (by rw [decide_eq_true_eq]; exact fun e => c (Sum.inr.inj e))]
      exact getP_map ((List.mem_cons.mp h).resolve_left fun e => c e.symm)
theorem putP_map {g : Str → PyData} {z : Str} {d : PyData} {zs : List Str} (h : z ∈ zs) : putP (zs.map fun z => ((.inr z : Key), g z)) (.inr z) d = zs.map fun y => ((.inr y : Key), if y = z then d else g y) := by
  unfold putP
  rw [if_pos]
  · rw [List.map_map]
    refine List.map_congr_left fun y _ => ?_
    show (if (Sum.inr y : Key) = Sum.inr z then _ else _) = _
    by_cases c : y = z
    · rw [if_pos (by rw [c]), if_pos c]
    · rw [if_neg (fun e => c (Sum.inr.inj e)), if_neg c]
  · rw [List.any_eq_true]
    exact ⟨_, List.mem_map.mpr ⟨z, h, rfl⟩, decide_eq_true rfl⟩
section
variable {zs ks : List Str} {e : List Nat}
theorem Trd.head (T : Trd zs e) : zs = S [] :: zs.drop 1 := by
  have pos := T.pos
  have h0 : zs[0]? = some (zs[0]'(by omega)) := List.getElem?_eq_getElem (by omega)
  obtain ⟨w, ew, _⟩ := T.pl _ (List.mem_of_getElem? h0)
  have : w = [] := by
    apply Classical.byContradiction
    intro n
    rw [ew] at h0
    have := T.behind h0 n
    rw [List.take_zero] at this
    cases this
  subst this
  cases zs with
  | nil => exact absurd pos (by decide)
  | cons z r =>
    have : z = S [] := ew
    rw [this]
    rfl
def downR (zs : List Str) : List Str := (zs.drop 1).reverse
theorem downR_mem (T : Trd zs e) {p : List Nat} : S p ∈ downR zs ↔ S p ∈ zs ∧ p ≠ [] := by
  unfold downR
  rw [List.mem_reverse]
  have hd := T.head
  have nd := T.nodup
  rw [hd] at nd
  have nn := (List.nodup_cons.mp nd).1
  constructor
  · intro h
    exact ⟨by rw [hd]; exact List.mem_cons_of_mem _ h, fun z => nn (by rw [← z]; exact h)⟩
  · rintro ⟨h, ne⟩
    rw [hd] at h
    exact (List.mem_cons.mp h).resolve_left fun z => ne (S_inj z)
theorem kid_in (T : Trd zs e) {p x : List Nat} (hx : x ∈ kidsW zs p) : S x ∈ downR zs := (downR_mem T).mpr ⟨(kids_mem.mp hx).1, fun z => by
  have := kids_len hx
  rw [z] at this
  cases this⟩
theorem kid_down (T : Trd zs e) {p x : List Nat} {j : Nat} (h : (downR zs)[j]? = some (S p)) (hx : x ∈ kidsW zs p) : S x ∈ (downR zs).take j := by
  have lx := kids_len hx
  obtain ⟨i, hi, ei⟩ := List.getElem_of_mem (kid_in T hx)
  have hj := (List.getElem?_eq_some_iff.mp h).1
  have ej := (List.getElem?_eq_some_iff.mp h).2
  have pw : (downR zs).Pairwise fun a b => leS b a := by
    unfold downR
    rw [List.pairwise_reverse]
    exact T.up.sublist (List.drop_sublist ..)
  rcases Nat.lt_trichotomy i j with c | c | c
  · rw [← ei]
    exact List.mem_take_iff_getElem.mpr ⟨i, by omega, rfl⟩
  · subst c
    rw [ej] at ei
    rw [S_inj ei] at lx
    omega
  · have := List.pairwise_iff_getElem.mp pw j i hj hi c
    rw [ei, ej] at this
    rcases this with z | ⟨z, _⟩
    · rw [S_len, S_len] at z; omega
    · rw [S_len, S_len] at z; omega
theorem kid_of (T : Trd zs e) {p : List Nat} (h : S p ∈ zs) (ne : p ≠ []) : p ∈ kidsW zs p.dropLast := by
  have w := T.word h
  refine kids_mem.mpr ⟨h, p.getLast ne, letL_mem.mpr (w.1 _ (List.getLast_mem ne)), (List.dropLast_concat_getLast ne).symm⟩
theorem down_step (T : Trd zs e) {p : List Nat} {j : Nat} {g : List Nat → Nat} (h : (downR zs)[j]? = some (S p)) (hg : ∀ q, S q ∈ zs → g q = prodM (wyG zs ks) ((kidsW zs q).filter fun x => decide (S x ∈ (downR zs).take j))) :
    g p = wy zs ks p ∧ g p.dropLast ≤ 2 ^ 202 ∧ ∀ q, S q ∈ zs → (if q = p.dropLast then g p.dropLast * wyG zs ks p else g q) = prodM (wyG zs ks) ((kidsW zs q).filter fun x => decide (S x ∈ (downR zs).take (j + 1))) := by
  obtain ⟨hp, ne⟩ := (downR_mem T).mp (List.mem_of_getElem? h)
  have pl := (T.word hp).2.2
  have hj := (List.getElem?_eq_some_iff.mp h).1
  have ej := (List.getElem?_eq_some_iff.mp h).2
  have tk : (downR zs).take (j + 1) = (downR zs).take j ++ [S p] := by rw [List.take_succ, h]; rfl
  have nd : (downR zs).Nodup := by
    unfold downR
    exact (List.reverse_perm _).nodup_iff.mpr (T.nodup.sublist (List.drop_sublist ..))
  have np : S p ∉ (downR zs).take j := fun m => by
    obtain ⟨i, hi, ei⟩ := List.mem_take_iff_getElem.mp m
    have : i = j := (List.getElem_inj (h₀ := by omega) (h₁ := hj) nd).mp (by rw [ei, ej])
    omega
  refine ⟨?_, ?_, fun q hq => ?_⟩
  · rw [hg p hp, wy_eq (by omega)]
    congr 1
    refine List.filter_eq_self.mpr fun x hx => decide_eq_true (kid_down T h hx)
  · rw [hg _ (T.cl p hp)]
    refine Nat.le_trans (part_le _ T.few (by rw [List.length_dropLast]; omega)) (Nat.pow_le_pow_right (by decide) (by decide))
  · by_cases c : q = p.dropLast
    · rw [if_pos c, c, hg _ (T.cl p hp)]
      refine (prodM_add kids_nodup (kid_of T hp ne) (decide_eq_false np) fun y => ?_).symm
      rw [tk, Bool.eq_iff_iff, decide_eq_true_eq, Bool.or_eq_true, decide_eq_true_eq, decide_eq_true_eq, List.mem_append, List.mem_singleton]
      exact ⟨fun k => k.imp id fun z => S_inj z, fun k => k.imp id fun z => by rw [z]⟩
    · rw [if_neg c, hg q hq]
      congr 1
      refine List.filter_congr fun x hx => decide_eq_decide.mpr ?_
      rw [tk, List.mem_append, List.mem_singleton]
      refine ⟨.inl, fun k => k.resolve_right fun z => c ?_⟩
      obtain ⟨_, d, _, e2⟩ := kids_mem.mp hx
      rw [← S_inj z, e2, List.dropLast_concat]
theorem down_end (T : Trd zs e) {q : List Nat} (h : S q ∈ zs) : prodM (wyG zs ks) ((kidsW zs q).filter fun x => decide (S x ∈ (downR zs).take (downR zs).length)) = wy zs ks q := by
  rw [wy_eq (by have := (T.word h).2.2; omega), List.take_length]
  congr 1
  exact List.filter_eq_self.mpr fun x hx => decide_eq_true (kid_in T hx)
theorem cnt_put (T : Trd zs e) {g : List Nat → Nat} {p : List Nat} {n : Nat} (h : S p ∈ zs) : putP (zs.map fun z => ((.inr z : Key), PyData.int (g z.cps.toList))) (.inr (S p)) (.int n) = zs.map fun z => ((.inr z : Key), PyData.int ((if z.cps.toList = p then n else g z.cps.toList : Nat))) := by
  rw [putP_map (g := fun z => PyData.int (g z.cps.toList)) h]
  refine List.map_congr_left fun y hy => ?_
  obtain ⟨w, rfl, _⟩ := T.pl y hy
  show ((.inr (S w) : Key), if S w = S p then _ else _) = (_, PyData.int ((if w = p then n else g w : Nat)))
  by_cases c : w = p
  · rw [if_pos (by rw [c]), if_pos c]
  · rw [if_neg (fun z => c (S_inj z)), if_neg c]
end
/-- d[k] = d[k] * y -/
theorem s_put_mul {M : List Str} {f : List Nat} (T : Trd M f) {i : Nat} {ak ay : AE} {A : AEnds} {δ : List SD} {g : List Nat → Nat} {q : List Nat} {n : Nat} (hi : δ[i]? = some (.di none (M.map fun z => ((.inr z : Key), PyData.int (g z.cps.toList))))) (hq : S q ∈ M)
    (hk : ∀ G : PyData → List SD → Prop, G (.str (S q)) δ → ak δ G) (hy : ∀ G : PyData → List SD → Prop, G (.int n) δ → ay δ G) (fits : CMulW (g q) n)
    (k : A.nx (δ.set i (.di none (M.map fun z => ((.inr z : Key), PyData.int ((if z.cps.toList = q then g q * n else g z.cps.toList : Nat))))))) : aDPut i (aOp dMulW (aDGet i ak) ay) ak A δ := by
  have few := T.few
  have hz := sizeLine_eq
  unfold aDPut aOp aDGet
  simp only [hi]
  refine hk _ ?_
  simp only [hi]
  show (match keyD (.str (S q)) with | some kk => _ | none => False)
  refine ⟨.int (g q), getP_map (g := fun z => PyData.int (g z.cps.toList)) hq, ?_⟩
  refine hy _ ?_
  refine ⟨fits, ?_⟩
  show (match δ[i]? with | some (.di none _) => _ | _ => False)
  simp only [hi]
  refine hk _ ?_
  simp only [hi]
  refine ⟨by rw [List.length_map]; omega, ?_⟩
  have e : (PyData.int ((g q : Int) * (n : Int))) = .int ((g q * n : Nat) : Int) := by rw [Int.natCast_mul]
  rw [e, cnt_put T hq]
  exact k
def dCountB : List PyData → (PyData → Prop) → Prop := fun ds G => ∃ L M e f, ds = [treadD L (S e), treadD M (S f)] ∧ Trd L e ∧ Trd M f ∧ G (.int (wy M L []))
def dSolutions : List PyData → (PyData → Prop) → Prop := fun ds G => ∃ A B C a b c, ds = [treadD A (S a), treadD B (S b), treadD C (S c)] ∧ Eqn A B C a b c ∧ G (solD A B C a b c)
/-! ### the law's defs -/
def dTreadW : List PyData → (PyData → Prop) → Prop := fun ds G => ∃ u, ds = [.str (S u)] ∧ IsL u ∧ u.length ≤ 1100 ∧ G (treadD (plc u) (S (fol [] u)))
def nAnyTr : List PyData → Nat → (PyData → Nat → Prop) → Prop := fun ds n G => ∃ (most : Nat) (sg : List Nat), ds = [.int most, .str (S sg)] ∧ n < 100000000 ∧ most ≤ 100 ∧ sg ≠ [] ∧ IsL sg ∧ sg.length ≤ 100 ∧
  ∀ u m, IsL u → u.length ≤ most → m ≤ n + 1 + 2 * most → G (treadD (plc u) (S (fol [] u))) m
def dHasL : List PyData → (PyData → Prop) → Prop := fun ds G => ∃ (zs ys : List Str) (d d' : PyData), ds = [d, d'] ∧ (d = .list (zs.map .str) ∨ d = .tuple (zs.map .str)) ∧ (d' = .list (ys.map .str) ∨ d' = .tuple (ys.map .str)) ∧ ys.length ≤ 100000 ∧ (∀ z ∈ ys, Ls 10000 z) ∧ G (.bool (hasB zs ys))
def dueD (A B C : List Str) (a b c : List Nat) : PyData := if hasB C (givenE A B c b) = true then .tuple [treadD (lowE A B C a b c) (S (endE a b c)), treadD (turnS C a) (S (endE a b c))] else .none
def dDue : List PyData → (PyData → Prop) → Prop := fun ds G => ∃ A B C a b c, ds = [treadD A (S a), treadD B (S b), treadD C (S c)] ∧ Eqn A B C a b c ∧ C.length ≤ 32 ∧ G (lamD A B C a b c)
def dWaysL (n : Nat) : List PyData → (PyData → Prop) → Prop := fun ds G => ∃ zs ks p e, ds = [.tuple (zs.map .str), .str (S p), .tuple (ks.map .str)] ∧ Trd zs e ∧ IsL p ∧ p.length ≤ 200 ∧ (∀ z ∈ ks, z.length ≤ 1000) ∧ ks.length ≤ 1000 ∧ S p ∈ zs ∧ (∀ x, S x ∈ zs → x.length < p.length + n) ∧ G (.int (wy zs ks p))
theorem waysZero {K : PySem.W.Frag} {n : Nat} {vs : List V} {H : Hp} {Q : VK} {E : XK} : ¬ spD K n (dWaysL 0) vs H Q E := by
  rintro ⟨M, ds, G, _, _, _, ⟨zs, ks, p, e, _, _, _, _, _, _, hp, h, _⟩, _⟩
  exact absurd (h p hp) (by omega)
def dIsSol : List PyData → (PyData → Prop) → Prop := fun ds G => ∃ A B C X a b c, ds = [treadD A (S a), treadD B (S b), treadD C (S c), treadD X (S (endE a b c))] ∧ Eqn A B C a b c ∧ hasB C (givenE A B c b) = true ∧ Trd X (endE a b c) ∧ (∀ z ∈ lowE A B C a b c, z ∈ X) ∧ (∀ z ∈ X, z ∈ turnS C a) ∧ G (.bool true)
def nDrawn : List PyData → Nat → (PyData → Nat → Prop) → Prop := fun ds n G => ∃ L M e, ds = [treadD L (S e), treadD M (S e)] ∧ n < 100000000 ∧ Trd L e ∧ Trd M e ∧ (∀ z ∈ L, z ∈ M) ∧
  ∀ X m, Trd X e → (∀ z ∈ L, z ∈ X) → (∀ z ∈ X, z ∈ M) → m ≤ n + M.length → G (treadD X (S e)) m
def nCase : List PyData → Nat → (PyData → Nat → Prop) → Prop := fun ds n G => ds = [] ∧ n < 10000000 ∧ ∀ A B C a b c m, Eqn A B C a b c → C.length ≤ 32 → m ≤ n + 1000 → G (.tuple [treadD A (S a), treadD B (S b), treadD C (S c)]) m
def nLongR : List PyData → Nat → (PyData → Nat → Prop) → Prop := fun ds n G => ds = [] ∧ n < 10000000 ∧ ∀ m, m ≤ n + 1000 → G (.bool true) m
end Xia

set_option Elab.async false
set_option linter.all false
set_option maxRecDepth 100000
set_option maxHeartbeats 8000000
set_option synthInstance.maxSize 100000
set_option synthInstance.maxHeartbeats 1000000
namespace K62
open PySem PySem.Spec PyProof.Rows L2 Xia SX LamX
/-! ### the text -/
def topS (i : Nat) : Stmt := PySem.Challenge.pw_solvedtreads_k62_solutions.main.body.getD i (.Pass ⟨0, 0, 0, 0⟩)
abbrev s_is_word : Stmt := topS 5
abbrev N_is_word : List Str := ["thing", "letter"]
theorem sc_is_word : FnScope N_is_word ["thing"] (defScope s_is_word) := ⟨rfl, rfl, rfl, by decide +kernel, rfl, by decide +kernel, by decide +kernel⟩
abbrev s_is_place : Stmt := topS 6
abbrev N_is_place : List Str := ["thing", "letter", "following"]
theorem sc_is_place : FnScope N_is_place ["thing"] (defScope s_is_place) := ⟨rfl, rfl, rfl, by decide +kernel, rfl, by decide +kernel, by decide +kernel⟩
abbrev s_turn : Stmt := topS 7
abbrev N_turn : List Str := ["word"]
theorem sc_turn : FnScope N_turn ["word"] (defScope s_turn) := ⟨rfl, rfl, rfl, by decide +kernel, rfl, by decide +kernel, by decide +kernel⟩
abbrev s_step : Stmt := topS 8
abbrev N_step : List Str := ["place", "letter"]
theorem sc_step : FnScope N_step ["place", "letter"] (defScope s_step) := ⟨rfl, rfl, rfl, by decide +kernel, rfl, by decide +kernel, by decide +kernel⟩
abbrev s_follow : Stmt := topS 9
abbrev N_follow : List Str := ["place", "word", "letter"]
theorem sc_follow : FnScope N_follow ["place", "word"] (defScope s_follow) := ⟨rfl, rfl, rfl, by decide +kernel, rfl, by decide +kernel, by decide +kernel⟩
abbrev s_in_order : Stmt := topS 10
abbrev N_in_order : List Str := ["places"]
theorem sc_in_order : FnScope N_in_order ["places"] (defScope s_in_order) := ⟨rfl, rfl, rfl, by decide +kernel, rfl, by decide +kernel, by decide +kernel⟩
abbrev s_are_places_of_tread : Stmt := topS 13
abbrev N_are_places_of_tread : List Str := ["places", "place", "present"]
theorem sc_are_places_of_tread : FnScope N_are_places_of_tread ["places"] (defScope s_are_places_of_tread) := ⟨rfl, rfl, rfl, by decide +kernel, rfl, by decide +kernel, by decide +kernel⟩
abbrev s_is_tread : Stmt := topS 14
abbrev N_is_tread : List Str := ["thing", "places", "end"]
theorem sc_is_tread : FnScope N_is_tread ["thing"] (defScope s_is_tread) := ⟨rfl, rfl, rfl, by decide +kernel, rfl, by decide +kernel, by decide +kernel⟩
abbrev s_check_tread : Stmt := topS 15
abbrev N_check_tread : List Str := ["tread"]
theorem sc_check_tread : FnScope N_check_tread ["tread"] (defScope s_check_tread) := ⟨rfl, rfl, rfl, by decide +kernel, rfl, by decide +kernel, by decide +kernel⟩
abbrev s_letter_toward : Stmt := topS 16
abbrev N_letter_toward : List Str := ["place", "goal"]
theorem sc_letter_toward : FnScope N_letter_toward ["place", "goal"] (defScope s_letter_toward) := ⟨rfl, rfl, rfl, by decide +kernel, rfl, by decide +kernel, by decide +kernel⟩
abbrev s_places_on_ways : Stmt := topS 17
abbrev N_places_on_ways : List Str := ["start", "goals", "passed", "goal", "place"]
theorem sc_places_on_ways : FnScope N_places_on_ways ["start", "goals"] (defScope s_places_on_ways) := ⟨rfl, rfl, rfl, by decide +kernel, rfl, by decide +kernel, by decide +kernel⟩
abbrev s_places_behind : Stmt := topS 19
abbrev N_places_behind : List Str := ["start", "places", "led", "place"]
theorem sc_places_behind : FnScope N_places_behind ["start", "places"] (defScope s_places_behind) := ⟨rfl, rfl, rfl, by decide +kernel, rfl, by decide +kernel, by decide +kernel⟩
abbrev s_has_all : Stmt := topS 21
abbrev N_has_all : List Str := ["places", "others", "present", "place"]
theorem sc_has_all : FnScope N_has_all ["places", "others"] (defScope s_has_all) := ⟨rfl, rfl, rfl, by decide +kernel, rfl, by decide +kernel, by decide +kernel⟩
abbrev s_seen : Stmt := topS 22
abbrev N_seen : List Str := ["places", "place"]
theorem sc_seen : FnScope N_seen ["places", "place"] (defScope s_seen) := ⟨rfl, rfl, rfl, by decide +kernel, rfl, by decide +kernel, by decide +kernel⟩
abbrev s_check_equation : Stmt := topS 24
abbrev N_check_equation : List Str := ["one", "other", "goal"]
theorem sc_check_equation : FnScope N_check_equation ["one", "other", "goal"] (defScope s_check_equation) := ⟨rfl, rfl, rfl, by decide +kernel, rfl, by decide +kernel, by decide +kernel⟩
abbrev s_least_and_most : Stmt := topS 25
abbrev N_least_and_most : List Str := ["one", "other", "goal", "places", "end", "ahead", "start", "stop", "given", "home", "goal_end", "done", "due", "place", "least"]
theorem sc_least_and_most : FnScope N_least_and_most ["one", "other", "goal"] (defScope s_least_and_most) := ⟨rfl, rfl, rfl, by decide +kernel, rfl, by decide +kernel, by decide +kernel⟩
abbrev s_choices_above : Stmt := topS 26
abbrev N_choices_above : List Str := ["least", "most", "kept", "counts", "place", "here"]
theorem sc_choices_above : FnScope N_choices_above ["least", "most"] (defScope s_choices_above) := ⟨rfl, rfl, rfl, by decide +kernel, rfl, by decide +kernel, by decide +kernel⟩
abbrev s_count_between : Stmt := topS 27
abbrev N_count_between : List Str := ["least", "most"]
theorem sc_count_between : FnScope N_count_between ["least", "most"] (defScope s_count_between) := ⟨rfl, rfl, rfl, by decide +kernel, rfl, by decide +kernel, by decide +kernel⟩
abbrev s_solutions : Stmt := topS 28
abbrev N_solutions : List Str := ["one", "other", "goal", "ends", "least", "most"]
theorem sc_solutions : FnScope N_solutions ["one", "other", "goal"] (defScope s_solutions) := ⟨rfl, rfl, rfl, by decide +kernel, rfl, by decide +kernel, by decide +kernel⟩
abbrev s__law_open : Stmt := topS 30
abbrev N__law_open : List Str := ["script", "cells", "k", "cell"]
theorem sc__law_open : FnScope N__law_open ["script"] (defScope s__law_open) := ⟨rfl, rfl, rfl, by decide +kernel, rfl, by decide +kernel, by decide +kernel⟩
abbrev s__law_spread : Stmt := topS 31
abbrev N__law_spread : List Str := ["cell", "k", "primes", "one", "two", "three"]
theorem sc__law_spread : FnScope N__law_spread ["cell", "k"] (defScope s__law_spread) := ⟨rfl, rfl, rfl, by decide +kernel, rfl, by decide +kernel, by decide +kernel⟩
abbrev s__law_take : Stmt := topS 32
abbrev N__law_take : List Str := ["pen", "many", "k", "cell", "found"]
theorem sc__law_take : FnScope N__law_take ["pen", "many"] (defScope s__law_take) := ⟨rfl, rfl, rfl, by decide +kernel, rfl, by decide +kernel, by decide +kernel⟩
abbrev s__law_one_of : Stmt := topS 33
abbrev N__law_one_of : List Str := ["pen", "some"]
theorem sc__law_one_of : FnScope N__law_one_of ["pen", "some"] (defScope s__law_one_of) := ⟨rfl, rfl, rfl, by decide +kernel, rfl, by decide +kernel, by decide +kernel⟩
abbrev s__law_back : Stmt := topS 34
abbrev N__law_back : List Str := ["word", "letter"]
theorem sc__law_back : FnScope N__law_back ["word"] (defScope s__law_back) := ⟨rfl, rfl, rfl, by decide +kernel, rfl, by decide +kernel, by decide +kernel⟩
abbrev s__law_behind : Stmt := topS 35
abbrev N__law_behind : List Str := ["place", "word", "letter", "other"]
theorem sc__law_behind : FnScope N__law_behind ["place", "word"] (defScope s__law_behind) := ⟨rfl, rfl, rfl, by decide +kernel, rfl, by decide +kernel, by decide +kernel⟩
abbrev s__law_sorted : Stmt := topS 36
abbrev N__law_sorted : List Str := ["places", "size", "place"]
theorem sc__law_sorted : FnScope N__law_sorted ["places"] (defScope s__law_sorted) := ⟨rfl, rfl, rfl, by decide +kernel, rfl, by decide +kernel, by decide +kernel⟩
abbrev s__law_tread : Stmt := topS 37
abbrev N__law_tread : List Str := ["word", "many"]
theorem sc__law_tread : FnScope N__law_tread ["word"] (defScope s__law_tread) := ⟨rfl, rfl, rfl, by decide +kernel, rfl, by decide +kernel, by decide +kernel⟩
abbrev s__law_product : Stmt := topS 38
abbrev N__law_product : List Str := ["one", "other", "places", "place"]
theorem sc__law_product : FnScope N__law_product ["one", "other"] (defScope s__law_product) := ⟨rfl, rfl, rfl, by decide +kernel, rfl, by decide +kernel, by decide +kernel⟩
abbrev s__law_any_word : Stmt := topS 40
abbrev N__law_any_word : List Str := ["pen", "most", "signs", "word", "turn_v", "letter"]
theorem sc__law_any_word : FnScope N__law_any_word ["pen", "most", "signs"] (defScope s__law_any_word) := ⟨rfl, rfl, rfl, by decide +kernel, rfl, by decide +kernel, by decide +kernel⟩
abbrev s__law_any_signs : Stmt := topS 41
abbrev N__law_any_signs : List Str := ["pen"]
theorem sc__law_any_signs : FnScope N__law_any_signs ["pen"] (defScope s__law_any_signs) := ⟨rfl, rfl, rfl, by decide +kernel, rfl, by decide +kernel, by decide +kernel⟩
abbrev s__law_any_tread : Stmt := topS 42
abbrev N__law_any_tread : List Str := ["pen", "most", "signs"]
theorem sc__law_any_tread : FnScope N__law_any_tread ["pen", "most", "signs"] (defScope s__law_any_tread) := ⟨rfl, rfl, rfl, by decide +kernel, rfl, by decide +kernel, by decide +kernel⟩
abbrev s__law_has_all : Stmt := topS 43
abbrev N__law_has_all : List Str := ["one", "other", "place"]
theorem sc__law_has_all : FnScope N__law_has_all ["one", "other"] (defScope s__law_has_all) := ⟨rfl, rfl, rfl, by decide +kernel, rfl, by decide +kernel, by decide +kernel⟩
abbrev s__law_due : Stmt := topS 45
abbrev N__law_due : List Str := ["one", "other", "goal", "start", "places", "last", "trod", "place", "end", "least", "p", "many", "most"]
theorem sc__law_due : FnScope N__law_due ["one", "other", "goal"] (defScope s__law_due) := ⟨rfl, rfl, rfl, by decide +kernel, rfl, by decide +kernel, by decide +kernel⟩
abbrev s__law_ways : Stmt := topS 46
abbrev N__law_ways : List Str := ["places", "place", "kept", "found", "letter", "after", "inner"]
theorem sc__law_ways : FnScope N__law_ways ["places", "place", "kept"] (defScope s__law_ways) := ⟨rfl, rfl, rfl, by decide +kernel, rfl, by decide +kernel, by decide +kernel⟩
abbrev s__law_is_solution : Stmt := topS 47
abbrev N__law_is_solution : List Str := ["one", "other", "goal", "x"]
theorem sc__law_is_solution : FnScope N__law_is_solution ["one", "other", "goal", "x"] (defScope s__law_is_solution) := ⟨rfl, rfl, rfl, by decide +kernel, rfl, by decide +kernel, by decide +kernel⟩
abbrev s__law_drawn : Stmt := topS 48
abbrev N__law_drawn : List Str := ["pen", "least", "most", "places", "place"]
theorem sc__law_drawn : FnScope N__law_drawn ["pen", "least", "most"] (defScope s__law_drawn) := ⟨rfl, rfl, rfl, by decide +kernel, rfl, by decide +kernel, by decide +kernel⟩
abbrev s__law_any_case : Stmt := topS 49
abbrev N__law_any_case : List Str := ["pen", "signs", "one", "other", "x", "turn_v", "goal", "way"]
theorem sc__law_any_case : FnScope N__law_any_case ["pen"] (defScope s__law_any_case) := ⟨rfl, rfl, rfl, by decide +kernel, rfl, by decide +kernel, by decide +kernel⟩
abbrev s__law_long_right : Stmt := topS 50
abbrev N__law_long_right : List Str := ["pen", "rows", "sign", "one", "other", "goal", "row", "none", "mine", "yours"]
theorem sc__law_long_right : FnScope N__law_long_right ["pen"] (defScope s__law_long_right) := ⟨rfl, rfl, rfl, by decide +kernel, rfl, by decide +kernel, by decide +kernel⟩
abbrev s_law : Stmt := topS 51
abbrev N_law : List Str := ["script", "pen", "turn_v", "one", "other", "goal", "kept", "due", "told", "least", "most", "count", "x"]
theorem sc_law : FnScope N_law ["script"] (defScope s_law) := ⟨rfl, rfl, rfl, by decide +kernel, rfl, by decide +kernel, by decide +kernel⟩
structure Txt (K : PySem.W.Frag) (mg : Str → Option Value) (C_NoTread : Addr) : Prop where
  x_NoTread : XC K mg "NoTread" C_NoTread
  b_enumerate : mg "enumerate" = none
  b_int : mg "int" = none
  b_isinstance : mg "isinstance" = none
  b_len : mg "len" = none
  b_list : mg "list" = none
  b_range : mg "range" = none
  b_repr : mg "repr" = none
  b_set : mg "set" = none
  b_sorted : mg "sorted" = none
  b_str : mg "str" = none
  b_tuple : mg "tuple" = none
  b_zip : mg "zip" = none
  k_LETTERS : Cst mg "LETTERS" (.str "ABCDabcd")
  k_MOST_PLACES : Cst mg "MOST_PLACES" (.int 201)


def nSigns6 : List PyData → Nat → (PyData → Nat → Prop) → Prop := fun ds n G => ds = [] ∧ n < 1000000000 ∧ ∀ u, u ≠ [] → IsL u → u.length ≤ 8 → G (.str (S u)) (n + 1)
def six : List (List Nat) := [[97, 65], [97, 98, 65, 66], [97, 98, 65, 66], [97, 98, 99, 65, 66, 67], [97, 98, 99, 100, 65, 66, 67, 68], [100, 68]]
theorem six_eq : ([.str "aA", .str "abAB", .str "abAB", .str "abcABC", .str "abcdABCD", .str "dD"] : List PyData) = six.map fun u => PyData.str (S u) := by kernel_rfl
theorem six_ok : ∀ u ∈ six, u ≠ [] ∧ u.length ≤ 8 ∧ ∀ c ∈ u, c ∈ letC := by decide
def nWord : List PyData → Nat → (PyData → Nat → Prop) → Prop := fun ds n G => ∃ (most : Nat) (sg : List Nat), ds = [.int most, .str (S sg)] ∧ n < 1000000000 ∧ most ≤ 100 ∧ sg ≠ [] ∧ IsL sg ∧ sg.length ≤ 100 ∧ ∀ u m, IsL u → u.length ≤ most → m ≤ n + 1 + 2 * most → G (.str (S u)) m
section
variable {P : Program} {w : World} {K : PySem.W.Frag} {mg : Str → Option Value} {base : Heap} {C_NoTread : Addr}
theorem ok_is_word {f : Addr} {fd : FuncData} (T : Txt K mg C_NoTread) (F : Fun K "is_word" "is_word" s_is_word f fd) (hm : mg "is_word" = some (.ref f)) (hb : Binds K fd ["thing"] []) : Dfn P w K mg base CX0 1 "is_word" ["thing"] (spIsWord K) := by
  refine Dfn.mk0 F hm hb sc_is_word (fun vs H Q E h => Sp1.len h) (fun cdv A outer s H vs Q E hr hsp => ?_)
  obtain ⟨a0, rfl, h⟩ := Sp1.of hsp
  clear hsp
  have hu := hr.units
  have b1 : PySem.W.kitOne K (.type "str") (.type "str") = some true := kit_ty (by decide +kernel)
  refine ⟨_, (pss_cons (ps_if (pt_not (tVal (pe_callB (cIs (K := K)) (by rfl) T.b_isinstance (by decide +kernel) (pa_cons (pV 0) (pa_cons (pe_bltn (v := .ty "str") rfl T.b_str (by decide +kernel) rfl) pa_nil))))) (pss_one (ps_ret pe_bl)) pss_nil)
      (pss_cons (ps_for PassesOwn.never rfl (pI (K := K) (pV 0)) (pg_name (i := 1) sc_is_word.nd rfl (by first | exact .inl rfl | exact .inr rfl)) (pss_one (ps_if (tCm oNotInS (pV 1) (pK T.k_LETTERS) (by with_unfolding_all rfl)) (pss_one (ps_ret pe_bl)) pss_nil)))
      (pss_one (ps_ret pe_bl)))), ?_⟩
  rcases h with ⟨b, ⟨z, rfl, rfl⟩ | ⟨⟨t, ht, hk⟩, rfl⟩, q⟩
  · refine .inl ⟨_, _, _, _, _, rfl, .ty _, .base (.str z), b1, iteF ?_⟩
    refine for_it walk_str (fun i σ' H' => ∃ y, σ' = [some (.str z), y] ∧ H' = H ∧ ∀ (j : Nat) (c : Nat), j < i → z.cps[j]? = some c → c ∈ letC) ⟨none, rfl, rfl, fun j c h => absurd h (Nat.not_lt_zero j)⟩ (fun _ _ _ _ _ => trivial) ?_ ?_
    · rintro i v σ' H1 H2 hi ⟨y, rfl, rfl, hall⟩ ⟨rfl, c, hc, rfl⟩
      refine ⟨rfl, ite2 (fun e => ?_) (fun e => ⟨_, rfl, rfl, fun j d hj hd => ?_⟩)⟩
      · have hn : ¬ c ∈ letC := by
          rw [letters_eq] at e
          intro m
          have e' : (true != decide (c ∈ letC)) = true := e
          rw [decide_eq_true m] at e'
          cases e'
        have hw : isW z = false := by
          refine Bool.eq_false_iff.mpr fun w => hn ?_
          have w1 := List.all_eq_true.mp w c (Array.mem_toList_iff.mpr (Array.mem_of_getElem? hc))
          exact of_decide_eq_true w1
        rw [hw] at q
        exact q
      · rcases Nat.lt_succ_iff_lt_or_eq.mp hj with hj | rfl
        · exact hall j d hj hd
        · rw [hc] at hd
          cases hd
          rw [letters_eq] at e
          have e' : ¬ (true != decide (c ∈ letC)) = true := e
          by_cases m : c ∈ letC
          · exact m
          · rw [decide_eq_false m] at e'
            exact absurd rfl e'
    · rintro σ' H1 ⟨y, rfl, rfl, hall⟩
      have hw : isW z = true := by
        refine List.all_eq_true.mpr fun c hc => ?_
        obtain ⟨j, hj, e⟩ := List.getElem_of_mem hc
        have hj' : j < z.cps.size := by simpa using hj
        exact decide_eq_true (hall j c hj' (by rw [Array.getElem?_eq_getElem hj', ← e, Array.getElem_toList]))
      rw [hw] at q
      exact q
  · exact .inl ⟨_, _, _, _, _, rfl, .ty _, ht, hk, iteT q⟩

theorem ok_is_place {f : Addr} {fd : FuncData} (T : Txt K mg C_NoTread) (D_is_word : Dfn P w K mg base CX0 1 "is_word" ["thing"] (spIsWord K)) (F : Fun K "is_place" "is_place" s_is_place f fd) (hm : mg "is_place" = some (.ref f)) (hb : Binds K fd ["thing"] []) : Dfn P w K mg base CX0 2 "is_place" ["thing"] (spIsPlace K) := by
  refine Dfn.mk0 F hm hb sc_is_place (fun vs H Q E h => Sp1.len h) (fun cdv A outer s H vs Q E hr hsp => ?_)
  obtain ⟨a0, rfl, h⟩ := Sp1.of hsp
  clear hsp
  have hu := hr.units
  refine ⟨_, (pss_cons (ps_if (pt_not (tVal (pC D_is_word (hr.mono (by decide)) pass0 (pa_cons (pV 0) pa_nil)))) (pss_one (ps_ret pe_bl)) pss_nil)
      (pss_cons (ps_for PassesOwn.never rfl (pi_zips (by rfl) T.b_zip (pa_cons (pV 0) (pa_cons (pe_slice (sSl (K := K)) (pV 0) (oPart pe_int) po_none) pa_nil))) (pg_tupK (K := K) (n := 2) rfl (pgs_cons (pg_name (i := 1) sc_is_place.nd rfl (by first | exact .inl rfl | exact .inr rfl)) (pgs_cons (pg_name (i := 2) sc_is_place.nd rfl (by first | exact .inl rfl | exact .inr rfl)) pgs_nil))) (pss_one (ps_if (tCm (oEq (K := K) hu) (pV 2) (pe_m0 PySem.F.slot_str_swapcase PySem.F.type_str_swapcase mt_swapcase (pV 1)) (nomark _)) (pss_one (ps_ret pe_bl)) pss_nil)))
      (pss_one (ps_ret pe_bl)))), ?_⟩
  rcases h with ⟨b, ⟨z, rfl, hz, rfl⟩ | ⟨hn, rfl⟩, q⟩
  · obtain ⟨u, rfl⟩ : ∃ u, z = S u := ⟨z.cps.toList, (S_tl z).symm⟩
    refine ⟨_, .inl ⟨S u, rfl, rfl⟩, ?_⟩
    cases hw : isW (S u) with
    | false =>
      rw [hw] at q
      exact q H (Same.refl H)
    | true =>
      rw [hw] at q
      have hu' : Xia.IsL u := of_isW hw
      have hz1 : u.length ≤ sizeLine := by rw [← S_len]; exact hz
      have ec : cutS (S u) (some 1) none = S (u.drop 1) := cut_from u (by decide)
      refine ⟨hz, ?_⟩
      rw [ec]
      refine for_it (walk_zips _ _) (fun i σ' H' => ∃ y1 y2, σ' = [some (.str (S u)), y1, y2] ∧ Same H H' ∧ ∀ (j c d : Nat), j < i → u[j]? = some c → u[j + 1]? = some d → d ≠ oth c) ⟨none, none, rfl, Same.refl H, fun j c d h => absurd h (Nat.not_lt_zero j)⟩ (fun _ _ _ _ _ => trivial) ?_ ?_
      · rintro i v σ' H1 H2 hi ⟨y1, y2, rfl, s1, hall⟩ ⟨Tt, c, d, rfl, nT, rfl, hc, hd⟩
        have hc' : u[i]? = some c := by simpa using hc
        have hd' : u[i + 1]? = some d := by
          have e : (u.drop 1)[i]? = some d := by simpa using hd
          rw [List.getElem?_drop, Nat.add_comm] at e
          exact e
        have hcl : c ∈ letC := hu' c (List.mem_of_getElem? hc')
        refine ⟨Tt, _, rfl, .inl (.inl upd_same), rfl, _, _, rfl, _, _, rfl, rfl, ?_⟩
        refine ⟨⟨_, rfl⟩, _, rfl, rfl, (by show 1 ≤ 5592405; decide), ?_⟩
        have es : Txt.swapcase (S [c]) = S [oth c] := swap_letters (.one hcl)
        show (if decide ((S [d]) = Txt.swapcase (S [c])) = true then _ else _)
        rw [es]
        refine ite2 (fun e => ?_) (fun e => ?_)
        · have e1 : d = oth c := by
            have := S_inj (of_decide_eq_true e)
            cases this
            rfl
          have hp : isP u = false := Bool.eq_false_iff.mpr fun z => isP_iff.mp z i c d hc' hd' e1
          have q' := q (upd H1 Tt (.tup [.str ⟨#[c]⟩, .str ⟨#[d]⟩])) (s1.trans (same_upd nT))
          rw [show isP (S u).cps.toList = isP u from rfl, hp] at q'
          exact q'
        · refine ⟨_, _, rfl, s1.trans (same_upd nT), fun j a b hj h1 h2 => ?_⟩
          rcases Nat.lt_succ_iff_lt_or_eq.mp hj with hj | rfl
          · exact hall j a b hj h1 h2
          · rw [hc'] at h1
            rw [hd'] at h2
            cases h1
            cases h2
            exact fun z => e (decide_eq_true (by rw [z]))
      · rintro σ' H1 ⟨y1, y2, rfl, s1, hall⟩
        have hp : isP u = true := isP_iff.mpr fun i c d h1 h2 => hall i c d (by
          have l2 := (List.getElem?_eq_some_iff.mp h2).1
          show i < min u.length (u.drop 1).length
          rw [List.length_drop]
          omega) h1 h2
        have q' := q H1 s1
        rw [show isP (S u).cps.toList = isP u from rfl, hp] at q'
        exact q'
  · refine ⟨false, .inr ⟨hn, rfl⟩, iteT ?_⟩
    exact q H (Same.refl H)

theorem ok_turn {f : Addr} {fd : FuncData} (T : Txt K mg C_NoTread) (F : Fun K "turn" "turn" s_turn f fd) (hm : mg "turn" = some (.ref f)) (hb : Binds K fd ["word"] []) : Dfn P w K mg base CX0 1 "turn" ["word"] (spTurn) := by
  refine Dfn.mk0 F hm hb sc_turn (fun vs H Q E h => Sp1.len h) (fun cdv A outer s H vs Q E hr hsp => ?_)
  obtain ⟨a0, rfl, h⟩ := Sp1.of hsp
  clear hsp
  have hu := hr.units
  obtain ⟨u, rfl, hu1, hu2, q⟩ := h
  have hz := sizeLine_eq
  refine ⟨_, (pss_one (ps_ret (pe_m0 PySem.F.slot_str_swapcase PySem.F.type_str_swapcase mt_swapcase (pe_back (K := K) (pV 0))))), ?_⟩
  refine ⟨by rw [S_len]; omega, ⟨_, rfl⟩, _, rfl, rfl, ?_, ?_⟩
  · rw [S_len]
    show u.reverse.length ≤ _
    rw [List.length_reverse]
    omega
  · have e : Txt.swapcase (S u.reverse) = S (mir u) := by
      rw [swap_letters (hu1.sub fun c hc => List.mem_reverse.mp hc)]
      unfold mir
      rw [List.map_reverse]
    show Q (.str (Txt.swapcase (S u.reverse))) H
    rw [e]
    exact q

theorem ok_step {f : Addr} {fd : FuncData} (T : Txt K mg C_NoTread) (F : Fun K "step" "step" s_step f fd) (hm : mg "step" = some (.ref f)) (hb : Binds K fd ["place", "letter"] []) : Dfn P w K mg base CX0 1 "step" ["place", "letter"] (spStep) := by
  refine Dfn.mk0 F hm hb sc_step (fun vs H Q E h => Sp2.len h) (fun cdv A outer s H vs Q E hr hsp => ?_)
  obtain ⟨a0, a1, rfl, h⟩ := Sp2.of hsp
  clear hsp
  have hu := hr.units
  obtain ⟨u, c, rfl, rfl, hc, hl, q⟩ := h
  have hz := sizeLine_eq
  have es : Txt.swapcase (S [c]) = S [oth c] := swap_letters (.one hc)
  refine ⟨_, (pss_cons (ps_if (tVal (pe_m1 PySem.F.slot_str_endswith PySem.F.type_str_endswith mt_endswith (pV 0) (pe_m0 PySem.F.slot_str_swapcase PySem.F.type_str_swapcase mt_swapcase (pV 1)))) (pss_one (ps_ret (pe_slice (sSl (K := K)) (pV 0) po_none (oPart (pe_un oNeg pe_int))))) pss_nil)
      (pss_one (ps_ret (pe_op oAdd (pV 0) (pV 1))))), ?_⟩
  refine ⟨⟨_, rfl⟩, ⟨_, rfl⟩, _, rfl, rfl, (by show 1 ≤ 5592405; decide), _, _, rfl, rfl, ?_⟩
  rw [es, ends_one]
  refine ite2 (fun e => ?_) (fun e => ?_)
  · refine ⟨by rw [S_len]; omega, ?_⟩
    show Q (.str (cutS (S u) none (some (-1)))) H
    rw [cut_butlast]
    unfold stp at q
    rw [if_pos (of_decide_eq_true e)] at q
    exact q
  · refine ⟨by rw [S_len, S_len]; show u.length + 1 ≤ _; omega, ?_⟩
    unfold stp at q
    rw [if_neg fun z => e (decide_eq_true z)] at q
    show Q (.str (S u ++ S [c])) H
    rw [S_cat]
    exact q

theorem ok_follow {f : Addr} {fd : FuncData} (T : Txt K mg C_NoTread) (D_step : Dfn P w K mg base CX0 1 "step" ["place", "letter"] (spStep)) (F : Fun K "follow" "follow" s_follow f fd) (hm : mg "follow" = some (.ref f)) (hb : Binds K fd ["place", "word"] []) : Dfn P w K mg base CX0 2 "follow" ["place", "word"] (spFollow) := by
  refine Dfn.mk0 F hm hb sc_follow (fun vs H Q E h => Sp2.len h) (fun cdv A outer s H vs Q E hr hsp => ?_)
  obtain ⟨a0, a1, rfl, h⟩ := Sp2.of hsp
  clear hsp
  have hu := hr.units
  obtain ⟨u, v, rfl, rfl, hv, hl, q⟩ := h
  refine ⟨_, (pss_cons (ps_for PassesOwn.never rfl (pI (K := K) (pV 1)) (pg_name (i := 2) sc_follow.nd rfl (by first | exact .inl rfl | exact .inr rfl)) (pss_one (ps_set (i := 0) sc_follow.nd rfl (by first | exact .inl rfl | exact .inr rfl) (pC D_step (hr.mono (by decide)) pass0 (pa_cons (pV 0) (pa_cons (pV 2) pa_nil))))))
      (pss_one (ps_ret (pV 0)))), ?_⟩
  refine for_it walk_str (fun i σ' H' => ∃ y, σ' = [some (.str (S (fol u (v.take i)))), some (.str (S v)), y] ∧ H' = H) ⟨none, rfl, rfl⟩ (fun _ _ _ _ _ => trivial) ?_ ?_
  · rintro i x σ' H1 H2 hi ⟨y, rfl, rfl⟩ ⟨rfl, c, hc, rfl⟩
    have hc' : v[i]? = some c := by simpa using hc
    refine ⟨fol u (v.take i), c, rfl, rfl, hv c (List.mem_of_getElem? hc'), ?_, some (.str ⟨#[c]⟩), ?_, rfl⟩
    · have := fol_len (p := u) (w := v.take i)
      have h2 : (v.take i).length ≤ v.length := by rw [List.length_take]; omega
      omega
    · have e : fol u (v.take (i + 1)) = stp (fol u (v.take i)) c := by
        rw [List.take_succ, hc', fol_app]
        rfl
      rw [e]
      rfl
  · rintro σ' H1 ⟨y, rfl, rfl⟩
    show Q (.str (S (fol u (v.take (S v).cps.size)))) H1
    rw [show (S v).cps.size = v.length from by simp, List.take_length]
    exact q

theorem ok_in_order {f : Addr} {fd : FuncData} (T : Txt K mg C_NoTread) (F : Fun K "in_order" "in_order" s_in_order f fd) (hm : mg "in_order" = some (.ref f)) (hb : Binds K fd ["places"] []) : Dfn P w K mg base CX0 1 "in_order" ["places"] (spOrd K) := by
  refine Dfn.mk0 F hm hb sc_in_order (fun vs H Q E h => Sp1.len h) (fun cdv A outer s H vs Q E hr hsp => ?_)
  obtain ⟨a0, rfl, h⟩ := Sp1.of hsp
  clear hsp
  have hu := hr.units
  obtain ⟨l, zs, rfl, hl, hn, hz, q⟩ := h
  have hz0 := sizeLine_eq
  refine ⟨_, (pss_one (ps_ret (pe_callTy (cTupOf (K := K)) (by rfl) T.b_tuple (by decide +kernel) (pa_cons (pSortLen (K := K) hu (pa_cons (pe_callB (cSortG (K := K) (Z := txtSet P w) hu) (by rfl) T.b_sorted PyProof.Rows.boot_sorted (pa_cons (pe_callTy (cSetQ (K := K) (P := P) (w := w) hu) (by rfl) T.b_set (by decide +kernel) (pa_cons (pV 0) pa_nil)) pa_nil)) pa_nil) T.b_sorted T.b_len) pa_nil)))), ?_⟩
  refine ⟨l, zs.map fun z => (z, V.str z), rfl, by rw [List.map_map]; exact hl, fun b hb => ?_, ?_, fun a B na nd sub all => ?_⟩
  · obtain ⟨z, _, rfl⟩ := List.mem_map.mp hb
    exact rfl
  · rw [List.length_map]
    show zs.length ≤ 4000
    omega
  have key : ∀ b ∈ B, b.2 = V.str b.1 ∧ b.1 ∈ zs := fun b hb => by
    obtain ⟨z, hz, rfl⟩ := List.mem_map.mp (sub b hb)
    exact ⟨rfl, hz⟩
  refine ⟨a, B, fun z => .str z, rfl, upd_same, fun b hb => ?_, PySem.W.AllAlike.of fun _ _ => rfl, PySem.W.Sortable.others fun _ => ⟨(fun e => nomatch e), fun _ e => nomatch e⟩, fun p1 B' pB nd' np1 => ?_⟩
  · rw [(key b hb).1]
    exact ⟨.str _, Nat.zero_le _⟩
  obtain ⟨m, e1, e2, e3⟩ := txt_ord pB nd' sub all
  rw [e1]
  refine ⟨p1, m, rfl, .inl (.inl upd_same), fun z hz1 => by have := hz z (e2 z hz1); omega, fun p2 np2 => ?_⟩
  rw [e3]
  refine ⟨_, .inl (.inl upd_same), fun p3 np3 => ?_⟩
  exact q p3 _ (((same_upd na).trans (same_upd np1)).trans ((same_upd np2).trans (same_upd np3))) (none_of_upd (none_of_upd (none_of_upd np3).1).1).1 upd_same

theorem ok_are_places_of_tread {f : Addr} {fd : FuncData} (T : Txt K mg C_NoTread) (D_in_order : Dfn P w K mg base CX0 1 "in_order" ["places"] (spOrd K)) (D_is_place : Dfn P w K mg base CX0 2 "is_place" ["thing"] (spIsPlace K)) (F : Fun K "are_places_of_tread" "are_places_of_tread" s_are_places_of_tread f fd) (hm : mg "are_places_of_tread" = some (.ref f)) (hb : Binds K fd ["places"] []) : Dfn P w K mg base CX0 3 "are_places_of_tread" ["places"] (spArePlacesT K) := by
  refine Dfn.mk0 F hm hb sc_are_places_of_tread (fun vs H Q E h => Sp1.len h) (fun cdv A outer s H vs Q E hr hsp => ?_)
  obtain ⟨a0, rfl, h⟩ := Sp1.of hsp
  clear hsp
  have hu := hr.units
  obtain ⟨p, zs, e, rfl, TT, hp, q⟩ := h
  have hz := sizeLine_eq
  have few := TT.few
  have mem : ∀ {i : Nat} {x : V}, (zs.map V.str)[i]? = some x → ∃ w1, S w1 ∈ zs ∧ x = .str (S w1) ∧ Xia.IsL w1 ∧ isP w1 = true ∧ w1.length ≤ 200 := fun {i x} h => by
    rw [List.getElem?_map] at h
    obtain ⟨z, e1, rfl⟩ := Option.map_eq_some_iff.mp h
    have hz1 := List.mem_of_getElem? e1
    obtain ⟨w1, rfl, _⟩ := TT.pl z hz1
    exact ⟨w1, hz1, rfl, TT.word hz1⟩
  have small : ∀ z ∈ zs, z.length ≤ 200 := fun z hz1 => by
    obtain ⟨w1, rfl, _⟩ := TT.pl z hz1
    rw [S_len]
    exact (TT.word hz1).2.2
  have nice : SeqAt.shaped (.tuple (zs.map .str)) = true := (nice_tuple (k := 0) (n := 10 * 200 + 2) (m := 201) (fun d hd => by
    obtain ⟨z, hz1, rfl⟩ := List.mem_map.mp hd
    obtain ⟨w1, rfl, _⟩ := TT.pl z hz1
    have := TT.word hz1
    exact nice_str ⟨w1, rfl, this.1, this.2.2⟩) (by rw [List.length_map]; omega)).shaped (by decide)
  refine ⟨_, (pss_cons (ps_for PassesOwn.never rfl (pI (K := K) (pV 0)) (pg_name (i := 1) sc_are_places_of_tread.nd rfl (by first | exact .inl rfl | exact .inr rfl)) (pss_one (ps_if (pt_not (tVal (pC D_is_place (hr.mono (by decide)) pass0 (pa_cons (pV 1) pa_nil)))) (pss_one (ps_ret pe_bl)) pss_nil)))
      (pss_cons (ps_if (tCm (oNe (K := K) hu) (pV 0) (pC D_in_order (hr.mono (by decide)) pass0 (pa_cons (pV 0) pa_nil)) (nomark _)) (pss_one (ps_ret pe_bl)) pss_nil)
      (pss_cons (ps_set (i := 2) sc_are_places_of_tread.nd rfl (by first | exact .inl rfl | exact .inr rfl) (pe_callTy (cSetQ (K := K) (P := P) (w := w) hu) (by rfl) T.b_set (by decide +kernel) (pa_cons (pV 0) pa_nil)))
      (pss_cons (ps_for PassesOwn.never rfl (pI (K := K) (pV 0)) (pg_name (i := 1) sc_are_places_of_tread.nd rfl (by first | exact .inl rfl | exact .inr rfl)) (pss_one (ps_if (tCm (oNotInTxt (P := P) (w := w)) (pe_slice (sSl (K := K)) (pV 1) po_none (oPart (pe_un oNeg pe_int))) (pV 2) (by with_unfolding_all rfl)) (pss_one (ps_ret pe_bl)) pss_nil)))
      (pss_one (ps_ret pe_bl)))))), ?_⟩
  refine .inr ⟨_, hp, for_it walk_tup (fun i σ' H' => ∃ y, σ' = [some (.ref p), y, none] ∧ Same H H') ⟨none, rfl, Same.refl H⟩ (fun i σ' H' _ e => by obtain ⟨y, _, s⟩ := e; exact s.tup hp) ?_ ?_⟩
  · rintro i x σ' H1 H2 hi ⟨y, rfl, s1⟩ ⟨rfl, hx⟩
    obtain ⟨w1, _, rfl, a, b, c⟩ := mem hx
    refine ⟨true, .inl ⟨S w1, rfl, by rw [S_len]; omega, ?_⟩, fun H3 s3 => ⟨_, rfl, s1.trans s3⟩⟩
    rw [isW_S a, show isP (S w1).cps.toList = isP w1 from rfl, b]
    rfl
  · rintro σ' H1 ⟨y, rfl, s1⟩
    refine ⟨p, zs, rfl, .inr (s1.tup hp), by omega, fun z hz1 => by have := small z hz1; omega, fun p2 H2 s2 np2 hp2 => ?_⟩
    rw [TT.asc] at hp2
    refine ⟨true, ⟨_, _, .tup ((s1.trans s2).tup hp) (dp_strs _), .tup (.inl (.inl hp2)) (dp_strs _), nice, nice, ?_⟩, ?_⟩
    · show true = PyData.eqvAll _ _
      rw [eqvAll_strs, decide_eq_true rfl]
    have s12 := s1.trans s2
    refine ⟨p, zs.map fun z => (z, V.str z), rfl, .inr (by rw [List.map_map]; exact s12.tup hp), fun b hb => ?_, by rw [List.length_map]; show _ ≤ 4000; omega, fun a B na nd sub all => ?_⟩
    · obtain ⟨z, _, rfl⟩ := List.mem_map.mp hb
      exact rfl
    have s3 : Same H (upd H2 a (SetG (txtSet P w) a B)) := s12.trans (same_upd na)
    refine .inr ⟨_, s3.tup hp, for_it walk_tup (fun i σ' H' => ∃ y, σ' = [some (.ref p), y, some (.ref a)] ∧ Same H H' ∧ H' a = some (SetG (txtSet P w) a B)) ⟨_, rfl, s3, upd_same⟩ (fun i σ' H' _ e => by obtain ⟨y, _, s, _⟩ := e; exact s.tup hp) ?_ ?_⟩
    · rintro i x σ' H4 H5 hi ⟨y, rfl, s4, h4⟩ ⟨rfl, hx⟩
      obtain ⟨w1, hm, rfl, a1, b1, c1⟩ := mem hx
      refine ⟨by rw [S_len]; omega, ?_⟩
      refine ⟨B, h4, ?_⟩
      have ec : cutS (S w1) none (some (-1)) = S w1.dropLast := cut_butlast w1
      rw [ec]
      have inB : S w1.dropLast ∈ B.map (·.1) := all (S w1.dropLast, V.str (S w1.dropLast)) (List.mem_map.mpr ⟨_, TT.cl w1 hm, rfl⟩)
      rw [decide_eq_true inB]
      exact ⟨_, rfl, s4, h4⟩
    · rintro σ' H4 ⟨y, rfl, s4, h4⟩
      exact q H4 s4

theorem ok_is_tread {f : Addr} {fd : FuncData} (T : Txt K mg C_NoTread) (D_are_places_of_tread : Dfn P w K mg base CX0 3 "are_places_of_tread" ["places"] (spArePlacesT K)) (F : Fun K "is_tread" "is_tread" s_is_tread f fd) (hm : mg "is_tread" = some (.ref f)) (hb : Binds K fd ["thing"] []) : Dfn P w K mg base CX0 4 "is_tread" ["thing"] (spIsTreadT K) := by
  refine Dfn.mk0 F hm hb sc_is_tread (fun vs H Q E h => Sp1.len h) (fun cdv A outer s H vs Q E hr hsp => ?_)
  obtain ⟨a0, rfl, h⟩ := Sp1.of hsp
  clear hsp
  have hu := hr.units
  obtain ⟨t, zs, e, rfl, TT, ht, q⟩ := h
  have hz := sizeLine_eq
  have b1 : PySem.W.kitOne K (.type "tuple") (.type "tuple") = some true := kit_ty (by decide +kernel)
  obtain ⟨p, h1, h2⟩ := ht
  have few := TT.few
  have pos := TT.pos
  refine ⟨_, (pss_cons (ps_if (PW.pt (pw_or (pt_not (tVal (pe_callB (cIs (K := K)) (by rfl) T.b_isinstance (by decide +kernel) (pa_cons (pV 0) (pa_cons (pe_bltn (v := .ty "tuple") rfl T.b_tuple (by decide +kernel) rfl) pa_nil))))) (pw_or1 (tCm (oNe (K := K) hu) (pe_callB (cLen (K := K)) (by rfl) T.b_len PySem.boot_len (pa_cons (pV 0) pa_nil)) pe_int (nomark _))))) (pss_one (ps_ret pe_bl)) pss_nil)
      (pss_cons (ps_asg (pV 0) (pg_tupK (K := K) (n := 2) rfl (pgs_cons (pg_name (i := 1) sc_is_tread.nd rfl (by first | exact .inl rfl | exact .inr rfl)) (pgs_cons (pg_name (i := 2) sc_is_tread.nd rfl (by first | exact .inl rfl | exact .inr rfl)) pgs_nil))))
      (pss_cons (ps_if (PW.pt (pw_or (pt_not (tVal (pe_callB (cIs (K := K)) (by rfl) T.b_isinstance (by decide +kernel) (pa_cons (pV 1) (pa_cons (pe_bltn (v := .ty "tuple") rfl T.b_tuple (by decide +kernel) rfl) pa_nil))))) (pw_or1 (pt_not (pt_chain oLe oLe pe_int (pe_callB (cLen (K := K)) (by rfl) T.b_len PySem.boot_len (pa_cons (pV 1) pa_nil)) (pK T.k_MOST_PLACES)))))) (pss_one (ps_ret pe_bl)) pss_nil)
      (pss_one (ps_ret (pe_and (pC D_are_places_of_tread (hr.mono (by decide)) pass0 (pa_cons (pV 1) pa_nil)) (pe_one (pe_cmpR (oInRow (K := K)) (pV 2) (pV 1) (by with_unfolding_all rfl))))))))), ?_⟩
  refine .inl ⟨_, _, _, _, _, rfl, .ty _, sqT_ty h1, b1, ?_⟩
  refine ⟨_, .inr h1, t, _, rfl, h1, rfl, _, _, rfl, _, _, rfl, rfl, ?_⟩
  refine .inl ⟨_, _, _, _, _, rfl, .ty _, sqT_ty h2, b1, ?_⟩
  refine ⟨_, .inr h2, _, rfl, ite2 (fun _ => ⟨_, rfl, ite2 (fun e => ?_) (fun _ => ?_)⟩) (fun e => ?_)⟩
  · have e1 : (!decide (((zs.map V.str).length : Int) ≤ 201)) = true := e
    rw [List.length_map, decide_eq_true (by omega)] at e1
    cases e1
  · refine ⟨p, zs, e, rfl, TT, h2, fun H1 s1 => ⟨_, rfl, zs, .inr (s1.tup h2), ?_⟩⟩
    rw [decide_eq_true TT.en]
    exact q H1 s1
  · refine absurd (decide_eq_true ?_) e
    show (1 : Int) ≤ ((zs.map V.str).length : Int)
    rw [List.length_map]
    omega

theorem ok_check_tread {f : Addr} {fd : FuncData} (T : Txt K mg C_NoTread) (D_is_tread : Dfn P w K mg base CX0 4 "is_tread" ["thing"] (spIsTreadT K)) (F : Fun K "check_tread" "check_tread" s_check_tread f fd) (hm : mg "check_tread" = some (.ref f)) (hb : Binds K fd ["tread"] []) : Dfn P w K mg base (L2.CX P w) 5 "check_tread" ["tread"] (spCheckTreadT K) := by
  refine Dfn.mkX F hm hb sc_check_tread (fun vs H Q E h => Sp1.len h) (fun cdv A outer s H vs Q E hr hsp => ?_)
  obtain ⟨a0, rfl, h⟩ := Sp1.of hsp
  clear hsp
  have hu := hr.units
  obtain ⟨t, zs, e, rfl, TT, ht, q⟩ := h
  refine ⟨_, (pss_one (ps_if (pt_not (tVal (pC D_is_tread (hr.mono (by decide)) pass0 (pa_cons (pV 0) pa_nil)))) (pss_one (ps_raise rfl (takes_of rfl rfl rfl rfl) (pmk_own PySem.F.excBase_ValueError T.x_NoTread.ex T.x_NoTread.gC T.x_NoTread.kp T.x_NoTread.rs rfl))) pss_nil)), ?_⟩
  refine ⟨t, zs, e, rfl, TT, ht, fun H1 s1 => ?_⟩
  exact q H1 s1

theorem ok_letter_toward {f : Addr} {fd : FuncData} (T : Txt K mg C_NoTread) (F : Fun K "letter_toward" "letter_toward" s_letter_toward f fd) (hm : mg "letter_toward" = some (.ref f)) (hb : Binds K fd ["place", "goal"] []) : Dfn P w K mg base CX0 1 "letter_toward" ["place", "goal"] (spD K 2 dToward) := by
  refine Dfn.mk0 F hm hb sc_letter_toward (fun vs H Q E h => spD.len h) (fun cdv A outer s H vs Q E hr hsp => ?_)
  have hu := hr.units
  have hz := sizeLine_eq
  refine ⟨_, (pss_cons (ps_if (tCm (oEq (K := K) hu) (pV 0) (pV 1) (nomark _)) (pss_one (ps_ret pe_non)) pss_nil)
      (pss_cons (ps_if (tVal (pe_m1 PySem.F.slot_str_startswith PySem.F.type_str_startswith (show MtR _ _ mStarts from mt_startswith) (pV 1) (pV 0))) (pss_one (ps_ret (pe_ix (xIx (K := K)) (pV 1) (pe_callB (cLen (K := K)) (by rfl) T.b_len PySem.boot_len (pa_cons (pV 0) pa_nil)) (fun _ _ => rfl)))) pss_nil)
      (pss_one (ps_ret (pe_m0 PySem.F.slot_str_swapcase PySem.F.type_str_swapcase mt_swapcase (pe_ix (xIx (K := K)) (pV 0) (pe_un oNeg pe_int) (fun _ _ => rfl))))))), ?_⟩
  refine go_pure (K := K) 0 rfl hsp fun ds G e0 ho => ?_
  obtain ⟨p, g, rfl, p1, g1, hp, hg, q⟩ := ho
  simp only [List.map_cons, List.map_nil, List.cons_append, List.nil_append, List.replicate_succ, List.replicate_zero]
  have ce : ∀ {b : Bool}, (false != b) = true → b = true := fun {b} h => by cases b with | true => rfl | false => cases h
  refine ite2 (fun c => ?_) (fun c => ?_)
  · have e : p = g := S_inj (of_decide_eq_true (ce c))
    subst e
    unfold tow at q
    rw [if_pos rfl] at q
    exact q
  · have ne : p ≠ g := fun z => c (by rw [z, decide_eq_true rfl]; rfl)
    unfold tow at q
    rw [if_neg ne] at q
    refine ite2 (fun c2 => ?_) (fun c2 => ?_)
    · rw [starts_S] at c2
      rw [if_pos c2] at q
      obtain ⟨t, rfl⟩ := pr_iff.mp c2
      cases t with
      | nil => exact absurd (List.append_nil p).symm ne
      | cons a t =>
        rw [List.getElem?_append_right (Nat.le_refl _), Nat.sub_self] at q
        refine ⟨by rw [S_len]; omega, by rw [S_len]; omega, a, ?_, q⟩
        rw [S_len]
        exact atI_nat (by rw [show (S (p ++ a :: t)).cps.toList = p ++ a :: t from rfl, List.getElem?_append_right (Nat.le_refl _), Nat.sub_self]; rfl)
    · rw [starts_S] at c2
      rw [if_neg c2] at q
      rcases List.eq_nil_or_concat p with rfl | ⟨p0, d, e⟩
      · exact absurd rfl c2
      · rw [List.concat_eq_append] at e
        subst e
        rw [List.getLast?_concat] at q
        refine ⟨by rw [S_len]; omega, d, atI_last p0 d, rfl, by show 1 ≤ _; decide, ?_⟩
        rw [swap_letters (.one (p1 d (by simp)))]
        exact q

theorem ok_places_on_ways {f : Addr} {fd : FuncData} (T : Txt K mg C_NoTread) (D_step : Dfn P w K mg base CX0 1 "step" ["place", "letter"] (spStep)) (D_letter_toward : Dfn P w K mg base CX0 1 "letter_toward" ["place", "goal"] (spD K 2 dToward)) (F : Fun K "places_on_ways" "places_on_ways" s_places_on_ways f fd) (hm : mg "places_on_ways" = some (.ref f)) (hb : Binds K fd ["start", "goals"] []) : Dfn P w K mg base CX0 2 "places_on_ways" ["start", "goals"] (spWays K) := by
  refine Dfn.mk0 F hm hb sc_places_on_ways (fun vs H Q E h => Sp2.len h) (fun cdv A outer s H vs Q E hr hsp => ?_)
  obtain ⟨a0, a1, rfl, h⟩ := Sp2.of hsp
  clear hsp
  have hu := hr.units
  obtain ⟨p, l, gs, rfl, rfl, hl, p1, p2, p3, g1, g2, q⟩ := h
  have hz := sizeLine_eq
  refine ⟨_, (pss_cons (ps_set (i := 2) sc_places_on_ways.nd rfl (by first | exact .inl rfl | exact .inr rfl) (pe_disp (pps_cons (pV 0) pe_bl pps_nil) (by rfl) (by rfl) (fun z => by cases z) (by decide)))
      (pss_cons (ps_for PassesOwn.never rfl (pI (K := K) (pV 1)) (pg_name (i := 3) sc_places_on_ways.nd rfl (by first | exact .inl rfl | exact .inr rfl)) (pss_cons (ps_set (i := 4) sc_places_on_ways.nd rfl (by first | exact .inl rfl | exact .inr rfl) (pV 3))
      (pss_one (ps_while PassesOwn.never (pt_cmp (pc_dnotin (lt1 hu) (pV 4) (pV 2))) (pss_cons (ps_asg pe_bl (pg_sub (pV 2) (pV 4) (set_dict (lt1 hu))))
      (pss_one (ps_set (i := 4) sc_places_on_ways.nd rfl (by first | exact .inl rfl | exact .inr rfl) (pC D_step (hr.mono (by decide)) pass0 (pa_cons (pV 4) (pa_cons (pC D_letter_toward (hr.mono (by decide)) pass0 (pa_cons (pV 4) (pa_cons (pV 0) pa_nil))) pa_nil))))))))))
      (pss_one (ps_ret (pV 2))))), ?_⟩
  refine fun d nd => ⟨upd_same, [(.inr (S p), .bl true)], rfl, by show 1 ≤ 15; decide, ?_⟩
  generalize hg : upd (upd H d _) d _ = H1
  have s1 : Same H H1 := by rw [← hg]; exact (same_upd nd).upd_new nd
  have h1 : H1 d = some (.dK (keysD [p])) := by rw [← hg]; exact upd_same
  clear hg
  refine .inl ⟨_, sqL_same s1 hl, for_it walk_list (fun i σ' H' => ∃ ks x3 x4, σ' = [some (.str (S p)), some (.ref l), some (.ref d), x3, x4] ∧ Same H H' ∧ H' d = some (.dK (keysD ks)) ∧ ks.Nodup ∧ p ∈ ks ∧ (∀ g ∈ gs.take i, g ∈ ks) ∧ (∀ x ∈ ks, IsL x ∧ isP x = true ∧ x.length ≤ 1000) ∧ Toward p (· ∈ ks) ∧ (∀ x ∈ ks, x = p ∨ ∃ g ∈ gs, onw p g x) ∧ ks.length ≤ 1 + 2001 * i) ?_ (fun i σ' H' _ e => by obtain ⟨_, _, _, _, s, _⟩ := e; exact sqL_same s hl) ?_ ?_⟩
  · refine ⟨[p], _, _, rfl, s1, h1, by simp, List.mem_singleton.mpr rfl, (fun g hg => by rw [List.take_zero] at hg; cases hg), fun x hx => ?_, fun x hx ne => absurd (List.mem_singleton.mp hx) ne, fun x hx => .inl (List.mem_singleton.mp hx), Nat.le_refl _⟩
    rw [List.mem_singleton.mp hx]
    exact ⟨p1, p2, p3⟩
  · rintro i x σ' H2 H3 hi ⟨ks, x3, x4, rfl, s2, h2, nd2, pk, ek, wf, cl, so, ln⟩ ⟨rfl, hx⟩
    rw [List.getElem?_map] at hx
    obtain ⟨g, hgi, rfl⟩ := Option.map_eq_some_iff.mp hx
    have hg := List.mem_of_getElem? hgi
    obtain ⟨ga, gb, gc⟩ := g1 g hg
    have il := (List.getElem?_eq_some_iff.mp hgi).1
    refine ⟨fun m σ' H' => ∃ ks q, σ' = [some (.str (S p)), some (.ref l), some (.ref d), some (.str (S g)), some (.str (S q))] ∧ Same H H' ∧ H' d = some (.dK (keysD ks)) ∧ ks.Nodup ∧ p ∈ ks ∧ (∀ g ∈ gs.take i, g ∈ ks) ∧ (∀ x ∈ ks, IsL x ∧ isP x = true ∧ x.length ≤ 1000) ∧ (∀ x ∈ ks, x ≠ p → ∃ c, c ∈ letC ∧ tow x p = some c ∧ (stp x c ∈ ks ∨ stp x c = q)) ∧ (∀ x ∈ ks, x = p ∨ ∃ g ∈ gs, onw p g x) ∧ (g = q ∨ g ∈ ks) ∧ onw p g q ∧ IsL q ∧ isP q = true ∧ q.length ≤ 1000 ∧ m = dst q p ∧ ks.length + dst q p ≤ 1 + 2001 * i + 2000, ⟨_, ks, g, rfl, s2, h2, nd2, pk, ek, wf, fun x hx ne => ?_, so, .inl rfl, onw_r p g, ga, gb, gc, rfl, ?_⟩, ?_⟩
    · obtain ⟨c, k1, k2, k3⟩ := cl x hx ne
      exact ⟨c, k1, k2, .inl k3⟩
    · have : dst g p ≤ g.length + p.length := by unfold dst; omega
      omega
    · rintro m σ' H4 ⟨ks, q', rfl, s4, h4, nd4, pk, ek, wf, cl, so, gq, ow, q1, q2, q3, rfl, ln⟩
      refine ⟨d, _, rfl, .inl ⟨_, .inr (S q'), .inl h4, rfl, rfl⟩, _, rfl, ?_⟩
      rw [keys_get]
      by_cases mem : q' ∈ ks
      · rw [if_pos mem]
        refine iteF ?_
        refine ⟨ks, _, _, rfl, s4, h4, nd4, pk, fun x hx => ?_, wf, fun x hx ne => ?_, so, by omega⟩
        · rw [List.take_succ, hgi] at hx
          rcases List.mem_append.mp hx with h | h
          · exact ek x h
          · rw [List.mem_singleton.mp h]
            exact gq.elim (fun e => e ▸ mem) id
        · obtain ⟨c, k1, k2, k3⟩ := cl x hx ne
          exact ⟨c, k1, k2, k3.elim id fun e => e ▸ mem⟩
      · rw [if_neg mem]
        refine iteT ?_
        have ne : q' ≠ p := fun z => mem (z ▸ pk)
        obtain ⟨c, hc, tw⟩ := tow_some q1 p1 ne
        have far := (tow_sep q1 p2 hc).mp tw
        have dt := dst_tow q1 p2 hc tw
        refine ⟨_, fun σ' H' h => h, d, _, rfl, .inl ⟨_, .inr (S q'), h4, rfl, by rw [keys_len]; omega, rfl⟩, ?_⟩
        rw [keys_put mem]
        generalize hg5 : upd H4 d _ = H5
        have s5 : Same H H5 := by rw [← hg5]; exact s4.upd_new nd
        have h5 : H5 d = some (.dK (keysD (ks ++ [q']))) := by rw [← hg5]; exact upd_same
        clear hg5
        refine ⟨[], [.str (S q'), .str (S p)], fun r => r = optD (tow q' p), rfl, fun b hb => (nomatch hb), .cons (.str _) (.cons (.str _) .nil), ⟨q', p, rfl, q1, p1, by omega, by omega, rfl⟩, fun v H6 r hr s6 w => ?_⟩
        rw [hr, tw] at w
        cases w
        refine ⟨q', c, rfl, rfl, hc, by omega, dst (stp q' c) p, by omega, ks ++ [q'], stp q' c, rfl, s5.trans s6, s6 _ _ h5, nd_snoc nd4 mem, List.mem_append_left _ pk, fun g hg => List.mem_append_left _ (ek g hg), fun x hx => ?_, fun x hx ne => ?_, fun x hx => ?_, ?_, onw_back ow far, q1.stp hc, isP_stp q1 q2, ?_, rfl, ?_⟩
        · rcases List.mem_append.mp hx with h | h
          · exact wf x h
          · rw [List.mem_singleton.mp h]
            exact ⟨q1, q2, q3⟩
        · rcases List.mem_append.mp hx with h | h
          · obtain ⟨c2, k1, k2, k3⟩ := cl x h ne
            exact ⟨c2, k1, k2, .inl (k3.elim (fun h => List.mem_append_left _ h) fun e => List.mem_append_right _ (List.mem_singleton.mpr e))⟩
          · rw [List.mem_singleton.mp h]
            exact ⟨c, hc, tw, .inr rfl⟩
        · rcases List.mem_append.mp hx with h | h
          · exact so x h
          · rw [List.mem_singleton.mp h]
            exact .inr ⟨g, hg, ow⟩
        · exact gq.elim (fun e => .inr (List.mem_append_right _ (List.mem_singleton.mpr e))) fun h => .inr (List.mem_append_left _ h)
        · rcases onw_sub (onw_back ow far) with h | h
          · have := h.length_le
            omega
          · have := h.length_le
            omega
        · rw [List.length_append]
          show ks.length + 1 + _ ≤ _
          omega
  · rintro σ' H2 ⟨ks, x3, x4, rfl, s2, h2, nd2, pk, ek, wf, cl, so, ln⟩
    rw [List.length_map, List.take_length] at ek
    refine q d ks H2 s2 nd h2 nd2 fun x => ⟨so x, ?_⟩
    rintro (rfl | ⟨g, hg, ow⟩)
    · exact pk
    · exact toward_way p2 (fun x hx => ⟨(wf x hx).1, (wf x hx).2.1⟩) cl _ g rfl (ek g hg) x ow

theorem ok_places_behind {f : Addr} {fd : FuncData} (T : Txt K mg C_NoTread) (D_step : Dfn P w K mg base CX0 1 "step" ["place", "letter"] (spStep)) (F : Fun K "places_behind" "places_behind" s_places_behind f fd) (hm : mg "places_behind" = some (.ref f)) (hb : Binds K fd ["start", "places"] []) : Dfn P w K mg base CX0 2 "places_behind" ["start", "places"] (spPlacesBehind K) := by
  refine Dfn.mk0 F hm hb sc_places_behind (fun vs H Q E h => Sp2.len h) (fun cdv A outer s H vs Q E hr hsp => ?_)
  obtain ⟨a0, a1, rfl, h⟩ := Sp2.of hsp
  clear hsp
  have hu := hr.units
  obtain ⟨p, l, zs, e, rfl, rfl, hp, pl, TT, hl, q⟩ := h
  have hz := sizeLine_eq
  have few := TT.few
  refine ⟨_, (pss_cons (ps_set (i := 2) sc_places_behind.nd rfl (by first | exact .inl rfl | exact .inr rfl) pe_dnewK)
      (pss_cons (ps_for PassesOwn.never rfl (pI (K := K) (pV 1)) (pg_name (i := 3) sc_places_behind.nd rfl (by first | exact .inl rfl | exact .inr rfl)) (pss_one (ps_asg (pe_ifExp (pt_truth (pV 3) (fun _ => rfl)) (pC D_step (hr.mono (by decide)) pass0 (pa_cons (pe_dget (lt1 hu) (pV 2) (pe_slice (sSl (K := K)) (pV 3) po_none (oPart (pe_un oNeg pe_int))) (fun _ _ => rfl)) (pa_cons (pe_ix (xIx (K := K)) (pV 3) (pe_un oNeg pe_int) (fun _ _ => rfl)) pa_nil))) (pV 0)) (pg_sub (pV 2) (pV 3) (set_dict (lt1 hu))))))
      (pss_one (ps_ret (pe_callTy cListV (by rfl) T.b_list (by decide +kernel) (pa_cons (pe_vals (pV 2)) pa_nil)))))), ?_⟩
  refine fun d nd => .inr ⟨_, (same_upd nd).tup hl, for_it walk_tup (fun i σ' H' => ∃ y, σ' = [some (.str (S p)), some (.ref l), some (.ref d), y] ∧ Same H H' ∧ H' d = some (.dK (led p (zs.take i)))) ⟨none, rfl, same_upd nd, upd_same⟩ (fun i σ' H' _ e => by obtain ⟨y, _, s, _⟩ := e; exact s.tup hl) ?_ ?_⟩
  · rintro i x σ' H1 H2 hi ⟨y, rfl, s1, hd⟩ ⟨rfl, hx⟩
    rw [List.getElem?_map] at hx
    obtain ⟨z, hzi, rfl⟩ := Option.map_eq_some_iff.mp hx
    have hz1 := List.mem_of_getElem? hzi
    obtain ⟨w1, rfl, _⟩ := TT.pl z hz1
    obtain ⟨wa, wb, wc⟩ := TT.word hz1
    have il := (List.getElem?_eq_some_iff.mp hzi).1
    have new : S w1 ∉ zs.take i := fun hm => by
      obtain ⟨j, hj, ej⟩ := List.mem_take_iff_getElem.mp hm
      have nd := List.nodup_iff_pairwise_ne.mp TT.nodup
      exact List.pairwise_iff_getElem.mp nd j i (by omega) il (by omega) (ej.trans (List.getElem?_eq_some_iff.mp hzi).2.symm)
    have lenL : (led p (zs.take i)).length < sizeLine := by
      unfold led
      rw [List.length_map, List.length_take]
      omega
    have put : ∀ v, v = V.str (S (fol p w1)) → ∃ H3, DPut H2 d (.str (S w1)) v H3 ∧ Same H H3 ∧ H3 d = some (.dK (led p (zs.take (i + 1)))) := fun v ev => by
      subst ev
      refine ⟨_, .inl ⟨_, .inr (S w1), hd, rfl, lenL, rfl⟩, s1.upd_new nd, ?_⟩
      rw [upd_same]
      have := led_put (p := p) new
      rw [show (S w1).cps.toList = w1 from rfl] at this
      rw [this, List.take_succ, hzi]
      rfl
    have wl : (S w1).length ≤ sizeLine := by rw [S_len]; omega
    rcases List.eq_nil_or_concat w1 with rfl | ⟨w0, c, ew⟩
    · obtain ⟨H3, h1, h2, h3⟩ := put (.str (S p)) rfl
      exact ⟨false, ⟨wl, rfl⟩, d, H3, rfl, h1, _, rfl, h2, h3⟩
    · rw [List.concat_eq_append] at ew
      subst ew
      have hc : c ∈ letC := wa c (by simp)
      have h0 : IsL w0 := wa.sub fun d hd => List.mem_append_left _ hd
      have l0 := fol_len (p := p) (w := w0)
      rw [List.length_append] at wc
      have e0 : cutS (S (w0 ++ [c])) none (some (-1)) = S w0 := by rw [cut_butlast, List.dropLast_concat]
      have at0 : S w0 ∈ zs.take i := by
        have := TT.behind hzi (by simp)
        rwa [List.dropLast_concat] at this
      have g0 : valV (led p (zs.take i)) (.inr (S w0)) = some (.str (S (fol p w0))) := led_get at0
      obtain ⟨H3, h1, h2, h3⟩ := put (.str (S (stp (fol p w0) c))) (by rw [fol_app]; rfl)
      refine ⟨true, ⟨wl, ?_⟩, wl, d, _, rfl, .inl ⟨_, .inr (cutS (S (w0 ++ [c])) none (some (-1))), .inl hd, rfl, by rw [e0, g0]⟩, wl, c, atI_last w0 c, fol p w0, c, rfl, rfl, hc, by omega, d, H3, rfl, h1, _, rfl, h2, h3⟩
      have : (S (w0 ++ [c])).length = w0.length + 1 := by rw [S_len, List.length_append]; rfl
      rw [this]
      exact (bne_iff_ne.mpr (by omega)).symm
  · rintro σ' H1 ⟨y, rfl, s1, hd⟩
    rw [List.length_map, List.take_length] at hd
    refine ⟨d, _, rfl, hd, fun r nr => ⟨d, _, upd_same, (same_upd nr) _ _ hd, fun r2 nr2 => ?_⟩⟩
    rw [led_vals]
    exact q r2 _ ((s1.trans (same_upd nr)).trans (same_upd nr2)) (s1.free (none_of_upd nr2).1) upd_same

theorem ok_has_all {f : Addr} {fd : FuncData} (T : Txt K mg C_NoTread) (F : Fun K "has_all" "has_all" s_has_all f fd) (hm : mg "has_all" = some (.ref f)) (hb : Binds K fd ["places", "others"] []) : Dfn P w K mg base CX0 1 "has_all" ["places", "others"] (spD K 2 dHasAllQ) := by
  refine Dfn.mk0 F hm hb sc_has_all (fun vs H Q E h => spD.len h) (fun cdv A outer s H vs Q E hr hsp => ?_)
  have hu := hr.units
  refine ⟨_, (pss_cons (ps_set (i := 2) sc_has_all.nd rfl (by first | exact .inl rfl | exact .inr rfl) (pe_callTy (cSetQ (K := K) (P := P) (w := w) hu) (by rfl) T.b_set (by decide +kernel) (pa_cons (pV 0) pa_nil)))
      (pss_cons (ps_for PassesOwn.never rfl (pI (K := K) (pV 1)) (pg_name (i := 3) sc_has_all.nd rfl (by first | exact .inl rfl | exact .inr rfl)) (pss_one (ps_if (tCm (oNotInTxt (P := P) (w := w)) (pV 3) (pV 2) (by with_unfolding_all rfl)) (pss_one (ps_ret pe_bl)) pss_nil)))
      (pss_one (ps_ret pe_bl)))), ?_⟩
  refine go_pure (K := K) 2 rfl hsp fun ds G e0 ho => ?_
  obtain ⟨zs, ys, d, rfl, hd, l1, hG⟩ := ho
  simp only [List.map_cons, List.map_nil, List.cons_append, List.nil_append, List.replicate_succ, List.replicate_zero]
  refine ⟨zs, .inr rfl, by omega, ?_⟩
  simp only [List.set_cons_succ, List.set_cons_zero]
  refine ⟨ys.map .str, (by rcases hd with rfl | rfl; exact .lst _; exact .tup _), fun j δ => ∃ s, δ = [.da (.tuple (zs.map .str)), .da d, .ob (isSet P w zs), s] ∧ ∀ z ∈ ys.take j, z ∈ zs, ⟨_, rfl, by rw [List.take_zero]; intro z hz; cases hz⟩, ?_, ?_⟩
  · rintro j x δ hx ⟨s, rfl, hj⟩
    rw [List.getElem?_map] at hx
    obtain ⟨z, hzj, rfl⟩ := Option.map_eq_some_iff.mp hx
    have hm := List.mem_of_getElem? hzj
    refine ⟨z, zs, rfl, rfl, ite2 (fun c => ?_) (fun c => ?_)⟩
    · have ne : z ∉ zs := fun h => by
        rw [decide_eq_true h] at c
        cases c
      have : hasB zs ys = false := by
        rw [Bool.eq_false_iff]
        intro h
        exact ne (hasB_iff.mp h z hm)
      rw [this] at hG
      exact hG
    · refine ⟨_, rfl, fun y hy => ?_⟩
      rw [List.take_succ, hzj] at hy
      rcases List.mem_append.mp hy with h | h
      · exact hj y h
      · rw [List.mem_singleton.mp h]
        apply Classical.byContradiction
        intro n
        exact c (by rw [decide_eq_false n]; rfl)
  · rintro δ ⟨s, rfl, hj⟩
    rw [List.length_map, List.take_length] at hj
    rw [hasB_iff.mpr hj] at hG
    exact hG

theorem ok_seen {f : Addr} {fd : FuncData} (T : Txt K mg C_NoTread) (D_in_order : Dfn P w K mg base CX0 1 "in_order" ["places"] (spOrd K)) (D_places_behind : Dfn P w K mg base CX0 2 "places_behind" ["start", "places"] (spPlacesBehind K)) (D_turn : Dfn P w K mg base CX0 1 "turn" ["word"] (spTurn)) (F : Fun K "seen" "seen" s_seen f fd) (hm : mg "seen" = some (.ref f)) (hb : Binds K fd ["places", "place"] []) : Dfn P w K mg base CX0 3 "seen" ["places", "place"] (spSeen K) := by
  refine Dfn.mk0 F hm hb sc_seen (fun vs H Q E h => Sp2.len h) (fun cdv A outer s H vs Q E hr hsp => ?_)
  obtain ⟨a0, a1, rfl, h⟩ := Sp2.of hsp
  clear hsp
  have hu := hr.units
  obtain ⟨a, zs, e, pl, rfl, rfl, ha, T1, hp, q⟩ := h
  have hz := sizeLine_eq
  obtain ⟨w1, w2, w3⟩ := T1.word hp
  have few1 := T1.few
  have ml : (mv (mir pl) zs).length = zs.length := by unfold mv; rw [List.length_map]
  have me := mir_len pl
  refine ⟨_, (pss_one (ps_ret (pC D_in_order (hr.mono (by decide)) pass0 (pa_cons (pC D_places_behind (hr.mono (by decide)) pass0 (pa_cons (pC D_turn (hr.mono (by decide)) pass0 (pa_cons (pV 1) pa_nil)) (pa_cons (pV 0) pa_nil))) pa_nil)))), ?_⟩
  refine ⟨pl, rfl, w1, by omega, mir pl, a, zs, e, rfl, rfl, w1.mir, by omega, T1, ha, fun r H1 s1 nr hr => ?_⟩
  refine ⟨r, mv (mir pl) zs, rfl, .inl (.inl (.inl hr)), by omega, small_mv T1 (by omega), fun p H2 s2 np hp2 => ?_⟩
  exact q p H2 (s1.trans s2) (s1.free np) hp2

theorem ok_check_equation {f : Addr} {fd : FuncData} (T : Txt K mg C_NoTread) (D_check_tread : Dfn P w K mg base (L2.CX P w) 5 "check_tread" ["tread"] (spCheckTreadT K)) (F : Fun K "check_equation" "check_equation" s_check_equation f fd) (hm : mg "check_equation" = some (.ref f)) (hb : Binds K fd ["one", "other", "goal"] []) : Dfn P w K mg base (L2.CX P w) 6 "check_equation" ["one", "other", "goal"] (spD K 3 dCheckEq) := by
  refine Dfn.mkX F hm hb sc_check_equation (fun vs H Q E h => spD.len h) (fun cdv A outer s H vs Q E hr hsp => ?_)
  have hu := hr.units
  refine ⟨_, (pss_cons (ps_expr (pC D_check_tread (hr.mono (by decide)) (passes_call (takes_of rfl rfl rfl rfl) (fun _ _ _ _ z => z)) (pa_cons (pV 0) pa_nil)))
      (pss_cons (ps_expr (pC D_check_tread (hr.mono (by decide)) (passes_call (takes_of rfl rfl rfl rfl) (fun _ _ _ _ z => z)) (pa_cons (pV 1) pa_nil)))
      (pss_one (ps_expr (pC D_check_tread (hr.mono (by decide)) (passes_call (takes_of rfl rfl rfl rfl) (fun _ _ _ _ z => z)) (pa_cons (pV 2) pa_nil)))))), ?_⟩
  refine go_pure (K := K) 0 rfl hsp fun ds G e0 ho => ?_
  obtain ⟨A, B, C, a, b, c, rfl, E, hG⟩ := ho
  simp only [List.map_cons, List.map_nil, List.cons_append, List.nil_append, List.replicate_succ, List.replicate_zero]
  exact ⟨_, _, rfl, E.A, _, _, rfl, E.B, _, _, rfl, E.C, hG⟩

theorem ok_least_and_most {f : Addr} {fd : FuncData} (T : Txt K mg C_NoTread) (D_seen : Dfn P w K mg base CX0 3 "seen" ["places", "place"] (spSeen K)) (D_in_order : Dfn P w K mg base CX0 1 "in_order" ["places"] (spOrd K)) (D_places_on_ways : Dfn P w K mg base CX0 2 "places_on_ways" ["start", "goals"] (spWays K)) (D_follow : Dfn P w K mg base CX0 2 "follow" ["place", "word"] (spFollow)) (D_turn : Dfn P w K mg base CX0 1 "turn" ["word"] (spTurn)) (D_has_all : Dfn P w K mg base CX0 1 "has_all" ["places", "others"] (spD K 2 dHasAllQ)) (D_places_behind : Dfn P w K mg base CX0 2 "places_behind" ["start", "places"] (spPlacesBehind K)) (F : Fun K "least_and_most" "least_and_most" s_least_and_most f fd) (hm : mg "least_and_most" = some (.ref f)) (hb : Binds K fd ["one", "other", "goal"] []) : Dfn P w K mg base CX0 4 "least_and_most" ["one", "other", "goal"] (spD K 3 dLeastMost) := by
  refine Dfn.mk0 F hm hb sc_least_and_most (fun vs H Q E h => spD.len h) (fun cdv A outer s H vs Q E hr hsp => ?_)
  have hu := hr.units
  have hz := sizeLine_eq
  refine ⟨_, (pss_cons (ps_asg (pV 2) (pg_tupK (K := K) (n := 2) rfl (pgs_cons (pg_name (i := 3) sc_least_and_most.nd rfl (by first | exact .inl rfl | exact .inr rfl)) (pgs_cons (pg_name (i := 4) sc_least_and_most.nd rfl (by first | exact .inl rfl | exact .inr rfl)) pgs_nil))))
      (pss_cons (ps_asg (pV 0) (pg_tupK (K := K) (n := 2) rfl (pgs_cons (pg_name (i := 5) sc_least_and_most.nd rfl (by first | exact .inl rfl | exact .inr rfl)) (pgs_cons (pg_name (i := 6) sc_least_and_most.nd rfl (by first | exact .inl rfl | exact .inr rfl)) pgs_nil))))
      (pss_cons (ps_set (i := 7) sc_least_and_most.nd rfl (by first | exact .inl rfl | exact .inr rfl) (pC D_follow (hr.mono (by decide)) pass0 (pa_cons (pV 4) (pa_cons (pC D_turn (hr.mono (by decide)) pass0 (pa_cons (pe_ix (xIx (K := K)) (pV 1) pe_int (fun _ _ => rfl)) pa_nil)) pa_nil))))
      (pss_cons (ps_set (i := 8) sc_least_and_most.nd rfl (by first | exact .inl rfl | exact .inr rfl) (pe_op (oCatL (K := K)) (pe_callTy (cListOf (K := K)) (by rfl) T.b_list (by decide +kernel) (pa_cons (pV 5) pa_nil)) (pC D_places_behind (hr.mono (by decide)) pass0 (pa_cons (pV 7) (pa_cons (pe_ix (xIx (K := K)) (pV 1) pe_int (fun _ _ => rfl)) pa_nil)))))
      (pss_cons (ps_if (pt_not (tVal (pC D_has_all (hr.mono (by decide)) pass0 (pa_cons (pV 3) (pa_cons (pV 8) pa_nil))))) (pss_one (ps_ret pe_non)) pss_nil)
      (pss_cons (ps_set (i := 9) sc_least_and_most.nd rfl (by first | exact .inl rfl | exact .inr rfl) (pC D_turn (hr.mono (by decide)) pass0 (pa_cons (pV 6) pa_nil)))
      (pss_cons (ps_set (i := 10) sc_least_and_most.nd rfl (by first | exact .inl rfl | exact .inr rfl) (pC D_follow (hr.mono (by decide)) pass0 (pa_cons (pV 9) (pa_cons (pV 7) pa_nil))))
      (pss_cons (ps_set (i := 11) sc_least_and_most.nd rfl (by first | exact .inl rfl | exact .inr rfl) (pe_callTy (cSetQ (K := K) (P := P) (w := w) hu) (by rfl) T.b_set (by decide +kernel) (pa_cons (pV 8) pa_nil)))
      (pss_cons (ps_setLc (i := 12) (own := [("place", 13)]) (by rfl) sc_least_and_most.nd rfl rfl (sw_true rfl rfl rfl (by decide +kernel)) (pI (K := K) (pV 3)) (blkOk_by (N := N_least_and_most) (sc := defScope s_least_and_most) (by decide +kernel)) (fun _ _ _ _ _ => pg_name (i := 13) sc_least_and_most.nd rfl (by first | exact .inl rfl | exact .inr rfl)) (fun _ _ _ _ _ => pts_one (tCm (oNotInTxt (P := P) (w := w)) (pV 13) (pV 11) (by with_unfolding_all rfl))) (fun _ _ _ _ _ => (pC D_follow (hr.mono (by decide)) pass0 (pa_cons (pV 9) (pa_cons (pV 13) pa_nil)))))
      (pss_cons (ps_set (i := 14) sc_least_and_most.nd rfl (by first | exact .inl rfl | exact .inr rfl) (pC D_in_order (hr.mono (by decide)) pass0 (pa_cons (pe_callTy (show CallR _ (.type "list") mListD from call_listD rfl) (by rfl) T.b_list (by decide +kernel) (pa_cons (pC D_places_on_ways (hr.mono (by decide)) pass0 (pa_cons pe_str (pa_cons (pe_op oAdd (pV 12) (pe_lst (pa_cons (pV 10) pa_nil))) pa_nil))) pa_nil)) pa_nil)))
      (pss_one (ps_ret (pe_tup (pa_cons (pe_tup (pa_cons (pV 14) (pa_cons (pV 10) pa_nil))) (pa_cons (pe_tup (pa_cons (pC D_seen (hr.mono (by decide)) pass0 (pa_cons (pV 3) (pa_cons (pV 6) pa_nil))) (pa_cons (pV 10) pa_nil))) pa_nil))))))))))))))), ?_⟩
  refine go_pure (K := K) 12 rfl hsp fun ds G e0 ho => ?_
  obtain ⟨A, B, C, a, b, c, rfl, E, hG⟩ := ho
  simp only [List.map_cons, List.map_nil, List.cons_append, List.nil_append, List.replicate_succ, List.replicate_zero]
  have a1 := E.A.word E.A.en
  have b1 := E.B.word E.B.en
  have c1 := E.C.word E.C.en
  refine ⟨rfl, ⟨rfl, ?_⟩⟩
  simp only [List.set_cons_succ, List.set_cons_zero]
  refine ⟨rfl, ⟨rfl, ?_⟩⟩
  simp only [List.set_cons_succ, List.set_cons_zero]
  refine ⟨_, rfl, b, rfl, b1.1, by omega, c, mir b, rfl, b1.1.mir, by rw [mir_len]; omega, ?_⟩
  simp only [List.set_cons_succ, List.set_cons_zero]
  refine ⟨_, rfl, stopE c b, B, b, rfl, E.stop.1, by have := E.stop.2.2; omega, E.B, ?_⟩
  have sp := E.stop
  have gl := E.given_len
  have hl : (A.map PyData.str).length + ((mv (stopE c b) B).map PyData.str).length ≤ sizeLine := by
    unfold givenE at gl
    rw [List.length_append] at gl
    rw [List.length_map, List.length_map]
    omega
  refine ⟨hl, ?_⟩
  rw [← List.map_append]
  simp only [List.set_cons_succ, List.set_cons_zero]
  refine ⟨rfl, C, givenE A B c b, _, rfl, .inl rfl, by have := E.C.few; omega, ?_⟩
  unfold lamD at hG
  refine ite2 (fun h0 => ?_) (fun h0 => ?_)
  · have h : hasB C (givenE A B c b) ≠ true := fun z => by
      rw [z] at h0
      cases h0
    rw [if_neg h] at hG
    exact hG
  have h : hasB C (givenE A B c b) = true := by
    cases hh : hasB C (givenE A B c b) with
    | true => rfl
    | false => rw [hh] at h0; exact absurd rfl h0
  rw [if_pos h] at hG
  have h' := hasB_iff.mp h
  have lo := E.low h'
  have mo := E.most h'
  refine ⟨a, rfl, a1.1, by omega, mir a, stopE c b, rfl, sp.1, by rw [mir_len]; omega, ?_⟩
  simp only [List.set_cons_succ, List.set_cons_zero]
  refine ⟨givenE A B c b, .inl rfl, by omega, ?_⟩
  simp only [List.set_cons_succ, List.set_cons_zero]
  refine s_setL (lc_fmS C (fun z => decide (z ∉ givenE A B c b)) (fun z => .str (S (fol (mir a) z.cps.toList))) (by have := E.C.few; omega) rfl (fun z hz => ?_) (fun G' g' => ⟨_, .tup _, g'⟩) (.inr ?_))
  · obtain ⟨w1, rfl, hw1, _⟩ := E.C.pl z hz
    have w2 := (E.C.word hz).2.2
    refine ⟨rfl, fun G' g' => ⟨S w1, givenE A B c b, rfl, rfl, ?_⟩, fun G' _ g' => ?_⟩
    · by_cases m : S w1 ∈ givenE A B c b
      · rw [decide_eq_false (fun k => k m)] at g'
        rw [decide_eq_true m]
        exact g'
      · rw [decide_eq_true m] at g'
        rw [decide_eq_false m]
        exact g'
    · exact ⟨mir a, w1, rfl, hw1, by rw [mir_len]; omega, g'⟩
  simp only [List.set_cons_succ, List.set_cons_zero]
  have dl : (dueE A B C a b c).length ≤ 202 := by
    unfold dueE
    rw [List.length_append, List.length_map]
    have := List.length_filter_le (fun z => decide (z ∉ givenE A B c b)) C
    have := E.C.few
    show _ + 1 ≤ _
    omega
  have small := List.length_filter_le (fun z => decide (z ∉ givenE A B c b)) C
  have cf := E.C.few
  refine ⟨by show 1 ≤ sizeLine; omega, by rw [List.length_map]; show _ + 1 ≤ sizeLine; omega, [], dueE A B C a b c, ?_, .nil, rfl, Nat.zero_le _, fun g hg => ?_, by omega, fun ks nk hk => ?_⟩
  · show [PyData.str (S []), _] = _
    congr 2
    unfold dueE
    rw [List.map_append, List.map_append, List.map_map, List.map_map, List.map_map]
    rfl
  · have := mo.word (E.due h' g hg)
    exact ⟨this.1, this.2.1, by omega⟩
  · have sub : ∀ z ∈ ks.map S, z ∈ turnS C a := fun z hz => by
      obtain ⟨x, hx, rfl⟩ := List.mem_map.mp hz
      rcases (hk x).mp hx with rfl | ⟨g, hg, ow⟩
      · exact mo.nil_mem
      · exact mo.pre (E.due h' g hg) (onw_nil.mp ow)
    have nk' : (ks.map S).Nodup := List.pairwise_map.mpr (nk.imp fun {a b} h z => h (S_inj z))
    have kl := Nat.le_trans (len_sub nk' sub) mo.few
    refine ⟨ks.map S, .inl rfl, by omega, fun z hz => Nat.le_trans (mo.strLen (sub z hz)) (by decide), ?_⟩
    simp only [List.set_cons_succ, List.set_cons_zero]
    have eo : ordS (ks.map S) = lowE A B C a b c := ordS_congr fun z => by
      rw [List.mem_map, mem_allB]
      constructor
      · rintro ⟨x, hx, rfl⟩
        refine ⟨x, rfl, ((hk x).mp hx).imp id fun ⟨g, hg, ow⟩ => ⟨g, hg, onw_nil.mp ow⟩⟩
      · rintro ⟨x, rfl, k⟩
        exact ⟨x, (hk x).mpr (k.imp id fun ⟨g, hg, pf⟩ => ⟨g, hg, onw_nil.mpr pf⟩), rfl⟩
    rw [eo]
    refine ⟨by show 2 ≤ sizeLine; omega, C, c, a, rfl, E.C, start_in E.A h', by show 2 ≤ sizeLine; omega, by show 2 ≤ sizeLine; omega, ?_⟩
    exact hG

theorem ok_choices_above {f : Addr} {fd : FuncData} (T : Txt K mg C_NoTread) (F : Fun K "choices_above" "choices_above" s_choices_above f fd) (hm : mg "choices_above" = some (.ref f)) (hb : Binds K fd ["least", "most"] []) : Dfn P w K mg base CX0 1 "choices_above" ["least", "most"] (spDd K 2 dChoices) := by
  refine Dfn.mk0 F hm hb sc_choices_above (fun vs H Q E h => spDd.len h) (fun cdv A outer s H vs Q E hr hsp => ?_)
  have hu := hr.units
  have hz := sizeLine_eq
  refine ⟨_, (pss_cons (ps_set (i := 2) sc_choices_above.nd rfl (by first | exact .inl rfl | exact .inr rfl) (pe_callTy (cSetQ (K := K) (P := P) (w := w) hu) (by rfl) T.b_set (by decide +kernel) (pa_cons (pe_ix (xIx (K := K)) (pV 0) pe_int (fun _ _ => rfl)) pa_nil)))
      (pss_cons (ps_setDc (i := 3) (own := [("place", 4)]) (by rfl) sc_choices_above.nd rfl rfl (sw_trueD rfl rfl rfl (by decide +kernel)) (pI (K := K) (pe_ix (xIx (K := K)) (pV 1) pe_int (fun _ _ => rfl))) (blkOk_by (N := N_choices_above) (sc := defScope s_choices_above) (by decide +kernel)) (fun _ _ _ _ _ => pg_name (i := 4) sc_choices_above.nd rfl (by first | exact .inl rfl | exact .inr rfl)) (fun _ _ _ _ _ => pts_nil) (fun _ _ _ _ _ => (pV 4)) (fun _ _ _ _ _ => pe_int))
      (pss_cons (ps_for PassesOwn.never rfl (pI (K := K) (pe_down (K := K) (pe_ix (xIx (K := K)) (pV 1) pe_int (fun _ _ => rfl)))) (pg_name (i := 4) sc_choices_above.nd rfl (by first | exact .inl rfl | exact .inr rfl)) (pss_cons (ps_set (i := 5) sc_choices_above.nd rfl (by first | exact .inl rfl | exact .inr rfl) (pe_ifExp (tCm (oInTxt (P := P) (w := w)) (pV 4) (pV 2) (by with_unfolding_all rfl)) (pe_dget (lt1 hu) (pV 3) (pV 4) (fun _ _ => rfl)) (pe_op oAdd pe_int (pe_dget (lt1 hu) (pV 3) (pV 4) (fun _ _ => rfl)))))
      (pss_one (ps_asg (pe_op oMulW (pe_dget (lt1 hu) (pV 3) (pe_slice (sSl (K := K)) (pV 4) po_none (oPart (pe_un oNeg pe_int))) (fun _ _ => rfl)) (pV 5)) (pg_sub (pV 3) (pe_slice (sSl (K := K)) (pV 4) po_none (oPart (pe_un oNeg pe_int))) (set_dict (lt1 hu)))))))
      (pss_one (ps_ret (pV 3)))))), ?_⟩
  rw [seq3]
  refine go_dict (K := K) 4 rfl hsp fun ds G e0 ho => ?_
  obtain ⟨L, M, e, f, rfl, TL, TM, hG⟩ := ho
  simp only [List.map_cons, List.map_nil, List.cons_append, List.nil_append, List.replicate_succ, List.replicate_zero]
  refine ⟨_, rfl, L, .inr rfl, by have := TL.few; omega, ?_⟩
  simp only [List.set_cons_succ, List.set_cons_zero]
  refine ⟨_, rfl, by show 4 < 6; decide, M, .inr rfl, TM.nodup, by have := TM.few; omega, ?_⟩
  simp only [List.set_cons_succ, List.set_cons_zero]
  refine ⟨_, rfl, by rw [List.length_map]; exact TM.pos, (downR M).map .str, (by unfold downR; rw [List.map_reverse, List.map_drop]; exact .tup _), fun j δ => ∃ (g : List Nat → Nat) (s4 s5 : SD), δ = [.da (treadD L (S e)), .da (treadD M (S f)), .ob (isSet P w L), .di none (M.map fun z => ((.inr z : Key), PyData.int (g z.cps.toList))), s4, s5] ∧ ∀ q, S q ∈ M → g q = prodM (wyG M L) ((kidsW M q).filter fun x => decide (S x ∈ (downR M).take j)), ?_, ?_, ?_⟩
  · refine ⟨fun _ => 1, _, _, rfl, fun q hq => ?_⟩
    rw [List.take_zero]
    show 1 = prodM (wyG M L) (List.filter (fun x => decide (S x ∈ ([] : List Str))) _)
    rw [List.filter_eq_nil_iff.mpr (fun x _ h => by cases of_decide_eq_true h)]
    rfl
  · rintro j x δ hx ⟨g, s4, s5, rfl, hg⟩
    rw [List.getElem?_map] at hx
    obtain ⟨z, hzj, rfl⟩ := Option.map_eq_some_iff.mp hx
    have zm := List.mem_of_getElem? hzj
    obtain ⟨p, rfl, _⟩ := TM.pl z (by unfold downR at zm; exact List.mem_of_mem_drop (List.mem_reverse.mp zm))
    obtain ⟨hp, ne⟩ := (downR_mem TM).mp zm
    obtain ⟨g1, g2, g3⟩ := down_step (ks := L) TM hzj hg
    have pl := (TM.word hp).2.2
    refine ⟨S p, L, rfl, rfl, ?_⟩
    have kk : ∀ q, S q ∈ M → getP (M.map fun z => ((.inr z : Key), PyData.int (g z.cps.toList))) (.inr (S q)) = some (.int (g q)) := fun q hq => getP_map (g := fun z => PyData.int (g z.cps.toList)) hq
    have wp : ∀ (b : Bool), b = decide (S p ∈ L) → wyG M L p = g p + if b = true then 0 else 1 := fun b hb => by
      unfold wyG
      rw [g1, hb]
      by_cases c : S p ∈ L
      · rw [if_pos c, if_pos (decide_eq_true c)]
      · rw [if_neg c, if_neg (by rw [decide_eq_false c]; decide)]
    have key : ∀ (n : Nat) (s : SD), n = wyG M L p → s = .da (.int (n : Int)) → ∀ A : AEnds, A.nx [.da (treadD L (S e)), .da (treadD M (S f)), .ob (isSet P w L), .di none (M.map fun z => ((.inr z : Key), PyData.int ((if z.cps.toList = p.dropLast then g p.dropLast * wyG M L p else g z.cps.toList : Nat)))), .da (.str (S p)), s] →
        aDPut 3 (aOp dMulW (aDGet 3 (aSl (aV 4) aoNo (aoPart (aNeg (aC (PyData.int 1)))))) (aV 5)) (aSl (aV 4) aoNo (aoPart (aNeg (aC (PyData.int 1))))) A [.da (treadD L (S e)), .da (treadD M (S f)), .ob (isSet P w L), .di none (M.map fun z => ((.inr z : Key), PyData.int (g z.cps.toList))), .da (.str (S p)), s] := by
      rintro n s rfl rfl A hA
      refine s_put_mul (g := g) (q := p.dropLast) (n := wyG M L p) TM rfl (TM.cl p hp) (fun G' g' => ⟨by rw [S_len]; omega, ?_⟩) (fun G' g' => g') (mul_fits g2 (wyG_le p TM.few)) hA
      show G' (.str (cutS (S p) none (some (-1)))) _
      rw [cut_butlast]
      exact g'
    refine ite2 (fun c => ?_) (fun c => ?_)
    · refine ⟨_, kk p hp, ?_⟩
      refine key (g p) _ ?_ rfl _ ⟨fun q => if q = p.dropLast then g p.dropLast * wyG M L p else g q, _, _, rfl, g3⟩
      rw [wp true]
      · rfl
      · cases h : decide (S p ∈ L) with
        | true => rfl
        | false => rw [h] at c; cases c
    · refine ⟨_, kk p hp, ?_⟩
      have e1 : (PyData.int (1 + (g p : Int))) = .int ((g p + 1 : Nat) : Int) := by rw [Int.natCast_add, Int.add_comm]; rfl
      refine key (g p + 1) _ ?_ (by show SD.da (PyData.int (1 + (g p : Int))) = _; rw [e1]) _ ⟨fun q => if q = p.dropLast then g p.dropLast * wyG M L p else g q, _, _, rfl, g3⟩
      rw [wp false]
      · rfl
      · cases h : decide (S p ∈ L) with
        | false => rfl
        | true => rw [h] at c; exact absurd rfl c
  · rintro δ ⟨g, s4, s5, rfl, hg⟩
    refine ⟨_, rfl, ?_⟩
    have : (M.map fun z => ((.inr z : Key), PyData.int (g z.cps.toList))) = wayD M L := by
      unfold wayD
      refine List.map_congr_left fun z hz => ?_
      obtain ⟨q, rfl, _⟩ := TM.pl z hz
      show ((.inr (S q) : Key), PyData.int (g q)) = (.inr (S q), PyData.int (wy M L q))
      have hgq := hg q hz
      rw [List.length_map] at hgq
      rw [hgq, down_end TM hz]
    rw [this]
    exact hG

theorem ok_count_between {f : Addr} {fd : FuncData} (T : Txt K mg C_NoTread) (D_choices_above : Dfn P w K mg base CX0 1 "choices_above" ["least", "most"] (spDd K 2 dChoices)) (F : Fun K "count_between" "count_between" s_count_between f fd) (hm : mg "count_between" = some (.ref f)) (hb : Binds K fd ["least", "most"] []) : Dfn P w K mg base CX0 2 "count_between" ["least", "most"] (spD K 2 dCountB) := by
  refine Dfn.mk0 F hm hb sc_count_between (fun vs H Q E h => spD.len h) (fun cdv A outer s H vs Q E hr hsp => ?_)
  have hu := hr.units
  refine ⟨_, (pss_one (ps_ret (pe_dget (lt1 hu) (pC D_choices_above (hr.mono (by decide)) pass0 (pa_cons (pV 0) (pa_cons (pV 1) pa_nil))) pe_str (fun _ _ => rfl)))), ?_⟩
  refine go_pure (K := K) 0 rfl hsp fun ds G e0 ho => ?_
  obtain ⟨L, M, e, f, rfl, TL, TM, hG⟩ := ho
  simp only [List.map_cons, List.map_nil, List.cons_append, List.nil_append, List.replicate_succ, List.replicate_zero]
  refine ⟨rfl, _, _, _, _, rfl, TL, TM, _, getP_map (g := fun z => PyData.int (wy M L z.cps.toList)) TM.nil_mem, ?_⟩
  exact hG

theorem ok_solutions {f : Addr} {fd : FuncData} (T : Txt K mg C_NoTread) (D_count_between : Dfn P w K mg base CX0 2 "count_between" ["least", "most"] (spD K 2 dCountB)) (D_least_and_most : Dfn P w K mg base CX0 4 "least_and_most" ["one", "other", "goal"] (spD K 3 dLeastMost)) (D_check_equation : Dfn P w K mg base (L2.CX P w) 6 "check_equation" ["one", "other", "goal"] (spD K 3 dCheckEq)) (F : Fun K "solutions" "solutions" s_solutions f fd) (hm : mg "solutions" = some (.ref f)) (hb : Binds K fd ["one", "other", "goal"] []) : Dfn P w K mg base (L2.CX P w) 7 "solutions" ["one", "other", "goal"] (spD K 3 dSolutions) := by
  refine Dfn.mkX F hm hb sc_solutions (fun vs H Q E h => spD.len h) (fun cdv A outer s H vs Q E hr hsp => ?_)
  have hu := hr.units
  refine ⟨_, (pss_cons (ps_expr (pC D_check_equation (hr.mono (by decide)) (passes_call (takes_of rfl rfl rfl rfl) (fun _ _ _ _ z => z)) (pa_cons (pV 0) (pa_cons (pV 1) (pa_cons (pV 2) pa_nil)))))
      (pss_cons (ps_set (i := 3) sc_solutions.nd rfl (by first | exact .inl rfl | exact .inr rfl) (pC D_least_and_most (hr.mono (by decide)) pass0 (pa_cons (pV 0) (pa_cons (pV 1) (pa_cons (pV 2) pa_nil)))))
      (pss_cons (ps_if (tCm oIs (pV 3) pe_non (nomark _)) (pss_one (ps_ret pe_non)) pss_nil)
      (pss_cons (ps_asg (pV 3) (pg_tupK (K := K) (n := 2) rfl (pgs_cons (pg_name (i := 4) sc_solutions.nd rfl (by first | exact .inl rfl | exact .inr rfl)) (pgs_cons (pg_name (i := 5) sc_solutions.nd rfl (by first | exact .inl rfl | exact .inr rfl)) pgs_nil))))
      (pss_one (ps_ret (pe_tup (pa_cons (pV 4) (pa_cons (pV 5) (pa_cons (pC D_count_between (hr.mono (by decide)) pass0 (pa_cons (pV 4) (pa_cons (pV 5) pa_nil))) pa_nil)))))))))), ?_⟩
  refine go_pure (K := K) 3 rfl hsp fun ds G e0 ho => ?_
  obtain ⟨A, B, C, a, b, c, rfl, E, hG⟩ := ho
  simp only [List.map_cons, List.map_nil, List.cons_append, List.nil_append, List.replicate_succ, List.replicate_zero]
  refine ⟨rfl, _, _, _, _, _, _, rfl, E, ?_⟩
  refine ⟨rfl, _, _, _, _, _, _, rfl, E, ?_⟩
  simp only [List.set_cons_succ, List.set_cons_zero]
  unfold lamD
  unfold solD at hG
  by_cases h : hasB C (givenE A B c b) = true
  · rw [if_pos h] at hG ⊢
    have h' := hasB_iff.mp h
    refine s_is_some rfl rfl ?_
    refine ⟨rfl, ⟨rfl, ?_⟩⟩
    simp only [List.set_cons_succ, List.set_cons_zero]
    exact ⟨rfl, _, _, _, _, rfl, E.low h', E.most h', by show 3 ≤ sizeLine; decide, hG⟩
  · rw [if_neg h] at hG ⊢
    exact s_is_none rfl hG

theorem ok__law_open {f : Addr} {fd : FuncData} (T : Txt K mg C_NoTread) (F : Fun K "_law_open" "_law_open" s__law_open f fd) (hm : mg "_law_open" = some (.ref f)) (hb : Binds K fd ["script"] []) : Dfn P w K mg base CX0 1 "_law_open" ["script"] (spOpen K) := by
  refine Dfn.mk0 F hm hb sc__law_open (fun vs H Q E h => Sp1.len h) (fun cdv A outer s H vs Q E hr hsp => ?_)
  obtain ⟨a0, rfl, h⟩ := Sp1.of hsp
  clear hsp
  have hu := hr.units
  obtain ⟨a, ns, rfl, hS, hlen, q⟩ := h
  refine ⟨_, (pss_cons (ps_set (i := 1) sc__law_open.nd rfl (by first | exact .inl rfl | exact .inr rfl) (pe_callTy (cListOf (K := K)) (by rfl) T.b_list (by decide +kernel) (pa_cons (pe_slice (sSl (K := K)) (pV 0) po_none (oPart pe_int)) pa_nil)))
      (pss_cons (ps_for PassesOwn.never rfl (pi_enumK (K := K) (by rfl) T.b_enumerate (pa_cons (pe_slice (sSl (K := K)) (pV 0) (oPart pe_int) (oPart pe_int)) pa_nil)) (pg_tupK (K := K) (n := 2) rfl (pgs_cons (pg_name (i := 2) sc__law_open.nd rfl (by first | exact .inl rfl | exact .inr rfl)) (pgs_cons (pg_name (i := 3) sc__law_open.nd rfl (by first | exact .inl rfl | exact .inr rfl)) pgs_nil))) (pss_one (ps_asg (pe_op oAdd (pe_ix (xIx (K := K)) (pV 1) (pe_op oMod (pe_callTy cInt (by rfl) T.b_int (by decide +kernel) (pa_cons (pV 2) pa_nil)) pe_int) (fun _ _ => rfl)) (pV 3)) (pg_sub (pV 1) (pe_op oMod (pe_callTy cInt (by rfl) T.b_int (by decide +kernel) (pa_cons (pV 2) pa_nil)) pe_int) set_list))))
      (pss_one (ps_ret (pe_lst (pa_cons (pV 1) (pa_cons pe_int (pa_cons pe_int pa_nil)))))))), ?_⟩
  -- cells = list(script[:12])
  refine ⟨ns.map V.int, hS, fun p1 n1 => ?_⟩
  refine ⟨_, .inl (.inl (.inl upd_same)), fun l n2 => ?_⟩
  generalize hH : upd (upd H p1 _) l _ = H2
  have sm2 : Same H H2 := by rw [← hH]; exact (same_upd n1).trans (same_upd n2)
  have hl0 : H2 l = some (.lst ((ns.take 12).map V.int)) := by
    rw [← hH, upd_same]
    have e : cutV (ns.map V.int) none (some 12) = (ns.take 12).map V.int := by
      unfold cutV
      rw [HT.sIx_none, show HT.sIx (ns.map V.int).length (ns.map V.int).length (some 12) = min 12 (ns.map V.int).length from HT.sIx_nat _ _ 12, List.drop_zero, Nat.sub_zero, ← List.map_take]
      rw [List.length_map]
      congr 1
      by_cases c : 12 ≤ ns.length
      · rw [Nat.min_eq_left c]
      · rw [Nat.min_eq_right (by omega), List.take_length, List.take_of_length_le (by omega)]
    rw [e]
  have nl : H l = none := by
    cases e : H l with
    | none => rfl
    | some o => rw [same_upd n1 l o e] at n2; cases n2
  -- the slice
  refine ⟨ns.map V.int, sm2.seq hS, fun e n3 => ?_⟩
  have hes : cutV (ns.map V.int) (some 12) (some 63) = ((ns.drop 12).take 51).map V.int := by
    unfold cutV
    rw [show HT.sIx (ns.map V.int).length 0 (some 12) = min 12 (ns.map V.int).length from HT.sIx_nat _ _ 12, show HT.sIx (ns.map V.int).length (ns.map V.int).length (some 63) = min 63 (ns.map V.int).length from HT.sIx_nat _ _ 63, List.length_map]
    rw [← List.map_drop, ← List.map_take, Nat.min_eq_right (by omega : ns.length ≤ 63)]
    congr 1
    by_cases c : 12 ≤ ns.length
    · rw [Nat.min_eq_left c, List.take_of_length_le (by rw [List.length_drop]; omega), List.take_of_length_le (by rw [List.length_drop]; omega)]
    · rw [Nat.min_eq_right (by omega), List.drop_length, List.drop_of_length_le (by omega), List.take_nil, List.take_nil]
  have nle : l ≠ e := ne_of_none hl0 n3
  refine ⟨e, _, rfl, .inl (.inl upd_same), for_it walk_enum (fun i σ H' => ∃ y2 y3, σ = [some (.ref a), some (.ref l), y2, y3] ∧ Same H H' ∧ (∃ cs : List Int, H' l = some (.lst (cs.map V.int)) ∧ cs.length = min 12 ns.length) ∧ SqL K H' e (cutV (ns.map V.int) (some 12) (some 63))) ⟨none, none, rfl, sm2.trans (same_upd n3), ⟨_, (upd_ne nle).trans hl0, by rw [List.length_take]⟩, .inl (.inl upd_same)⟩ (fun i σ H' _ ⟨_, _, _, _, _, x⟩ => x) ?_ ?_⟩
  · rintro i v σ H4 H5 hi ⟨y2, y3, rfl, s4, ⟨cs, hl, hcl⟩, hE⟩ ⟨T, x, y, rfl, nT, rfl, hx, hy⟩
    cases hx
    rw [hes, List.length_map, List.length_take, List.length_drop] at hi
    rw [hes] at hy
    dsimp only at hy
    obtain ⟨z, rfl⟩ : ∃ z, y = V.int z := by
      rw [List.getElem?_map] at hy
      cases e : ((ns.drop 12).take 51)[i]? with
      | none => rw [e] at hy; cases hy
      | some z => rw [e] at hy; exact ⟨z, (Option.some.inj hy).symm⟩
    have nlT : l ≠ T := ne_of_none hl nT
    refine ⟨T, _, rfl, .inl (.inl upd_same), rfl, _, _, rfl, _, _, rfl, rfl, ?_⟩
    have hk0 : (0 : Int) ≤ (i : Int) % 12 := Int.emod_nonneg _ (by decide)
    have hk1 : (i : Int) % 12 < 12 := Int.emod_lt_of_pos _ (by decide)
    obtain ⟨j, hj⟩ : ∃ j : Nat, (i : Int) % 12 = (j : Int) := ⟨((i : Int) % 12).toNat, by omega⟩
    have hjl : j < cs.length := by omega
    have hg : (cs.map V.int)[j]? = some (.int cs[j]) := by rw [List.getElem?_map, List.getElem?_eq_getElem hjl]; rfl
    have hlT : (upd H4 T (.tup [.int (i : Nat), .int z])) l = some (.lst (cs.map V.int)) := (upd_ne nlT).trans hl
    refine ⟨by decide, _, _, .inl (.inl (.inl hlT)), at_of hj hg, by decide, l, _, _, j, rfl, rfl, hlT, ?_, ?_⟩
    · rw [hj, List.length_map]
      exact ixN_n hjl
    · have nlb : ∀ b o, H b = some o → b ≠ l := fun b o x => ne_of_none x nl
      refine ⟨_, _, rfl, (s4.trans (same_upd nT)).upd_new nl, ⟨cs.set j (cs[j] + z), ?_, ?_⟩, ?_⟩
      · rw [upd_same, List.map_set]
      · rw [List.length_set, hcl]
      · have sp : SameP l H4 (upd (upd H4 T (.tup [.int (i : Nat), .int z])) l (.lst ((cs.map V.int).set j (.int (cs[j] + z))))) := (SameP.of (same_upd nT)).trans sameP_upd
        exact sp.seq (Ne.symm nle) hE
  · rintro σ H4 ⟨y2, y3, rfl, s4, ⟨cs, hl, hcl⟩, hE⟩
    refine ⟨(by show 3 ≤ sizeLine; decide), fun p np => q p _ (s4.trans (same_upd np)) (s4.free np) ⟨l, cs, 0, 0, upd_same, ?_, ne_of_none hl np, by omega, by omega, by omega⟩⟩
    rw [upd_ne (ne_of_none hl np)]
    exact hl

theorem ok__law_spread {f : Addr} {fd : FuncData} (T : Txt K mg C_NoTread) (F : Fun K "_law_spread" "_law_spread" s__law_spread f fd) (hm : mg "_law_spread" = some (.ref f)) (hb : Binds K fd ["cell", "k"] []) : Dfn P w K mg base CX0 1 "_law_spread" ["cell", "k"] (spSpread) := by
  refine Dfn.mk0 F hm hb sc__law_spread (fun vs H Q E h => Sp2.len h) (fun cdv A outer s H vs Q E hr hsp => ?_)
  obtain ⟨a0, a1, rfl, h⟩ := Sp2.of hsp
  clear hsp
  have hu := hr.units
  obtain ⟨c, a, rfl, rfl, h0, h1, q⟩ := h
  refine ⟨_, (pss_cons (ps_if (tCm oGe (pV 0) (pe_op oPow pe_int pe_int) (nomark _)) (pss_one (ps_ret (pV 0))) pss_nil)
      (pss_cons (ps_set (i := 2) sc__law_spread.nd rfl (by first | exact .inl rfl | exact .inr rfl) (pe_lst (pa_cons pe_int (pa_cons pe_int (pa_cons pe_int (pa_cons pe_int (pa_cons pe_int (pa_cons pe_int (pa_cons pe_int (pa_cons pe_int pa_nil))))))))))
      (pss_cons (ps_set (i := 2) sc__law_spread.nd rfl (by first | exact .inl rfl | exact .inr rfl) (pe_op oAdd (pV 2) (pe_lst (pa_cons pe_int (pa_cons pe_int (pa_cons pe_int (pa_cons pe_int (pa_cons pe_int pa_nil))))))))
      (pss_cons (ps_set (i := 3) sc__law_spread.nd rfl (by first | exact .inl rfl | exact .inr rfl) (pe_op oMul (pe_op oMod (pe_callTy cInt (by rfl) T.b_int (by decide +kernel) (pa_cons (pV 0) pa_nil)) pe_int) (pe_op oAdd (pe_op oMul pe_int (pV 1)) pe_int)))
      (pss_cons (ps_set (i := 3) sc__law_spread.nd rfl (by first | exact .inl rfl | exact .inr rfl) (pe_op oMod (pe_callTy cInt (by rfl) T.b_int (by decide +kernel) (pa_cons (pe_op oPow (pe_op oAdd (pe_op oAdd (pV 3) (pe_op oMul (pV 1) pe_int)) pe_int) pe_int) pa_nil)) (pe_ix (xIx (K := K)) (pV 2) (pe_op oMod (pe_callTy cInt (by rfl) T.b_int (by decide +kernel) (pa_cons (pV 1) pa_nil)) pe_int) (fun _ _ => rfl))))
      (pss_cons (ps_set (i := 4) sc__law_spread.nd rfl (by first | exact .inl rfl | exact .inr rfl) (pe_op oMod (pe_callTy cInt (by rfl) T.b_int (by decide +kernel) (pa_cons (pe_op oPow (pe_op oAdd (pe_op oAdd (pe_op oMul (pV 3) (pe_op oAdd (pV 1) pe_int)) (pe_op oMod (pe_callTy cInt (by rfl) T.b_int (by decide +kernel) (pa_cons (pV 0) pa_nil)) pe_int)) pe_int) pe_int) pa_nil)) (pe_ix (xIx (K := K)) (pV 2) (pe_op oMod (pe_callTy cInt (by rfl) T.b_int (by decide +kernel) (pa_cons (pe_op oAdd (pV 1) pe_int) pa_nil)) pe_int) (fun _ _ => rfl))))
      (pss_cons (ps_set (i := 5) sc__law_spread.nd rfl (by first | exact .inl rfl | exact .inr rfl) (pe_op oMod (pe_callTy cInt (by rfl) T.b_int (by decide +kernel) (pa_cons (pe_op oPow (pe_op oAdd (pe_op oAdd (pV 4) (pe_op oMod (pe_callTy cInt (by rfl) T.b_int (by decide +kernel) (pa_cons (pV 3) pa_nil)) pe_int)) (pV 1)) pe_int) pa_nil)) (pe_ix (xIx (K := K)) (pV 2) (pe_op oMod (pe_callTy cInt (by rfl) T.b_int (by decide +kernel) (pa_cons (pe_op oAdd (pV 1) pe_int) pa_nil)) pe_int) (fun _ _ => rfl))))
      (pss_one (ps_ret (pe_op oAdd (pe_op oMul (pe_op oAdd (pe_op oMul (pV 3) pe_int) (pV 4)) pe_int) (pV 5))))))))))), ?_⟩
  refine ⟨⟨by decide, by decide, by decide⟩, ?_⟩
  refine ite2 (fun e => q c H ?_ (Same.refl H)) (fun _ => ?_)
  · have e1 : (10 : Int) ^ (18 : Int).toNat ≤ c := of_decide_eq_true e
    have e2 : (0 : Int) ≤ 10 ^ (18 : Int).toNat := by decide
    omega
  refine ⟨(by show 8 ≤ sizeLine; decide), fun p1 n1 => ?_⟩
  refine ⟨(by show 5 ≤ sizeLine; decide), fun p2 n2 => ?_⟩
  have ne12 : p1 ≠ p2 := fun e => by rw [e, upd_same] at n2; cases n2
  refine ⟨_, _, (upd_ne ne12).trans upd_same, upd_same, (by show 13 ≤ sizeLine; decide), fun p3 n3 => ?_⟩
  generalize hH : upd (upd (upd H p1 _) p2 _) p3 _ = H3
  have sm : Same H H3 := by rw [← hH]; exact ((same_upd n1).trans (same_upd n2)).trans (same_upd n3)
  have hL : SqL K H3 p3 (primesI.map V.int) := by rw [← hH]; exact .inl (.inl upd_same)
  -- one
  refine ⟨by decide, .inl ⟨by decide, by decide⟩, ⟨.inl ⟨by omega, by omega⟩, ?_⟩⟩
  have hc1 := Int.emod_nonneg c (b := 1000000007) (by decide)
  have hc2 := Int.emod_lt_of_pos c (b := 1000000007) (by decide)
  have m1 := mul_lt hc1 (A := 1000000007) (by omega) (y := 2 * a + 69069) (B := 8000069069) (by omega) (by omega)
  generalize c % 1000000007 * (2 * a + 69069) = u1 at m1 ⊢
  refine ⟨.inl ⟨by omega, by omega⟩, ⟨by decide, by decide, by omega⟩, by decide, ?_⟩
  obtain ⟨pr1, g1, b1, b2⟩ := primes_at (a % 13) (Int.emod_nonneg a (by decide)) (Int.emod_lt_of_pos a (by decide))
  refine ⟨_, _, .inl hL, g1, by omega, ?_⟩
  generalize (u1 + a * 40503 + 977) ^ (3 : Int).toNat = w1
  have d1 := Int.emod_nonneg w1 (b := pr1) (by omega)
  have d2 := Int.emod_lt_of_pos w1 (b := pr1) (by omega)
  generalize w1 % pr1 = one at d1 d2 ⊢
  -- two
  have m2 := mul_lt d1 (A := 2147483629) (by omega) (y := a + 3) (B := 4000000003) (by omega) (by omega)
  refine ⟨.inl ⟨by omega, by omega⟩, by decide, ⟨by decide, by decide, ?_⟩, by decide, ?_⟩
  · have hc3 := Int.emod_nonneg c (b := 65537) (by decide)
    have hc4 := Int.emod_lt_of_pos c (b := 65537) (by decide)
    generalize one * (a + 3) = u2 at m2 ⊢
    omega
  obtain ⟨pr2, g2, b3, b4⟩ := primes_at ((a + 5) % 13) (Int.emod_nonneg _ (by decide)) (Int.emod_lt_of_pos _ (by decide))
  refine ⟨_, _, .inl hL, g2, by omega, ?_⟩
  generalize (one * (a + 3) + c % 65537 + 5) ^ (5 : Int).toNat = w2
  have d3 := Int.emod_nonneg w2 (b := pr2) (by omega)
  have d4 := Int.emod_lt_of_pos w2 (b := pr2) (by omega)
  generalize w2 % pr2 = two at d3 d4 ⊢
  -- three
  have hc5 := Int.emod_nonneg one (b := 1009) (by decide)
  have hc6 := Int.emod_lt_of_pos one (b := 1009) (by decide)
  refine ⟨by decide, ⟨by decide, by decide, by omega⟩, by decide, ?_⟩
  obtain ⟨pr3, g3, b5, b6⟩ := primes_at ((a + 7) % 13) (Int.emod_nonneg _ (by decide)) (Int.emod_lt_of_pos _ (by decide))
  refine ⟨_, _, .inl hL, g3, by omega, ?_⟩
  generalize (two + one % 1009 + a) ^ (3 : Int).toNat = w3
  have d5 := Int.emod_nonneg w3 (b := pr3) (by omega)
  have d6 := Int.emod_lt_of_pos w3 (b := pr3) (by omega)
  generalize w3 % pr3 = three at d5 d6 ⊢
  refine ⟨.inl ⟨by omega, by omega⟩, .inr ⟨by decide, by decide⟩, ?_⟩
  refine q _ H3 ?_ sm
  omega

theorem ok__law_take {f : Addr} {fd : FuncData} (T : Txt K mg C_NoTread) (D__law_spread : Dfn P w K mg base CX0 1 "_law_spread" ["cell", "k"] (spSpread)) (F : Fun K "_law_take" "_law_take" s__law_take f fd) (hm : mg "_law_take" = some (.ref f)) (hb : Binds K fd ["pen", "many"] []) : Dfn P w K mg base CX0 2 "_law_take" ["pen", "many"] (spTake) := by
  refine Dfn.mk0 F hm hb sc__law_take (fun vs H Q E h => Sp2.len h) (fun cdv A outer s H vs Q E hr hsp => ?_)
  obtain ⟨a0, a1, rfl, h⟩ := Sp2.of hsp
  clear hsp
  have hu := hr.units
  obtain ⟨p, n, many, rfl, rfl, hp, hn, h1, h2, q⟩ := h
  obtain ⟨c, cells, at_, rest, hP, hC, ncp, ha, han, hr0⟩ := hp.ex
  refine ⟨_, (C8.pss_cut (ps_if (tCm oLt (pe_ix (xIx (K := K)) (pV 0) pe_int (fun _ _ => rfl)) (pV 1) (nomark _)) (pss_cons (ps_set (i := 2) sc__law_take.nd rfl (by first | exact .inl rfl | exact .inr rfl) (pe_ix (xIx (K := K)) (pV 0) pe_int (fun _ _ => rfl)))
      (pss_cons (ps_set (i := 3) sc__law_take.nd rfl (by first | exact .inl rfl | exact .inr rfl) pe_int)
      (C8.pss_cut (ps_if (tCm oLt (pV 2) (pe_callB (cLen (K := K)) (by rfl) T.b_len PySem.boot_len (pa_cons (pe_ix (xIx (K := K)) (pV 0) pe_int (fun _ _ => rfl)) pa_nil)) (nomark _)) (pss_one (ps_set (i := 3) sc__law_take.nd rfl (by first | exact .inl rfl | exact .inr rfl) (pe_ix (xIx (K := K)) (pe_ix (xIx (K := K)) (pV 0) pe_int (fun _ _ => rfl)) (pV 2) (fun _ _ => rfl)))) (pss_one (ps_if (tCm oGt (pe_callB (cLen (K := K)) (by rfl) T.b_len PySem.boot_len (pa_cons (pe_ix (xIx (K := K)) (pV 0) pe_int (fun _ _ => rfl)) pa_nil)) pe_int (nomark _)) (pss_one (ps_set (i := 3) sc__law_take.nd rfl (by first | exact .inl rfl | exact .inr rfl) (pe_op oMod (pe_callTy cInt (by rfl) T.b_int (by decide +kernel) (pa_cons (pe_ix (xIx (K := K)) (pe_ix (xIx (K := K)) (pV 0) pe_int (fun _ _ => rfl)) (pe_op oMod (pe_callTy cInt (by rfl) T.b_int (by decide +kernel) (pa_cons (pe_op oAdd (pe_op oMul (pV 2) pe_int) pe_int) pa_nil)) (pe_callB (cLen (K := K)) (by rfl) T.b_len PySem.boot_len (pa_cons (pe_ix (xIx (K := K)) (pV 0) pe_int (fun _ _ => rfl)) pa_nil))) (fun _ _ => rfl)) pa_nil)) (pe_op oAdd (pe_op oPow pe_int pe_int) (pV 2))))) pss_nil)))
      (pss_cons (ps_asg (pe_op oAdd (pV 2) pe_int) (pg_sub (pV 0) pe_int set_list))
      (pss_one (ps_asg (pC D__law_spread (hr.mono (by decide)) pass0 (pa_cons (pV 3) (pa_cons (pV 2) pa_nil))) (pg_sub (pV 0) pe_int set_list))))))) pss_nil)
      (pss_cons (ps_set (i := 4) sc__law_take.nd rfl (by first | exact .inl rfl | exact .inr rfl) (pe_op oMod (pe_callTy cInt (by rfl) T.b_int (by decide +kernel) (pa_cons (pe_ix (xIx (K := K)) (pV 0) pe_int (fun _ _ => rfl)) pa_nil)) (pV 1)))
      (pss_cons (ps_asg (pe_op oFdiv (pe_ix (xIx (K := K)) (pV 0) pe_int (fun _ _ => rfl)) (pV 1)) (pg_sub (pV 0) pe_int set_list))
      (pss_one (ps_ret (pV 4)))))), ?_⟩
  refine ⟨fun σ' H' => ∃ x2 x3, ∃ at2 rest2 : Int, σ' = [some (.ref p), some (.int many), x2, x3, none] ∧ H' p = some (.lst [.ref c, .int at2, .int rest2]) ∧ H' c = some (.lst (cells.map V.int)) ∧ SamQ p H H' ∧ 0 ≤ at2 ∧ at2 ≤ n + 1 ∧ 0 ≤ rest2, ?_, ?_⟩
  · refine ⟨_, _, .inl (.inl (.inl hP)), rfl, ?_⟩
    refine ite2 (fun _ => ?_) (fun _ => ⟨_, _, _, _, rfl, hP, hC, SamQ.refl p H, ha, by omega, hr0⟩)
    refine ⟨_, _, .inl (.inl (.inl hP)), rfl, ?_⟩
    refine ⟨fun σ' H' => ∃ v : Int, σ' = [some (.ref p), some (.int many), some (.int at_), some (.int v), none] ∧ H' = H, ?_, ?_⟩
    · refine ⟨_, _, .inl (.inl (.inl hP)), rfl, _, .inl (.inl (.inl hC)), ?_⟩
      refine ite2 (fun e => ?_) (fun _ => ?_)
      · have e1 : at_ < ((cells.map V.int).length : Int) := of_decide_eq_true e
        rw [List.length_map] at e1
        obtain ⟨j, rfl⟩ : ∃ j : Nat, at_ = j := ⟨at_.toNat, by omega⟩
        have hg : (cells.map V.int)[j]? = some (.int (cells[j]'(by omega))) := by rw [List.getElem?_map, List.getElem?_eq_getElem (by omega)]; rfl
        exact ⟨_, _, .inl (.inl (.inl hP)), rfl, _, _, .inl (.inl (.inl hC)), atI_nat hg, _, rfl, rfl⟩
      refine ⟨_, _, .inl (.inl (.inl hP)), rfl, _, .inl (.inl (.inl hC)), ?_⟩
      refine ite2 (fun e => ?_) (fun _ => ⟨_, rfl, rfl⟩)
      have e1 : (0 : Int) < ((cells.map V.int).length : Int) := of_decide_eq_true e
      refine ⟨_, _, .inl (.inl (.inl hP)), rfl, .inl ⟨by omega, by omega⟩, _, _, .inl (.inl (.inl hP)), rfl, _, .inl (.inl (.inl hC)), e1, ?_⟩
      have k0 := Int.emod_nonneg (at_ * 5 + 3) (b := ((cells.map V.int).length : Int)) (by omega)
      have k1 := Int.emod_lt_of_pos (at_ * 5 + 3) (b := ((cells.map V.int).length : Int)) e1
      obtain ⟨j, hj⟩ : ∃ j : Nat, (at_ * 5 + 3) % ((cells.map V.int).length : Int) = j := ⟨((at_ * 5 + 3) % ((cells.map V.int).length : Int)).toNat, by omega⟩
      have hjl : j < cells.length := by rw [hj, List.length_map] at k1; omega
      have hg : (cells.map V.int)[j]? = some (.int cells[j]) := by rw [List.getElem?_map, List.getElem?_eq_getElem hjl]; rfl
      refine ⟨_, _, .inl (.inl (.inl hC)), at_of hj hg, ⟨by decide, by decide, by decide⟩, ?_, ⟨_, rfl, rfl⟩⟩
      have e2 : (0 : Int) ≤ 10 ^ (17 : Int).toNat := by decide
      have e3 : (0 : Int) < 10 ^ (17 : Int).toNat := by decide
      omega
    · rintro σ' H' ⟨v, rfl, rfl⟩
      refine ⟨p, _, _, 1, rfl, rfl, hP, rfl, ?_⟩
      refine ⟨v, at_, rfl, rfl, ha, by omega, fun r H2 hr s2 => ?_⟩
      have hP2 := s2 _ _ (upd_same (H := H') (a := p))
      refine ⟨p, _, _, 2, rfl, rfl, hP2, rfl, ?_⟩
      refine ⟨_, _, _, _, rfl, upd_same, ?_, ?_, by omega, by omega, hr⟩
      · rw [upd_ne ncp]
        exact s2 _ _ ((upd_ne ncp).trans hC)
      · exact ((SamQ.upd hP).trans (SamQ.of s2)).trans (SamQ.upd hP2)
  · rintro σ' H' ⟨x2, x3, at2, rest2, rfl, hP2, hC2, s2, b0, b1, b2⟩
    refine ⟨_, _, .inl (.inl (.inl hP2)), rfl, h1, _, _, .inl (.inl (.inl hP2)), rfl, ⟨h1, h2⟩, p, _, _, 2, rfl, rfl, hP2, rfl, ?_⟩
    refine q _ _ (Int.emod_nonneg _ (by omega)) (Int.emod_lt_of_pos _ h1) (s2.trans (SamQ.upd hP2)) ⟨c, cells, at2, rest2 / many, upd_same, (upd_ne ncp).trans hC2, ncp, b0, by omega, Int.ediv_nonneg b2 (by omega)⟩

theorem ok__law_one_of {f : Addr} {fd : FuncData} (T : Txt K mg C_NoTread) (D__law_take : Dfn P w K mg base CX0 2 "_law_take" ["pen", "many"] (spTake)) (F : Fun K "_law_one_of" "_law_one_of" s__law_one_of f fd) (hm : mg "_law_one_of" = some (.ref f)) (hb : Binds K fd ["pen", "some"] []) : Dfn P w K mg base CX0 3 "_law_one_of" ["pen", "some"] (spPick K) := by
  refine Dfn.mk0 F hm hb sc__law_one_of (fun vs H Q E h => Sp2.len h) (fun cdv A outer s H vs Q E hr hsp => ?_)
  obtain ⟨a0, a1, rfl, h⟩ := Sp2.of hsp
  clear hsp
  have hu := hr.units
  obtain ⟨p, n, rfl, hp, hn, h⟩ := h
  have hz := sizeLine_eq
  refine ⟨_, (pss_one (ps_ret (pe_ix (xIx (K := K)) (pV 1) (pC D__law_take (hr.mono (by decide)) pass0 (pa_cons (pV 0) (pa_cons (pe_callB (cLen (K := K)) (by rfl) T.b_len PySem.boot_len (pa_cons (pV 1) pa_nil)) pa_nil))) (fun _ _ => rfl)))), ?_⟩
  cases a1 with
  | str z =>
    obtain ⟨h1, h2, q⟩ := h
    refine ⟨h2, p, n, _, rfl, rfl, hp, hn, by omega, by omega, fun r H' r0 r1 s2 hp2 => ?_⟩
    obtain ⟨c, hc, e⟩ := at_int (xs := z.cps.toList) r0 (by rw [str_len]; exact r1)
    exact ⟨h2, c, e, q c hc H' s2 hp2⟩
  | ref a =>
    obtain ⟨xs, hx, na, h1, h2, q⟩ := h
    have h3 : 0 < xs.length := List.length_pos_iff.mpr h1
    refine ⟨xs, hx, p, n, _, rfl, rfl, hp, hn, by omega, by omega, fun r H' r0 r1 s2 hp2 => ?_⟩
    obtain ⟨v, hv, e⟩ := at_int (xs := xs) r0 r1
    refine ⟨xs, v, ?_, e, q v hv H' s2 hp2⟩
    rcases na with na | ht | hk
    · exact hx.imp (fun x => s2.seq na x) (fun x => s2.tup na x)
    · refine .inr ?_
      obtain ⟨c, cells, a', r', g1, _⟩ := hp.ex
      rcases ht with (h | ⟨o, h⟩) | h
      · exact .inl (.inl (s2.st _ _ (ne_of h g1 (by intro z; cases z)) h))
      · exact .inl (.inr ⟨o, s2.st _ _ (ne_of h g1 (by intro z; cases z)) h⟩)
      · exact .inr h
    · exact .inl (hk H')
  | _ => exact h.elim

theorem ok__law_back {f : Addr} {fd : FuncData} (T : Txt K mg C_NoTread) (F : Fun K "_law_back" "_law_back" s__law_back f fd) (hm : mg "_law_back" = some (.ref f)) (hb : Binds K fd ["word"] []) : Dfn P w K mg base CX0 1 "_law_back" ["word"] (spD K 1 dMirror) := by
  refine Dfn.mk0 F hm hb sc__law_back (fun vs H Q E h => spD.len h) (fun cdv A outer s H vs Q E hr hsp => ?_)
  have hu := hr.units
  have hz := sizeLine_eq
  refine ⟨_, (pss_one (ps_ret (pe_joinK (K := K) pe_str (pe_lc (own := [("letter", 1)]) (by rfl) sc__law_back.nd (pI (K := K) (pe_back (K := K) (pV 0))) (blkOk_by (N := N__law_back) (sc := defScope s__law_back) (by decide +kernel)) (fun _ _ _ _ _ => pg_name (i := 1) sc__law_back.nd rfl (by first | exact .inl rfl | exact .inr rfl)) (fun _ _ _ _ _ => pts_nil) (fun _ _ _ _ _ => (pe_ifExp (tCm (oEq (K := K) hu) (pe_m0 PySem.F.slot_str_upper PySem.F.type_str_upper (show MtR _ _ mUpper from mt_upper) (pV 1)) (pV 1) (nomark _)) (pe_m0 PySem.F.slot_str_lower PySem.F.type_str_lower (show MtR _ _ mLower from mt_lower) (pV 1)) (pe_m0 PySem.F.slot_str_upper PySem.F.type_str_upper (show MtR _ _ mUpper from mt_upper) (pV 1)))))))), ?_⟩
  refine go_pure (K := K) 1 rfl hsp fun ds G e0 ho => ?_
  obtain ⟨u, rfl, h1, h2, hG⟩ := ho
  simp only [List.map_cons, List.map_nil, List.cons_append, List.nil_append, List.replicate_succ, List.replicate_zero]
  refine s_ret (e_m1s (e_l ?_))
  have rv : IsL u.reverse := h1.sub fun c hc => List.mem_reverse.mp hc
  refine lc_mapS' (u.reverse.map fun c => S [c]) (fun z => .str (S [oth (z.cps.toList.headD 0)])) (by rw [List.length_map, List.length_reverse]; omega) rfl (fun z hz => ⟨rfl, fun G' g' => ?_⟩) (fun G' g' => ?_) ?_
  · obtain ⟨c, hc, rfl⟩ := List.mem_map.mp hz
    exact e_oth rfl (rv c hc) g'
  · rw [← signs_map] at g'
    exact ⟨by rw [S_len]; omega, _, .str _, g'⟩
  · refine ⟨(mir u).map fun c => S [c], .inl ?_, by rw [ones_sum, List.length_map, mir_len]; show _ + _ * 0 ≤ _; omega, ?_⟩
    · unfold mir
      rw [List.map_map, List.map_map, ← List.map_reverse, List.map_map]
      rfl
    · show G (.str (Txt.join ("" : Str) _))
      rw [join_signs]
      exact hG

theorem ok__law_behind {f : Addr} {fd : FuncData} (T : Txt K mg C_NoTread) (F : Fun K "_law_behind" "_law_behind" s__law_behind f fd) (hm : mg "_law_behind" = some (.ref f)) (hb : Binds K fd ["place", "word"] []) : Dfn P w K mg base CX0 1 "_law_behind" ["place", "word"] (spD K 2 dFollow) := by
  refine Dfn.mk0 F hm hb sc__law_behind (fun vs H Q E h => spD.len h) (fun cdv A outer s H vs Q E hr hsp => ?_)
  have hu := hr.units
  have hz := sizeLine_eq
  refine ⟨_, (pss_cons (ps_for PassesOwn.never rfl (pI (K := K) (pV 1)) (pg_name (i := 2) sc__law_behind.nd rfl (by first | exact .inl rfl | exact .inr rfl)) (pss_cons (ps_set (i := 3) sc__law_behind.nd rfl (by first | exact .inl rfl | exact .inr rfl) (pe_ifExp (tCm (oEq (K := K) hu) (pe_m0 PySem.F.slot_str_upper PySem.F.type_str_upper (show MtR _ _ mUpper from mt_upper) (pV 2)) (pV 2) (nomark _)) (pe_m0 PySem.F.slot_str_lower PySem.F.type_str_lower (show MtR _ _ mLower from mt_lower) (pV 2)) (pe_m0 PySem.F.slot_str_upper PySem.F.type_str_upper (show MtR _ _ mUpper from mt_upper) (pV 2))))
      (pss_one (ps_set (i := 0) sc__law_behind.nd rfl (by first | exact .inl rfl | exact .inr rfl) (pe_ifExp (tCm (oEq (K := K) hu) (pe_slice (sSl (K := K)) (pV 0) (oPart (pe_un oNeg pe_int)) po_none) (pV 3) (nomark _)) (pe_slice (sSl (K := K)) (pV 0) po_none (oPart (pe_un oNeg pe_int))) (pe_op oAdd (pV 0) (pV 2)))))))
      (pss_one (ps_ret (pV 0)))), ?_⟩
  refine go_pure (K := K) 2 rfl hsp fun ds G e0 ho => ?_
  obtain ⟨u, v, rfl, h1, h2, hG⟩ := ho
  simp only [List.map_cons, List.map_nil, List.cons_append, List.nil_append, List.replicate_succ, List.replicate_zero]
  refine ⟨_, .str _, fun j δ => ∃ s2 s3, δ = [.da (.str (S (fol u (v.take j)))), .da (.str (S v)), s2, s3], ⟨_, _, rfl⟩, ?_, ?_⟩
  · rintro j x δ hx ⟨s2, s3, rfl⟩
    rw [List.getElem?_map] at hx
    obtain ⟨c, hc, rfl⟩ := Option.map_eq_some_iff.mp hx
    have hc : v[j]? = some c := hc
    have hcl := h1 c (List.mem_of_getElem? hc)
    refine s_set (e_oth (c := c) rfl hcl ?_)
    simp only [List.set_cons_succ, List.set_cons_zero]
    have fl := fol_len (p := u) (w := v.take j)
    rw [List.length_take] at fl
    have e : fol u (v.take (j + 1)) = stp (fol u (v.take j)) c := by
      rw [List.take_succ, hc, fol_app]
      rfl
    rw [e]
    have si := step_is (fol u (v.take j)) c
    refine ⟨by rw [S_len]; omega, ?_⟩
    refine ite2 (fun t => ?_) (fun t => ?_)
    · rw [if_pos t] at si
      refine ⟨by rw [S_len]; omega, .da (.str (S [c])), .da (.str (S [oth c])), ?_⟩
      rw [← si]
      show _ = [SD.da (.str (S (fol u (v.take j)).dropLast)), _, _, _]
      rw [← cut_butlast]
      rfl
    · rw [if_neg t] at si
      refine ⟨by rw [S_len]; show _ + 1 ≤ _; omega, .da (.str (S [c])), .da (.str (S [oth c])), ?_⟩
      rw [← si, ← S_cat]
      rfl
  · rintro δ ⟨s2, s3, rfl⟩
    rw [List.length_map]
    show G (.str (S (fol u (v.take v.length))))
    rw [List.take_length]
    exact hG

theorem ok__law_sorted {f : Addr} {fd : FuncData} (T : Txt K mg C_NoTread) (F : Fun K "_law_sorted" "_law_sorted" s__law_sorted f fd) (hm : mg "_law_sorted" = some (.ref f)) (hb : Binds K fd ["places"] []) : Dfn P w K mg base CX0 1 "_law_sorted" ["places"] (spOrd K) := by
  refine Dfn.mk0 F hm hb sc__law_sorted (fun vs H Q E h => Sp1.len h) (fun cdv A outer s H vs Q E hr hsp => ?_)
  obtain ⟨a0, rfl, h⟩ := Sp1.of hsp
  clear hsp
  have hu := hr.units
  obtain ⟨l, zs, rfl, hl, hn, hz, q⟩ := h
  have hz0 := sizeLine_eq
  refine ⟨_, (pss_one (ps_ret (pe_callTy (cTupOf (K := K)) (by rfl) T.b_tuple (by decide +kernel) (pa_cons (pe_lc (own := [("size", 1), ("place", 2)]) (by rfl) sc__law_sorted.nd (pI (K := K) (pe_callB (cSortG (K := K) (Z := tupSet P w) hu) (by rfl) T.b_sorted PyProof.Rows.boot_sorted (pa_cons (pe_callTy (cSetG (K := K) (Z := tupSet P w) (IsV := Xia.IsTup K) (fun I h r => tup_of I h r) hu) (by rfl) T.b_set (by decide +kernel) (pa_cons (pe_lc (own := [("place", 2)]) (by rfl) sc__law_sorted.nd (pI (K := K) (pV 0)) (blkOk_by (N := N__law_sorted) (sc := defScope s__law_sorted) (by decide +kernel)) (fun _ _ _ _ _ => pg_name (i := 2) sc__law_sorted.nd rfl (by first | exact .inl rfl | exact .inr rfl)) (fun _ _ _ _ _ => pts_nil) (fun _ _ _ _ _ => (pe_tup (pa_cons (pe_callB (cLen (K := K)) (by rfl) T.b_len PySem.boot_len (pa_cons (pV 2) pa_nil)) (pa_cons (pV 2) pa_nil))))) pa_nil)) pa_nil))) (blkOk_by (N := N__law_sorted) (sc := defScope s__law_sorted) (by decide +kernel)) (fun _ _ _ _ _ => pg_tupK (K := K) (n := 2) rfl (pgs_cons (pg_name (i := 1) sc__law_sorted.nd rfl (Or.inl rfl)) (pgs_cons (pg_name (i := 2) sc__law_sorted.nd rfl (Or.inl rfl)) pgs_nil))) (fun _ _ _ _ _ => pts_nil) (fun _ _ _ _ _ => (pV 2))) pa_nil)))), ?_⟩
  -- the row of pairs
  have first : ∀ R : VK, (∀ D ts H', Same H H' → H D = none → H' D = some (.lst (ts.map V.ref)) → PairsAt H' zs ts → R (.ref D) H') →
      tLc (iAny K (tV 0)) (gName 2) tYes (tTup (tCons (tCB (mLen K) (tCons (tV 2) tNil)) (tCons (tV 2) tNil))) [2] [some (.ref l), none, none] H R := by
    intro R hR
    have base : ∀ D, H D = none → Same H (upd H D (.lst [])) ∧ ∃ ts : List Addr, (upd H D (.lst [])) D = some (.lst (ts.map V.ref)) ∧ PairsAt (upd H D (.lst [])) (zs.take 0) ts := fun D nD => ⟨same_upd nD, [], upd_same, trivial⟩
    have step : ∀ (D : Addr), H D = none → ∀ (j : Nat) (x : V) (H1 : Hp), j < zs.length → (Same H H1 ∧ ∃ ts : List Addr, H1 D = some (.lst (ts.map V.ref)) ∧ PairsAt H1 (zs.take j) ts) → (zs.map V.str)[j]? = some x →
        ∃ z, x = .str z ∧ z.length ≤ sizeLine ∧ 2 ≤ sizeLine ∧ ∀ T, H1 T = none → ∃ acc, (upd H1 T (.tup [.int z.length, .str z])) D = some (.lst acc) ∧ acc.length < sizeLine ∧
          (Same H (upd (upd H1 T (.tup [.int z.length, .str z])) D (.lst (acc ++ [.ref T]))) ∧ ∃ ts : List Addr, (upd (upd H1 T (.tup [.int z.length, .str z])) D (.lst (acc ++ [.ref T]))) D = some (.lst (ts.map V.ref)) ∧ PairsAt (upd (upd H1 T (.tup [.int z.length, .str z])) D (.lst (acc ++ [.ref T]))) (zs.take (j + 1)) ts) := by
      intro D nD j x H1 hj ⟨s1, ts, hD, hP⟩ hx
      rw [List.getElem?_map] at hx
      obtain ⟨z, hzj, rfl⟩ := Option.map_eq_some_iff.mp hx
      have zl := hz z (List.mem_of_getElem? hzj)
      refine ⟨z, rfl, by omega, by omega, fun T nT => ⟨_, (same_upd nT) _ _ hD, ?_, ?_⟩⟩
      · have := hP.len
        rw [List.length_map, ← this, List.length_take]
        omega
      · have hD2 : (upd H1 T (.tup [.int z.length, .str z])) D = some (.lst (ts.map V.ref)) := (same_upd nT) _ _ hD
        have TD : T ≠ D := fun e => by rw [e, hD] at nT; cases nT
        refine ⟨(s1.trans (same_upd nT)).upd_new nD, ts ++ [T], by rw [upd_same, List.map_append]; rfl, ?_⟩
        rw [List.take_succ, hzj]
        refine PairsAt.snoc ?_ ((hP.same (same_upd nT)).sameP sameP_upd hD2)
        rw [upd_ne TD]
        exact upd_same
    rcases hl with hl | hl
    · refine .inl ⟨_, hl, fun D nD => lc_it walk_list (fun j H1 => Same H H1 ∧ ∃ ts : List Addr, H1 D = some (.lst (ts.map V.ref)) ∧ PairsAt H1 (zs.take j) ts) (base D nD) (fun i H1 _ e => e.1.seq hl) ?_ ?_⟩
      · rintro j x H1 H2 hj hI ⟨rfl, hx⟩
        rw [List.length_map] at hj
        obtain ⟨z, rfl, a1, a2, a3⟩ := step D nD j x H2 hj hI hx
        exact ⟨rfl, a1, a2, a3⟩
      · rintro H1 ⟨s1, ts, hD, hP⟩
        rw [List.length_map, List.take_length] at hP
        exact hR D ts H1 s1 nD hD hP
    · refine .inr ⟨_, hl, fun D nD => lc_it walk_tup (fun j H1 => Same H H1 ∧ ∃ ts : List Addr, H1 D = some (.lst (ts.map V.ref)) ∧ PairsAt H1 (zs.take j) ts) (base D nD) (fun i H1 _ e => e.1.tup hl) ?_ ?_⟩
      · rintro j x H1 H2 hj hI ⟨rfl, hx⟩
        rw [List.length_map] at hj
        obtain ⟨z, rfl, a1, a2, a3⟩ := step D nD j x H2 hj hI hx
        exact ⟨rfl, a1, a2, a3⟩
      · rintro H1 ⟨s1, ts, hD, hP⟩
        rw [List.length_map, List.take_length] at hP
        exact hR D ts H1 s1 nD hD hP
  refine tRet_intro (tCB_intro1 (tLc_intro (iAny_intro (tCB_intro1 (tCB_intro1 (first _ fun D ts H1 s1 nD hD hP => ?_))))))
  obtain ⟨B0, k1, k2, k3⟩ := hP.keys
  have hl0 := hP.len
  refine ⟨D, B0, rfl, .inl (.inl (.inl (by rw [k2]; exact hD))), fun b hb => ?_, ?_, fun a B na nd sub all => ?_⟩
  · obtain ⟨t, z, rfl, ht⟩ := k3 b hb
    exact ⟨t, rfl, .inl (.inl ht)⟩
  · have e := congrArg List.length k1
    rw [List.length_map, List.length_map] at e
    show B0.length ≤ 1227
    omega
  have s2 : Same H1 (upd H1 a (SetG (tupSet P w) a B)) := same_upd na
  have isD : ∀ b ∈ B, ∃ t z, b = (lenKey z, V.ref t) ∧ (upd H1 a (SetG (tupSet P w) a B)) t = some (.tup [.int z.length, .str z]) := fun b hb => by
    obtain ⟨t, z, e, ht⟩ := k3 b (sub b hb)
    exact ⟨t, z, e, s2 _ _ ht⟩
  refine ⟨a, B, pairD, rfl, upd_same, fun b hb => ?_, ?_, ?_, fun p1 B' pB nd' np1 => ?_⟩
  · obtain ⟨t, z, rfl, ht⟩ := isD b hb
    exact ⟨.tup (.inl (.inl ht)) (.cons (.int _) (.cons (.str _) .nil)), by show 1 ≤ 50; decide⟩
  · intro d hd d' hd'
    obtain ⟨b, hb, rfl⟩ := List.mem_map.mp hd
    obtain ⟨b', hb', rfl⟩ := List.mem_map.mp hd'
    obtain ⟨t, z, rfl, _⟩ := isD b hb
    obtain ⟨t', z', rfl, _⟩ := isD b' hb'
    rfl
  · refine .inl fun d hd => ?_
    obtain ⟨b, hb, rfl⟩ := List.mem_map.mp hd
    obtain ⟨t, z, rfl, _⟩ := isD b hb
    exact ⟨_, _, rfl⟩
  obtain ⟨g1, g2⟩ := pair_ord k1 pB nd' sub all
  generalize hm : B'.mergeSort (PySem.W.dataLe false fun b => pairD b.1) = m at g1 g2 ⊢
  have isM : ∀ b ∈ m, ∃ t z, b = (lenKey z, V.ref t) ∧ H1 t = some (.tup [.int z.length, .str z]) := fun b hb => k3 b (g2 b hb).1
  clear hm
  generalize hG : upd _ p1 _ = G
  have s3 : Same H1 G := by rw [← hG]; exact s2.trans (same_upd np1)
  have hp1 : G p1 = some (.lst (m.map (·.2))) := by rw [← hG]; exact upd_same
  refine .inl ⟨_, .inl (.inl hp1), fun D2 nD2 => lc_it walk_list (fun j H3 => Same G H3 ∧ H3 D2 = some (.lst (((ordS zs).take j).map V.str))) ⟨same_upd nD2, upd_same⟩ (fun i H3 _ e => .inl (.inl (e.1 _ _ hp1))) ?_ ?_⟩
  · rintro j x H3 H4 hj ⟨s4, h4⟩ ⟨rfl, hx⟩
    rw [List.getElem?_map] at hx
    obtain ⟨b, hbj, rfl⟩ := Option.map_eq_some_iff.mp hx
    obtain ⟨t, z, rfl, ht⟩ := isM b (List.mem_of_getElem? hbj)
    have hzj : (ordS zs)[j]? = some z := by rw [← g1, List.getElem?_map, hbj]; rfl
    have ht4 := s4 _ _ (s3 _ _ ht)
    have jl : j < (ordS zs).length := (List.getElem?_eq_some_iff.mp hzj).1
    have ol := ordS_len zs
    refine ⟨t, _, rfl, .inl (.inl ht4), rfl, _, _, rfl, _, _, rfl, rfl, rfl, _, h4, ?_, s4.upd_new nD2, ?_⟩
    · rw [List.length_map, List.length_take]
      omega
    · rw [upd_same, List.take_succ, hzj, List.map_append]
      rfl
  · rintro H3 ⟨s4, h4⟩
    have e : m.length = (ordS zs).length := by rw [← g1, List.length_map]
    rw [List.length_map, e, List.take_length] at h4
    refine ⟨_, .inl (.inl h4), fun p3 np3 => ?_⟩
    have s5 : Same H H3 := (s1.trans s3).trans s4
    exact q p3 _ (s5.trans (same_upd np3)) (s5.free np3) upd_same

theorem ok__law_tread {f : Addr} {fd : FuncData} (T : Txt K mg C_NoTread) (D__law_behind : Dfn P w K mg base CX0 1 "_law_behind" ["place", "word"] (spD K 2 dFollow)) (D__law_sorted : Dfn P w K mg base CX0 1 "_law_sorted" ["places"] (spOrd K)) (F : Fun K "_law_tread" "_law_tread" s__law_tread f fd) (hm : mg "_law_tread" = some (.ref f)) (hb : Binds K fd ["word"] []) : Dfn P w K mg base CX0 2 "_law_tread" ["word"] (spD K 1 dTreadW) := by
  refine Dfn.mk0 F hm hb sc__law_tread (fun vs H Q E h => spD.len h) (fun cdv A outer s H vs Q E hr hsp => ?_)
  have hu := hr.units
  have hz := sizeLine_eq
  refine ⟨_, (pss_one (ps_ret (pe_tup (pa_cons (pC D__law_sorted (hr.mono (by decide)) pass0 (pa_cons (pe_lc (own := [("many", 1)]) (by rfl) sc__law_tread.nd (pi_range1 (by rfl) T.b_range (pa_cons (pe_op oAdd (pe_callB (cLen (K := K)) (by rfl) T.b_len PySem.boot_len (pa_cons (pV 0) pa_nil)) pe_int) pa_nil)) (blkOk_by (N := N__law_tread) (sc := defScope s__law_tread) (by decide +kernel)) (fun _ _ _ _ _ => pg_name (i := 1) sc__law_tread.nd rfl (by first | exact .inl rfl | exact .inr rfl)) (fun _ _ _ _ _ => pts_nil) (fun _ _ _ _ _ => (pC D__law_behind (hr.mono (by decide)) pass0 (pa_cons pe_str (pa_cons (pe_slice (sSl (K := K)) (pV 0) po_none (oPart (pV 1))) pa_nil))))) pa_nil)) (pa_cons (pC D__law_behind (hr.mono (by decide)) pass0 (pa_cons pe_str (pa_cons (pV 0) pa_nil))) pa_nil))))), ?_⟩
  refine go_pure (K := K) 1 rfl hsp fun ds G e0 ho => ?_
  obtain ⟨u, rfl, h1, h2, hG⟩ := ho
  simp only [List.map_cons, List.map_nil, List.cons_append, List.nil_append, List.replicate_succ, List.replicate_zero]
  refine s_ret (e_tup (a_cons (e_cb (a_cons (e_l (lc_mapR' (u.length + 1) 0 (fun j => .str (S (fol [] (u.take j)))) (by omega) rfl (fun j hj => ⟨rfl, fun G' g' => ?_⟩) (fun G' g' => ?_) ?_))))))
  · refine ⟨by rw [S_len]; omega, rfl, [], u.take j, ?_, h1.take j, by rw [List.length_take, List.length_nil]; omega, g'⟩
    show [PyData.str (S []), PyData.str (cutS (S u) none (some (0 + (j : Nat))))] = _
    rw [cut_to u (by omega), Int.zero_add, Int.toNat_natCast]
  · refine ⟨by rw [S_len]; omega, by rw [S_len]; omega, by rw [S_len]; omega, ?_⟩
    rw [S_len]
    exact g'
  · have et : ((List.range (u.length + 1)).map fun j => PyData.str (S (fol [] (u.take j)))) = (trod u).map .str := by
      unfold trod trodL
      rw [List.map_map, List.map_map]
      rfl
    rw [et]
    refine ⟨trod u, .inl rfl, ?_, fun z hz1 => ?_, ?_⟩
    · unfold trod
      rw [List.length_map, trodL_len]
      omega
    · obtain ⟨w1, hm, rfl⟩ := List.mem_map.mp hz1
      have := (trodL_is h1 hm).2.2
      rw [S_len]
      omega
    · exact ⟨rfl, [], u, rfl, h1, by rw [List.length_nil]; omega, by show 2 ≤ sizeLine; omega, hG⟩

theorem ok__law_product {f : Addr} {fd : FuncData} (T : Txt K mg C_NoTread) (D__law_behind : Dfn P w K mg base CX0 1 "_law_behind" ["place", "word"] (spD K 2 dFollow)) (D__law_sorted : Dfn P w K mg base CX0 1 "_law_sorted" ["places"] (spOrd K)) (F : Fun K "_law_product" "_law_product" s__law_product f fd) (hm : mg "_law_product" = some (.ref f)) (hb : Binds K fd ["one", "other"] []) : Dfn P w K mg base CX0 2 "_law_product" ["one", "other"] (spD K 2 dJoinL) := by
  refine Dfn.mk0 F hm hb sc__law_product (fun vs H Q E h => spD.len h) (fun cdv A outer s H vs Q E hr hsp => ?_)
  have hu := hr.units
  have hz := sizeLine_eq
  refine ⟨_, (pss_cons (ps_set (i := 2) sc__law_product.nd rfl (by first | exact .inl rfl | exact .inr rfl) (pe_op (oCatT (K := K)) (pe_ix (xIx (K := K)) (pV 0) pe_int (fun _ _ => rfl)) (pe_callTy (cTupOf (K := K)) (by rfl) T.b_tuple (by decide +kernel) (pa_cons (pe_lc (own := [("place", 3)]) (by rfl) sc__law_product.nd (pI (K := K) (pe_ix (xIx (K := K)) (pV 1) pe_int (fun _ _ => rfl))) (blkOk_by (N := N__law_product) (sc := defScope s__law_product) (by decide +kernel)) (fun _ _ _ _ _ => pg_name (i := 3) sc__law_product.nd rfl (by first | exact .inl rfl | exact .inr rfl)) (fun _ _ _ _ _ => pts_nil) (fun _ _ _ _ _ => (pC D__law_behind (hr.mono (by decide)) pass0 (pa_cons (pe_ix (xIx (K := K)) (pV 0) pe_int (fun _ _ => rfl)) (pa_cons (pV 3) pa_nil))))) pa_nil))))
      (pss_one (ps_ret (pe_tup (pa_cons (pC D__law_sorted (hr.mono (by decide)) pass0 (pa_cons (pV 2) pa_nil)) (pa_cons (pC D__law_behind (hr.mono (by decide)) pass0 (pa_cons (pe_ix (xIx (K := K)) (pV 0) pe_int (fun _ _ => rfl)) (pa_cons (pe_ix (xIx (K := K)) (pV 1) pe_int (fun _ _ => rfl)) pa_nil))) pa_nil)))))), ?_⟩
  refine go_pure (K := K) 2 rfl hsp fun ds G e0 ho => ?_
  obtain ⟨zs, ys, e, f, rfl, T1, T2, hG⟩ := ho
  simp only [List.map_cons, List.map_nil, List.cons_append, List.nil_append, List.replicate_succ, List.replicate_zero]
  have z1 := T1.few
  have y1 := T2.few
  have e1 := T1.word T1.en
  refine s_set (e_op ?_)
  refine ⟨_, rfl, ?_⟩
  refine e_cb (a_cons (e_l (lc_mapS' ys (fun z => .str (S (fol e z.cps.toList))) (by omega) rfl (fun z hz => ⟨rfl, fun G' g' => ?_⟩) (fun G' g' => ⟨_, rfl, _, .tup _, g'⟩) ?_)))
  · obtain ⟨w1, rfl, w2, _⟩ := T2.pl z hz
    have w3 := (T2.word hz).2.2
    exact ⟨_, rfl, rfl, e, w1, rfl, w2, by omega, g'⟩
  have em : (ys.map fun z => PyData.str (S (fol e z.cps.toList))) = (mv e ys).map .str := by
    unfold mv
    rw [List.map_map]
    rfl
  rw [em]
  have ml : (mv e ys).length = ys.length := by unfold mv; rw [List.length_map]
  refine ⟨fun k => (by rw [List.map_eq_nil_iff] at k; have := T1.pos; rw [k] at this; exact absurd this (by decide)), fun k => (by rw [List.map_eq_nil_iff] at k; have := T2.pos; rw [← ml, k] at this; exact absurd this (by decide)), by rw [List.length_map, List.length_map, ml]; omega, ?_⟩
  rw [← List.map_append]
  simp only [List.set_cons_succ, List.set_cons_zero]
  refine ⟨zs ++ mv e ys, .inr rfl, by rw [List.length_append, ml]; omega, fun z hz => ?_, _, rfl, _, rfl, rfl, e, f, rfl, T2.e1, by have := (T2.word T2.en).2.2; omega, by show 2 ≤ sizeLine; omega, hG⟩
  rcases List.mem_append.mp hz with h | h
  · exact Nat.le_trans (T1.strLen h) (by decide)
  · obtain ⟨w1, hw, rfl⟩ := mem_mv.mp h
    have := (T2.word hw).2.2
    have fl := fol_len (p := e) (w := w1)
    rw [S_len]
    omega

theorem ok__law_any_word {f : Addr} {fd : FuncData} (T : Txt K mg C_NoTread) (D__law_take : Dfn P w K mg base CX0 2 "_law_take" ["pen", "many"] (spTake)) (D__law_back : Dfn P w K mg base CX0 1 "_law_back" ["word"] (spD K 1 dMirror)) (F : Fun K "_law_any_word" "_law_any_word" s__law_any_word f fd) (hm : mg "_law_any_word" = some (.ref f)) (hb : Binds K fd ["pen", "most", "signs"] []) : Dfn P w K mg base CX0 3 "_law_any_word" ["pen", "most", "signs"] (spN K 3 nWord) := by
  refine Dfn.mk0 F hm hb sc__law_any_word (fun vs H Q E h => spN.len h) (fun cdv A outer s H vs Q E hr hsp => ?_)
  have hu := hr.units
  have hz := sizeLine_eq
  refine ⟨_, (pss_cons (ps_set (i := 3) sc__law_any_word.nd rfl (by first | exact .inl rfl | exact .inr rfl) pe_str)
      (pss_cons (ps_for PassesOwn.never rfl (pi_range1 (by rfl) T.b_range (pa_cons (pC D__law_take (hr.mono (by decide)) pass0 (pa_cons (pV 0) (pa_cons (pe_op oAdd (pV 1) pe_int) pa_nil))) pa_nil)) (pg_name (i := 4) sc__law_any_word.nd rfl (by first | exact .inl rfl | exact .inr rfl)) (pss_cons (ps_set (i := 5) sc__law_any_word.nd rfl (by first | exact .inl rfl | exact .inr rfl) (pe_ix (xIx (K := K)) (pV 2) (pC D__law_take (hr.mono (by decide)) pass0 (pa_cons (pV 0) (pa_cons (pe_callB (cLen (K := K)) (by rfl) T.b_len PySem.boot_len (pa_cons (pV 2) pa_nil)) pa_nil))) (fun _ _ => rfl)))
      (C8.pss_cut (ps_if (PW.pt (pw_and (tCm (oEq (K := K) hu) (pC D__law_take (hr.mono (by decide)) pass0 (pa_cons (pV 0) (pa_cons pe_int pa_nil))) pe_int (nomark _)) (pw_and (tCm (oNe (K := K) hu) (pV 3) pe_str (nomark _)) (pw_and1 (tCm (oEq (K := K) hu) (pC D__law_back (hr.mono (by decide)) pass0 (pa_cons (pe_ix (xIx (K := K)) (pV 3) (pe_un oNeg pe_int) (fun _ _ => rfl)) pa_nil)) (pV 5) (nomark _)))))) (pss_one (ps_set (i := 5) sc__law_any_word.nd rfl (by first | exact .inl rfl | exact .inr rfl) (pe_ix (xIx (K := K)) (pV 3) (pe_un oNeg pe_int) (fun _ _ => rfl)))) pss_nil)
      (pss_one (ps_set (i := 3) sc__law_any_word.nd rfl (by first | exact .inl rfl | exact .inr rfl) (pe_op oAdd (pV 3) (pV 5)))))))
      (pss_one (ps_ret (pV 3))))), ?_⟩
  refine go_pen (K := K) 3 rfl hsp fun ds m G e ho => ?_
  obtain ⟨most, sg, rfl, hn, hm, g1, g2, g3, hG⟩ := ho
  simp only [List.map_cons, List.map_nil, List.cons_append, List.nil_append, List.replicate_succ, List.replicate_zero]
  refine ⟨_, rfl, by omega, by omega, by omega, fun r r0 r1 => ⟨by omega, by omega, ?_⟩⟩
  obtain ⟨t, rfl⟩ : ∃ t : Nat, r = t := ⟨r.toNat, by omega⟩
  simp only [List.set_cons_succ, List.set_cons_zero]
  refine ⟨fun j δ => ∃ k u s4 s5, IsL u ∧ u.length ≤ j ∧ k ≤ m + 1 + 2 * j ∧ δ = [.pe k, .da (.int most), .da (.str (S sg)), .da (.str (S u)), s4, s5], ⟨_, [], _, _, .nil, Nat.le_refl _, Nat.le_refl _, rfl⟩, ?_, ?_⟩
  · rintro j x δ hx ⟨k, u, s4, s5, u1, u2, hk, rfl⟩
    obtain ⟨hj, rfl⟩ := intsD_at hx
    rw [Int.toNat_natCast] at hj
    refine ⟨by rw [S_len]; omega, _, rfl, by omega, by rw [S_len]; have := List.length_pos_iff.mpr g1; omega, by rw [S_len]; omega, fun r r0 r1 => ?_⟩
    rw [S_len] at r1
    obtain ⟨c, hc, ec⟩ := at_int (xs := sg) r0 r1
    have hcl := g2 c hc
    refine ⟨by rw [S_len]; omega, c, ec, ?_⟩
    simp only [List.set_cons_succ, List.set_cons_zero]
    refine ⟨fun δ => ∃ k d, d ∈ letC ∧ k ≤ m + 1 + 2 * (j + 1) ∧ δ = [.pe k, .da (.int most), .da (.str (S sg)), .da (.str (S u)), .da (.int ((0 : Int) + (j : Nat))), .da (.str (S [d]))], ?_, ?_⟩
    · refine ⟨2, rfl, by omega, by decide, by decide, fun r r0 r1 => ite2 (fun c1 => ?_) (fun c1 => ?_)⟩
      · refine ite2 (fun c2 => ?_) (fun c2 => ?_)
        · have hne : u ≠ [] := fun z => by
            subst z
            exact absurd c2 (by decide)
          obtain ⟨w, d, rfl⟩ : ∃ w d, u = w ++ [d] := ⟨_, _, (List.dropLast_concat_getLast hne).symm⟩
          have hd : d ∈ letC := u1 d (by simp)
          have at1 : atI (S (w ++ [d])).cps.toList (-1) = some d := atI_last w d
          refine ⟨by rw [S_len]; omega, d, at1, rfl, [d], rfl, .one hd, by show 1 ≤ _; decide, ?_⟩
          refine ite2 (fun c3 => ?_) (fun c3 => ?_)
          · exact ⟨by rw [S_len]; omega, d, at1, _, d, hd, by omega, rfl⟩
          · exact ⟨_, c, hcl, by omega, rfl⟩
        · refine ite2 (fun c3 => absurd c3 (by decide)) (fun c3 => ?_)
          exact ⟨_, c, hcl, by omega, rfl⟩
      · refine ite2 (fun c3 => absurd c3 (by decide)) (fun c3 => ?_)
        exact ⟨_, c, hcl, by omega, rfl⟩
    · rintro δ ⟨k, d, hd, hk, rfl⟩
      refine ⟨by rw [S_len, S_len]; show _ + 1 ≤ _; omega, _, u ++ [d], .da (.int ((0 : Int) + (j : Nat))), .da (.str (S [d])), u1.app (.one hd), by rw [List.length_append]; show _ + 1 ≤ _; omega, hk, ?_⟩
      rw [← S_cat]
      rfl
  · rintro δ ⟨k, u, s4, s5, u1, u2, hk, rfl⟩
    have ln : (intsD 0 ((t : Int)).toNat).length = t := by unfold intsD; rw [List.length_map, List.length_range, Int.toNat_natCast]
    rw [ln] at u2 hk
    exact ⟨_, rfl, hG u k u1 (by omega) (by omega)⟩

theorem ok__law_any_signs {f : Addr} {fd : FuncData} (T : Txt K mg C_NoTread) (D__law_one_of : Dfn P w K mg base CX0 3 "_law_one_of" ["pen", "some"] (spPick K)) (F : Fun K "_law_any_signs" "_law_any_signs" s__law_any_signs f fd) (hm : mg "_law_any_signs" = some (.ref f)) (hb : Binds K fd ["pen"] []) : Dfn P w K mg base CX0 4 "_law_any_signs" ["pen"] (spN K 1 nSigns6) := by
  refine Dfn.mk0 F hm hb sc__law_any_signs (fun vs H Q E h => spN.len h) (fun cdv A outer s H vs Q E hr hsp => ?_)
  have hu := hr.units
  have hz := sizeLine_eq
  refine ⟨_, (pss_one (ps_ret (pC D__law_one_of (hr.mono (by decide)) pass0 (pa_cons (pV 0) (pa_cons (pe_lst (pa_cons pe_str (pa_cons pe_str (pa_cons pe_str (pa_cons pe_str (pa_cons pe_str (pa_cons pe_str pa_nil))))))) pa_nil))))), ?_⟩
  refine go_pen (K := K) 0 rfl hsp fun ds m G e ho => ?_
  obtain ⟨rfl, hm, hG⟩ := ho
  refine ⟨(by show 6 ≤ sizeLine; omega), by omega, (by intro z; cases z), (by show 6 ≤ sizeLine; omega), fun d hd => ?_⟩
  have hd : d ∈ ([.str "aA", .str "abAB", .str "abAB", .str "abcABC", .str "abcdABCD", .str "dD"] : List PyData) := hd
  rw [six_eq] at hd
  obtain ⟨u, hu, rfl⟩ := List.mem_map.mp hd
  obtain ⟨a, b, c⟩ := six_ok u hu
  exact ⟨_, rfl, hG u a c b⟩

theorem ok__law_any_tread {f : Addr} {fd : FuncData} (T : Txt K mg C_NoTread) (D__law_tread : Dfn P w K mg base CX0 2 "_law_tread" ["word"] (spD K 1 dTreadW)) (D__law_any_word : Dfn P w K mg base CX0 3 "_law_any_word" ["pen", "most", "signs"] (spN K 3 nWord)) (F : Fun K "_law_any_tread" "_law_any_tread" s__law_any_tread f fd) (hm : mg "_law_any_tread" = some (.ref f)) (hb : Binds K fd ["pen", "most", "signs"] []) : Dfn P w K mg base CX0 4 "_law_any_tread" ["pen", "most", "signs"] (spN K 3 nAnyTr) := by
  refine Dfn.mk0 F hm hb sc__law_any_tread (fun vs H Q E h => spN.len h) (fun cdv A outer s H vs Q E hr hsp => ?_)
  have hu := hr.units
  have hz := sizeLine_eq
  refine ⟨_, (pss_one (ps_ret (pC D__law_tread (hr.mono (by decide)) pass0 (pa_cons (pC D__law_any_word (hr.mono (by decide)) pass0 (pa_cons (pV 0) (pa_cons (pV 1) (pa_cons (pV 2) pa_nil)))) pa_nil)))), ?_⟩
  refine go_pen (K := K) 0 rfl hsp fun ds m G e ho => ?_
  obtain ⟨most, sg, rfl, hn, hm, g1, g2, g3, hG⟩ := ho
  simp only [List.map_cons, List.map_nil, List.cons_append, List.nil_append, List.replicate_succ, List.replicate_zero]
  refine ⟨rfl, most, sg, rfl, by omega, hm, g1, g2, g3, fun u k u1 u2 hk => ?_⟩
  exact ⟨rfl, u, rfl, u1, by omega, _, rfl, hG u k u1 u2 hk⟩

theorem ok__law_has_all {f : Addr} {fd : FuncData} (T : Txt K mg C_NoTread) (F : Fun K "_law_has_all" "_law_has_all" s__law_has_all f fd) (hm : mg "_law_has_all" = some (.ref f)) (hb : Binds K fd ["one", "other"] []) : Dfn P w K mg base CX0 1 "_law_has_all" ["one", "other"] (spD K 2 dHasL) := by
  refine Dfn.mk0 F hm hb sc__law_has_all (fun vs H Q E h => spD.len h) (fun cdv A outer s H vs Q E hr hsp => ?_)
  have hu := hr.units
  have hz := sizeLine_eq
  refine ⟨_, (pss_one (ps_ret (pe_cmpR (oEq (K := K) hu) (pe_lc (own := [("place", 2)]) (by rfl) sc__law_has_all.nd (pI (K := K) (pV 1)) (blkOk_by (N := N__law_has_all) (sc := defScope s__law_has_all) (by decide +kernel)) (fun _ _ _ _ _ => pg_name (i := 2) sc__law_has_all.nd rfl (by first | exact .inl rfl | exact .inr rfl)) (fun _ _ _ _ _ => pts_one (tCm (oNotInRow (K := K)) (pV 2) (pV 0) (by with_unfolding_all rfl))) (fun _ _ _ _ _ => (pV 2))) (pe_lst pa_nil) (nomark _)))), ?_⟩
  refine go_pure (K := K) 1 rfl hsp fun ds G e0 ho => ?_
  obtain ⟨zs, ys, d, d', rfl, hd, hd', l1, l2, hG⟩ := ho
  simp only [List.map_cons, List.map_nil, List.cons_append, List.nil_append, List.replicate_succ, List.replicate_zero]
  obtain ⟨it, hi⟩ : (Items d' (ys.map .str)) ∧ (∀ G' : PyData → Prop, ∀ z, G' (.bool (true != decide (z ∈ zs))) → dInRow true (.str z) d G') := by
    refine ⟨by rcases hd' with rfl | rfl; exact .lst _; exact .tup _, fun G' z g' => ?_⟩
    rcases hd with rfl | rfl
    · exact ⟨zs, rfl, g'⟩
    · exact ⟨zs, rfl, g'⟩
  refine s_ret (e_op (e_l (lc_filterS' ys (fun z => !decide (z ∈ zs)) (by omega) rfl (fun z hz => ⟨rfl, rfl, fun G' g' => ?_⟩) (fun G' g' => ⟨_, it, g'⟩) ?_)))
  · refine t_mt (e_op (e_v rfl (e_v rfl (hi _ z ?_))))
    show G' (true != decide (z ∈ zs)) _
    rw [tt_ne]
    exact g'
  · refine ⟨by show 0 ≤ sizeLine; omega, shaped_S fun z hz => l2 z (List.mem_filter.mp hz).1, rfl, ?_⟩
    show G (.bool (false != PyData.eqv (.list ((ys.filter fun z => !decide (z ∈ zs)).map .str)) (.list (([] : List Str).map .str))))
    rw [eqv_strL, filter_has, ff_ne]
    exact hG

theorem ok__law_due {f : Addr} {fd : FuncData} (T : Txt K mg C_NoTread) (D__law_sorted : Dfn P w K mg base CX0 1 "_law_sorted" ["places"] (spOrd K)) (D__law_has_all : Dfn P w K mg base CX0 1 "_law_has_all" ["one", "other"] (spD K 2 dHasL)) (D__law_behind : Dfn P w K mg base CX0 1 "_law_behind" ["place", "word"] (spD K 2 dFollow)) (D__law_back : Dfn P w K mg base CX0 1 "_law_back" ["word"] (spD K 1 dMirror)) (F : Fun K "_law_due" "_law_due" s__law_due f fd) (hm : mg "_law_due" = some (.ref f)) (hb : Binds K fd ["one", "other", "goal"] []) : Dfn P w K mg base CX0 2 "_law_due" ["one", "other", "goal"] (spD K 3 dDue) := by
  refine Dfn.mk0 F hm hb sc__law_due (fun vs H Q E h => spD.len h) (fun cdv A outer s H vs Q E hr hsp => ?_)
  have hu := hr.units
  have hz := sizeLine_eq
  refine ⟨_, (pss_cons (ps_asg (pe_tup (pa_cons (pC D__law_back (hr.mono (by decide)) pass0 (pa_cons (pe_ix (xIx (K := K)) (pV 0) pe_int (fun _ _ => rfl)) pa_nil)) (pa_cons (pe_callTy (cListOf (K := K)) (by rfl) T.b_list (by decide +kernel) (pa_cons (pe_ix (xIx (K := K)) (pV 2) pe_int (fun _ _ => rfl)) pa_nil)) pa_nil))) (pg_tupK (K := K) (n := 2) rfl (pgs_cons (pg_name (i := 3) sc__law_due.nd rfl (by first | exact .inl rfl | exact .inr rfl)) (pgs_cons (pg_name (i := 4) sc__law_due.nd rfl (by first | exact .inl rfl | exact .inr rfl)) pgs_nil))))
      (pss_cons (ps_set (i := 5) sc__law_due.nd rfl (by first | exact .inl rfl | exact .inr rfl) (pC D__law_behind (hr.mono (by decide)) pass0 (pa_cons (pe_ix (xIx (K := K)) (pV 2) pe_int (fun _ _ => rfl)) (pa_cons (pC D__law_back (hr.mono (by decide)) pass0 (pa_cons (pe_ix (xIx (K := K)) (pV 1) pe_int (fun _ _ => rfl)) pa_nil)) pa_nil))))
      (pss_cons (ps_set (i := 6) sc__law_due.nd rfl (by first | exact .inl rfl | exact .inr rfl) (pe_op oAdd (pe_callTy (cListOf (K := K)) (by rfl) T.b_list (by decide +kernel) (pa_cons (pe_ix (xIx (K := K)) (pV 0) pe_int (fun _ _ => rfl)) pa_nil)) (pe_lc (own := [("place", 7)]) (by rfl) sc__law_due.nd (pI (K := K) (pe_ix (xIx (K := K)) (pV 1) pe_int (fun _ _ => rfl))) (blkOk_by (N := N__law_due) (sc := defScope s__law_due) (by decide +kernel)) (fun _ _ _ _ _ => pg_name (i := 7) sc__law_due.nd rfl (by first | exact .inl rfl | exact .inr rfl)) (fun _ _ _ _ _ => pts_nil) (fun _ _ _ _ _ => (pC D__law_behind (hr.mono (by decide)) pass0 (pa_cons (pV 5) (pa_cons (pV 7) pa_nil)))))))
      (pss_cons (ps_if (pt_not (tVal (pC D__law_has_all (hr.mono (by decide)) pass0 (pa_cons (pV 4) (pa_cons (pV 6) pa_nil))))) (pss_one (ps_ret pe_non)) pss_nil)
      (pss_cons (psParL (ps_par (i := 8) (j := 9) (by rfl) sc__law_due.nd rfl rfl (by decide) rfl rfl (pa_cons (pC D__law_behind (hr.mono (by decide)) pass0 (pa_cons (pV 3) (pa_cons (pV 5) pa_nil))) (pa_cons (pe_lst (pa_cons pe_str pa_nil)) pa_nil)) (by rfl)))
      (pss_cons (ps_for PassesOwn.never rfl (pI (K := K) (pe_op oAdd (pe_lc (own := [("p", 10)]) (by rfl) sc__law_due.nd (pI (K := K) (pV 4)) (blkOk_by (N := N__law_due) (sc := defScope s__law_due) (by decide +kernel)) (fun _ _ _ _ _ => pg_name (i := 10) sc__law_due.nd rfl (by first | exact .inl rfl | exact .inr rfl)) (fun _ _ _ _ _ => pts_one (tCm (oNotInRow (K := K)) (pV 10) (pV 6) (by with_unfolding_all rfl))) (fun _ _ _ _ _ => (pC D__law_behind (hr.mono (by decide)) pass0 (pa_cons (pV 3) (pa_cons (pV 10) pa_nil))))) (pe_lst (pa_cons (pV 8) pa_nil)))) (pg_name (i := 7) sc__law_due.nd rfl (by first | exact .inl rfl | exact .inr rfl)) (pss_one (ps_set (i := 9) sc__law_due.nd rfl (by first | exact .inl rfl | exact .inr rfl) (pe_op oAdd (pV 9) (pe_lc (own := [("many", 11)]) (by rfl) sc__law_due.nd (pi_range1 (by rfl) T.b_range (pa_cons (pe_op oAdd (pe_callB (cLen (K := K)) (by rfl) T.b_len PySem.boot_len (pa_cons (pV 7) pa_nil)) pe_int) pa_nil)) (blkOk_by (N := N__law_due) (sc := defScope s__law_due) (by decide +kernel)) (fun _ _ _ _ _ => pg_name (i := 11) sc__law_due.nd rfl (by first | exact .inl rfl | exact .inr rfl)) (fun _ _ _ _ _ => pts_nil) (fun _ _ _ _ _ => (pe_slice (sSl (K := K)) (pV 7) po_none (oPart (pV 11)))))))))
      (pss_cons (ps_setLc (i := 12) (own := [("p", 10)]) (by rfl) sc__law_due.nd rfl rfl (sw_true rfl rfl rfl (by decide +kernel)) (pI (K := K) (pV 4)) (blkOk_by (N := N__law_due) (sc := defScope s__law_due) (by decide +kernel)) (fun _ _ _ _ _ => pg_name (i := 10) sc__law_due.nd rfl (by first | exact .inl rfl | exact .inr rfl)) (fun _ _ _ _ _ => pts_nil) (fun _ _ _ _ _ => (pC D__law_behind (hr.mono (by decide)) pass0 (pa_cons (pV 3) (pa_cons (pV 10) pa_nil)))))
      (pss_cons (ps_if (pt_not (tVal (pC D__law_has_all (hr.mono (by decide)) pass0 (pa_cons (pV 12) (pa_cons (pV 9) pa_nil))))) (pss_one (ps_ret pe_non)) pss_nil)
      (pss_one (ps_ret (pe_tup (pa_cons (pe_tup (pa_cons (pC D__law_sorted (hr.mono (by decide)) pass0 (pa_cons (pV 9) pa_nil)) (pa_cons (pV 8) pa_nil))) (pa_cons (pe_tup (pa_cons (pC D__law_sorted (hr.mono (by decide)) pass0 (pa_cons (pV 12) pa_nil)) (pa_cons (pV 8) pa_nil))) pa_nil))))))))))))), ?_⟩
  refine go_pure (K := K) 10 rfl hsp fun ds G e0 ho => ?_
  obtain ⟨A, B, C, a, b, c, rfl, E, cl, hG⟩ := ho
  simp only [List.map_cons, List.map_nil, List.cons_append, List.nil_append, List.replicate_succ, List.replicate_zero]
  have a1 := E.A.word E.A.en
  have b1 := E.B.word E.B.en
  have c1 := E.C.word E.C.en
  have sp := E.stop
  have bf := E.B.few
  have af := E.A.few
  refine ⟨_, rfl, rfl, a, rfl, a1.1, by omega, _, rfl, by show 2 ≤ sizeLine; omega, rfl, ⟨rfl, ?_⟩⟩
  simp only [List.set_cons_succ, List.set_cons_zero]
  refine ⟨_, rfl, _, rfl, rfl, b, rfl, b1.1, by omega, rfl, c, mir b, rfl, b1.1.mir, by rw [mir_len]; omega, ?_⟩
  simp only [List.set_cons_succ, List.set_cons_zero]
  refine s_setL (al_cat_places rfl (lc_mapS' B (fun z => .str (S (fol (stopE c b) z.cps.toList))) (by omega) rfl (fun z hz => ⟨rfl, fun G' g' => ?_⟩) (fun G' g' => ⟨_, rfl, _, .tup _, g'⟩) ?_))
  · obtain ⟨w1, rfl, w2, _⟩ := E.B.pl z hz
    have w3 := (E.B.word hz).2.2
    exact ⟨rfl, stopE c b, w1, rfl, w2, by omega, g'⟩
  have em : (B.map fun z => PyData.str (S (fol (stopE c b) z.cps.toList))) = (mv (stopE c b) B).map .str := by
    unfold mv
    rw [List.map_map]
    rfl
  rw [em]
  have ml : (mv (stopE c b) B).length = B.length := by unfold mv; rw [List.length_map]
  refine ⟨by rw [List.length_map, List.length_map, ml]; omega, .inl ?_⟩
  rw [← List.map_append]
  simp only [List.set_cons_succ, List.set_cons_zero]
  have gl := E.given_len
  refine ⟨rfl, C, givenE A B c b, _, _, rfl, .inl rfl, .inl rfl, by omega, fun z hz => ?_, ?_⟩
  · obtain ⟨w1, rfl, w2, _, w3⟩ := E.given z hz
    exact ⟨w1, rfl, w2, by omega⟩
  unfold lamD at hG
  refine ite2 (fun h0 => ?_) (fun h0 => ?_)
  · have h : hasB C (givenE A B c b) ≠ true := fun z => by
      rw [z] at h0
      cases h0
    rw [if_neg h] at hG
    exact hG
  have h : hasB C (givenE A B c b) = true := by
    cases hh : hasB C (givenE A B c b) with
    | true => rfl
    | false => rw [hh] at h0; exact absurd rfl h0
  rw [if_pos h] at hG
  have h' := hasB_iff.mp h
  have lo := E.low h'
  have mo := E.most h'
  refine ⟨rfl, mir a, stopE c b, rfl, sp.1, by rw [mir_len]; omega, ?_⟩
  refine ⟨by show 1 ≤ sizeLine; omega, .inr ?_⟩
  simp only [List.set_cons_succ, List.set_cons_zero]
  have small := List.length_filter_le (fun z => decide (z ∉ givenE A B c b)) C
  have len32 : ∀ z ∈ C, z.length ≤ 31 := fun z hz => by
    obtain ⟨w1, rfl, _⟩ := E.C.pl z hz
    rw [S_len]
    have := trd_len E.C hz
    omega
  have ml32 : ∀ g ∈ dueE A B C a b c, g.length ≤ 31 := fun g hg => by
    have := trd_len mo (E.due h' g hg)
    have := lenT (zs := C) (e := a)
    omega
  have dl : (dueE A B C a b c).length ≤ 33 := by
    unfold dueE
    rw [List.length_append, List.length_map]
    show _ + 1 ≤ _
    omega
  refine s_for (i_any (e_l (al_cat (lc_fmS C (fun z => decide (z ∉ givenE A B c b)) (fun z => .str (S (fol (mir a) z.cps.toList))) (by omega) rfl (fun z hz => ?_) (fun G' g' => ⟨_, .lst _, g'⟩) ?_))))
  · obtain ⟨w1, rfl, hw1, _⟩ := E.C.pl z hz
    have w2 := (E.C.word hz).2.2
    refine ⟨rfl, fun G' g' => ⟨_, rfl, ?_⟩, fun G' _ g' => ?_⟩
    · show G' (true != decide (S w1 ∈ givenE A B c b)) _
      by_cases m : S w1 ∈ givenE A B c b
      · rw [decide_eq_false (fun k => k m)] at g'
        rw [decide_eq_true m]
        exact g'
      · rw [decide_eq_true m] at g'
        rw [decide_eq_false m]
        exact g'
    · exact ⟨rfl, mir a, w1, rfl, hw1, by rw [mir_len]; omega, g'⟩
  refine ⟨by show 1 ≤ sizeLine; omega, by rw [List.length_map]; show _ + 1 ≤ sizeLine; omega, ?_⟩
  have ed : ((C.filter fun z => decide (z ∉ givenE A B c b)).map fun z => PyData.str (S (fol (mir a) z.cps.toList))) ++ [PyData.str (S (fol (mir a) (stopE c b)))] = (dueE A B C a b c).map fun g => .str (S g) := by
    unfold dueE
    rw [List.map_append, List.map_map]
    rfl
  rw [ed]
  have dg : ∀ j, (((dueE A B C a b c).take j).flatMap begs).length ≤ 1056 := fun j => by
    have h1 := flat_begs (m := 31) (ws := (dueE A B C a b c).take j) fun g hg => ml32 g (List.mem_of_mem_take hg)
    have h2 : ((dueE A B C a b c).take j).length ≤ 33 := by rw [List.length_take]; omega
    omega
  refine ⟨_, .lst _, fun j δ => ∃ s7, δ = [.da (treadD A (S a)), .da (treadD B (S b)), .da (treadD C (S c)), .da (.str (S (mir a))), .da (.list (C.map .str)), .da (.str (S (stopE c b))), .da (.list ((givenE A B c b).map .str)), s7, .da (.str (S (endE a b c))), .ac ((S [] :: ((dueE A B C a b c).take j).flatMap begs).map .str), .no, .no, .no], ⟨_, rfl⟩, ?_, ?_⟩
  · rintro j x δ hx ⟨s7, rfl⟩
    rw [List.getElem?_map] at hx
    obtain ⟨g, hgj, rfl⟩ := Option.map_eq_some_iff.mp hx
    have gl := ml32 g (List.mem_of_getElem? hgj)
    have tk : (dueE A B C a b c).take (j + 1) = (dueE A B C a b c).take j ++ [g] := by rw [List.take_succ, hgj]; rfl
    have bl : (begs g).length = g.length + 1 := by unfold begs; rw [List.length_map, List.length_range]
    refine s_cat_own (ds := (S [] :: ((dueE A B C a b c).take j).flatMap begs).map .str) (es := (begs g).map .str) rfl (fun G' g' => ?_) ?_ ?_
    · refine lc_mapR' (g.length + 1) 0 (fun i => .str (S (g.take i))) (by omega) rfl (fun i hi => ⟨rfl, fun G'' g'' => ⟨by rw [S_len]; omega, ?_⟩⟩) (fun G'' g'' => ?_) ?_
      · show G'' (.str (cutS (S g) none (some (0 + (i : Nat))))) _
        have ec : cutS (S g) none (some (0 + (i : Nat))) = S (g.take i) := by rw [cut_to g (by omega), Int.zero_add, Int.toNat_natCast]
        rw [ec]
        exact g''
      · refine ⟨by rw [S_len]; omega, by rw [S_len]; omega, by rw [S_len]; omega, ?_⟩
        rw [S_len]
        exact g''
      · have : ((List.range (g.length + 1)).map fun i => PyData.str (S (g.take i))) = (begs g).map .str := by
          unfold begs
          rw [List.map_map]
          rfl
        rw [this]
        exact g'
    · have := dg j
      rw [List.length_map, List.length_map, List.length_cons, bl]
      omega
    · refine ⟨.da (.str (S g)), ?_⟩
      rw [tk, List.flatMap_append, ← List.map_append]
      have e1 : List.flatMap begs [g] = begs g := by rw [List.flatMap_cons, List.flatMap_nil, List.append_nil]
      rw [e1, List.cons_append]
      rfl
  · rintro δ ⟨s7, rfl⟩
    rw [List.length_map, List.take_length]
    refine s_setL (lc_mapS' C (fun z => .str (S (fol (mir a) z.cps.toList))) (by omega) rfl (fun z hz => ⟨rfl, fun G' g' => ?_⟩) (fun G' g' => ⟨_, .lst _, g'⟩) (.inl ?_))
    · obtain ⟨w1, rfl, hw1, _⟩ := E.C.pl z hz
      have w2 := (E.C.word hz).2.2
      exact ⟨rfl, mir a, w1, rfl, hw1, by rw [mir_len]; omega, g'⟩
    have em2 : (C.map fun z => PyData.str (S (fol (mir a) z.cps.toList))) = (mv (mir a) C).map .str := by
      unfold mv
      rw [List.map_map]
      rfl
    rw [em2]
    simp only [List.set_cons_succ, List.set_cons_zero]
    have al : (allB (dueE A B C a b c)).length ≤ 1057 := by
      have := dg (dueE A B C a b c).length
      rw [List.take_length] at this
      unfold Xia.allB
      rw [List.length_cons]
      omega
    have inm : ∀ z ∈ allB (dueE A B C a b c), z ∈ mv (mir a) C := fun z hz => mem_ordS.mp (E.low_sub h' z hz)
    have cml : (mv (mir a) C).length = C.length := by unfold mv; rw [List.length_map]
    refine ⟨rfl, mv (mir a) C, allB (dueE A B C a b c), _, _, rfl, .inl rfl, .inl rfl, by omega, fun z hz => ?_, ?_⟩
    · obtain ⟨w1, rfl, w2, _⟩ := mo.pl z (E.low_sub h' z hz)
      exact ⟨w1, rfl, w2, by have := (mo.word (E.low_sub h' _ hz)).2.2; omega⟩
    rw [hasB_iff.mpr inm]
    refine ite2 (fun k => absurd k (by decide)) (fun _ => ?_)
    refine ⟨allB (dueE A B C a b c), .inl rfl, by omega, fun z hz => Nat.le_trans (mo.strLen (E.low_sub h' z hz)) (by decide), by show 2 ≤ sizeLine; omega, mv (mir a) C, .inl rfl, by omega, fun z hz => Nat.le_trans (mo.strLen (mem_ordS.mpr hz)) (by decide), by show 2 ≤ sizeLine; omega, by show 2 ≤ sizeLine; omega, hG⟩

theorem ok__law_ways {f : Addr} {fd : FuncData} (T : Txt K mg C_NoTread) (F : Fun K "_law_ways" "_law_ways" s__law_ways f fd) (hm : mg "_law_ways" = some (.ref f)) (hb : Binds K fd ["places", "place", "kept"] []) : ∀ n : Nat, Dfn P w K mg base CX0 (n + 1) "_law_ways" ["places", "place", "kept"] (spD K 3 (dWaysL n))
  | 0 => by
    refine Dfn.mk0 F hm hb sc__law_ways (fun vs H Q E h => spD.len h) (fun cdv A outer s H vs Q E hr hsp => ?_)
    exact absurd hsp waysZero
  | n + 1 => by
    have D__law_ways := ok__law_ways T F hm hb n
    rw [show n + 1 + 1 = (n + 1) + 1 by omega]
    refine Dfn.mk0 F hm hb sc__law_ways (fun vs H Q E h => spD.len h) (fun cdv A outer s H vs Q E hr hsp => ?_)
    have hu := hr.units
    have hz := sizeLine_eq
    refine ⟨_, (pss_cons (ps_set (i := 3) sc__law_ways.nd rfl (by first | exact .inl rfl | exact .inr rfl) pe_int)
        (pss_cons (ps_for PassesOwn.never rfl (pI (K := K) pe_str) (pg_name (i := 4) sc__law_ways.nd rfl (by first | exact .inl rfl | exact .inr rfl)) (pss_cons (ps_set (i := 5) sc__law_ways.nd rfl (by first | exact .inl rfl | exact .inr rfl) (pe_op oAdd (pV 1) (pV 4)))
        (pss_one (ps_if (tCm (oInRow (K := K)) (pV 5) (pV 0) (by with_unfolding_all rfl)) (pss_cons (ps_set (i := 6) sc__law_ways.nd rfl (by first | exact .inl rfl | exact .inr rfl) (pC D__law_ways (hr.mono (by omega)) pass0 (pa_cons (pV 0) (pa_cons (pV 5) (pa_cons (pV 2) pa_nil)))))
        (pss_one (ps_set (i := 3) sc__law_ways.nd rfl (by first | exact .inl rfl | exact .inr rfl) (pe_op oMulW (pV 3) (pe_ifExp (tCm (oInRow (K := K)) (pV 5) (pV 2) (by with_unfolding_all rfl)) (pV 6) (pe_op oAdd (pV 6) pe_int)))))) pss_nil))))
        (pss_one (ps_ret (pV 3))))), ?_⟩
    refine go_pure (K := K) 4 rfl hsp fun ds G e0 ho => ?_
    obtain ⟨zs, ks, p, e, rfl, TZ, p1, p2, k1, k2, hp, hn, hG⟩ := ho
    simp only [List.map_cons, List.map_nil, List.cons_append, List.nil_append, List.replicate_succ, List.replicate_zero]
    have pf : p.length < 300 := by omega
    refine ⟨_, .str _, fun j δ => ∃ s4 s5 s6, δ = [.da (.tuple (zs.map .str)), .da (.str (S p)), .da (.tuple (ks.map .str)), .da (.int ((prodM (wyG zs ks) (((letL.take j).map fun c => p ++ [c]).filter fun x => decide (S x ∈ zs)) : Nat) : Int)), s4, s5, s6], ⟨_, _, _, rfl⟩, ?_, ?_⟩
    · rintro j x δ hx ⟨s4, s5, s6, rfl⟩
      rw [List.getElem?_map, lets8] at hx
      obtain ⟨c, hc, rfl⟩ := Option.map_eq_some_iff.mp hx
      have tk : letL.take (j + 1) = letL.take j ++ [c] := by rw [List.take_succ, hc]; rfl
      refine ⟨by rw [S_len]; show _ + 1 ≤ sizeLine; omega, ?_⟩
      have ec : SX.S p ++ (⟨#[c]⟩ : Str) = S (p ++ [c]) := by
        show SX.S p ++ S [c] = _
        rw [S_cat]
      rw [ec]
      simp only [List.set_cons_succ, List.set_cons_zero]
      refine ⟨zs, rfl, ite2 (fun d => ?_) (fun d => ?_)⟩
      · have hm : S (p ++ [c]) ∈ zs := by
          apply Classical.byContradiction
          intro k
          rw [decide_eq_false k] at d
          cases d
        have wk := TZ.word hm
        refine ⟨rfl, zs, ks, p ++ [c], e, rfl, TZ, wk.1, wk.2.2, k1, k2, hm, fun x hx => ?_, ?_⟩
        · have := hn x hx
          rw [List.length_append]
          show _ < _ + 1 + n
          omega
        simp only [List.set_cons_succ, List.set_cons_zero]
        have fit1 : prodM (wyG zs ks) (((letL.take j).map fun c => p ++ [c]).filter fun x => decide (S x ∈ zs)) ≤ 2 ^ 202 := by
          have sub : ((letL.take j).map fun c => p ++ [c]).filter (fun x => decide (S x ∈ zs)) = (kidsW zs p).filter fun x => decide (x ∈ (letL.take j).map fun c => p ++ [c]) := ways_part j
          rw [sub]
          exact Nat.le_trans (part_le _ TZ.few pf) (Nat.pow_le_pow_right (by decide) (by decide))
        have fit := mul_fits fit1 (wyG_le (ks := ks) (p ++ [c]) TZ.few)
        have nx : prodM (wyG zs ks) (((letL.take (j + 1)).map fun c => p ++ [c]).filter fun x => decide (S x ∈ zs)) = prodM (wyG zs ks) (((letL.take j).map fun c => p ++ [c]).filter fun x => decide (S x ∈ zs)) * wyG zs ks (p ++ [c]) := by
          rw [tk, List.map_append, List.filter_append, prodM_app]
          congr 1
          show prodM _ (List.filter _ [p ++ [c]]) = _
          rw [List.filter_cons, if_pos (decide_eq_true hm)]
          exact Nat.mul_one _
        have fin : ∀ (m : Nat), m = wyG zs ks (p ++ [c]) → dMulW (.int ((prodM (wyG zs ks) (((letL.take j).map fun c => p ++ [c]).filter fun x => decide (S x ∈ zs)) : Nat) : Int)) (.int (m : Int)) fun r => ∃ s4 s5 s6, [SD.da (.tuple (zs.map .str)), .da (.str (S p)), .da (.tuple (ks.map .str)), .da r, .da (.str ⟨#[c]⟩), .da (.str (S (p ++ [c]))), .da (.int ((wy zs ks (p ++ [c]) : Nat) : Int))] = [.da (.tuple (zs.map .str)), .da (.str (S p)), .da (.tuple (ks.map .str)), .da (.int ((prodM (wyG zs ks) (((letL.take (j + 1)).map fun c => p ++ [c]).filter fun x => decide (S x ∈ zs)) : Nat) : Int)), s4, s5, s6] := by
          intro m hm2
          rw [hm2]
          refine ⟨fit, .da (.str ⟨#[c]⟩), .da (.str (S (p ++ [c]))), .da (.int ((wy zs ks (p ++ [c]) : Nat) : Int)), ?_⟩
          rw [nx, Int.natCast_mul]
        refine ⟨ks, rfl, ite2 (fun d2 => ?_) (fun d2 => ?_)⟩
        · refine fin (wy zs ks (p ++ [c])) ?_
          unfold wyG
          rw [if_pos]
          · rfl
          · apply Classical.byContradiction
            intro k
            rw [decide_eq_false k] at d2
            cases d2
        · have e1 : (PyData.int ((wy zs ks (p ++ [c]) : Int) + 1)) = .int ((wy zs ks (p ++ [c]) + 1 : Nat) : Int) := rfl
          refine fin (wy zs ks (p ++ [c]) + 1) ?_
          unfold wyG
          rw [if_neg fun k => d2 (by rw [decide_eq_true k]; rfl)]
      · have : prodM (wyG zs ks) (((letL.take (j + 1)).map fun c => p ++ [c]).filter fun x => decide (S x ∈ zs)) = prodM (wyG zs ks) (((letL.take j).map fun c => p ++ [c]).filter fun x => decide (S x ∈ zs)) := by
          rw [tk, List.map_append, List.filter_append, prodM_app]
          have e0 : List.filter (fun x => decide (S x ∈ zs)) (List.map (fun c => p ++ [c]) [c]) = [] := by
            show List.filter _ [p ++ [c]] = _
            rw [List.filter_cons, if_neg fun k => d (by rw [k]; rfl)]
            rfl
          rw [e0]
          exact Nat.mul_one _
        refine ⟨.da (.str ⟨#[c]⟩), .da (.str (S (p ++ [c]))), s6, ?_⟩
        rw [this]
    · rintro δ ⟨s4, s5, s6, rfl⟩
      have el : List.take (List.map (fun c => PyData.str (⟨#[c]⟩ : Str)) ("abcdABCD" : Str).cps.toList).length letL = letL := by
        rw [List.length_map, lets8, List.take_length]
      rw [el]
      show G (.int ((prodM (wyG zs ks) (kidsW zs p) : Nat) : Int))
      rw [← wy_eq pf]
      exact hG

theorem ok__law_is_solution {f : Addr} {fd : FuncData} (T : Txt K mg C_NoTread) (D__law_product : Dfn P w K mg base CX0 2 "_law_product" ["one", "other"] (spD K 2 dJoinL)) (F : Fun K "_law_is_solution" "_law_is_solution" s__law_is_solution f fd) (hm : mg "_law_is_solution" = some (.ref f)) (hb : Binds K fd ["one", "other", "goal", "x"] []) : Dfn P w K mg base CX0 3 "_law_is_solution" ["one", "other", "goal", "x"] (spD K 4 dIsSol) := by
  refine Dfn.mk0 F hm hb sc__law_is_solution (fun vs H Q E h => spD.len h) (fun cdv A outer s H vs Q E hr hsp => ?_)
  have hu := hr.units
  have hz := sizeLine_eq
  refine ⟨_, (pss_one (ps_ret (pe_cmpR (oEq (K := K) hu) (pC D__law_product (hr.mono (by decide)) pass0 (pa_cons (pC D__law_product (hr.mono (by decide)) pass0 (pa_cons (pV 0) (pa_cons (pV 3) pa_nil))) (pa_cons (pV 1) pa_nil))) (pV 2) (nomark _)))), ?_⟩
  refine go_pure (K := K) 0 rfl hsp fun ds G e0 ho => ?_
  obtain ⟨A, B, C, X, a, b, c, rfl, E, h, TX, lo, hi, hG⟩ := ho
  simp only [List.map_cons, List.map_nil, List.cons_append, List.nil_append, List.replicate_succ, List.replicate_zero]
  obtain ⟨s1, s2, s3⟩ := E.solves (hasB_iff.mp h) TX lo hi
  refine ⟨rfl, A, X, a, _, rfl, E.A, TX, rfl, _, B, _, b, rfl, s3, E.B, ?_⟩
  rw [s1, s2]
  refine ⟨shaped_trd E.C, shaped_trd E.C, ?_⟩
  show G (.bool (false != PyData.eqv (treadD C (S c)) (treadD C (S c))))
  rw [eqv_trd, decide_eq_true ⟨rfl, rfl⟩]
  exact hG

theorem ok__law_drawn {f : Addr} {fd : FuncData} (T : Txt K mg C_NoTread) (D__law_take : Dfn P w K mg base CX0 2 "_law_take" ["pen", "many"] (spTake)) (F : Fun K "_law_drawn" "_law_drawn" s__law_drawn f fd) (hm : mg "_law_drawn" = some (.ref f)) (hb : Binds K fd ["pen", "least", "most"] []) : Dfn P w K mg base CX0 3 "_law_drawn" ["pen", "least", "most"] (spN K 3 nDrawn) := by
  refine Dfn.mk0 F hm hb sc__law_drawn (fun vs H Q E h => spN.len h) (fun cdv A outer s H vs Q E hr hsp => ?_)
  have hu := hr.units
  have hz := sizeLine_eq
  refine ⟨_, (pss_cons (ps_set (i := 3) sc__law_drawn.nd rfl (by first | exact .inl rfl | exact .inr rfl) (pe_lst pa_nil))
      (pss_cons (ps_for PassesOwn.never rfl (pI (K := K) (pe_ix (xIx (K := K)) (pV 2) pe_int (fun _ _ => rfl))) (pg_name (i := 4) sc__law_drawn.nd rfl (by first | exact .inl rfl | exact .inr rfl)) (pss_one (ps_if (PW.pt (pw_or (tCm (oInRow (K := K)) (pV 4) (pe_ix (xIx (K := K)) (pV 1) pe_int (fun _ _ => rfl)) (by with_unfolding_all rfl)) (pw_or1 (PW.pt (pw_and (tCm (oInOwn (K := K)) (pe_slice (sSl (K := K)) (pV 4) po_none (oPart (pe_un oNeg pe_int))) (pV 3) (by with_unfolding_all rfl)) (pw_and1 (tCm (oEq (K := K) hu) (pC D__law_take (hr.mono (by decide)) pass0 (pa_cons (pV 0) (pa_cons pe_int pa_nil))) pe_int (nomark _)))))))) (pss_one (ps_expr (pe_bmK (K := K) PySem.F.plainAttrs_list PySem.F.slot_list_append PySem.F.type_list_append mt_append (pV 3) (pa_cons (pV 4) pa_nil)))) pss_nil)))
      (pss_one (ps_ret (pe_tup (pa_cons (pe_callTy (cTupOf (K := K)) (by rfl) T.b_tuple (by decide +kernel) (pa_cons (pV 3) pa_nil)) (pa_cons (pe_ix (xIx (K := K)) (pV 1) pe_int (fun _ _ => rfl)) pa_nil))))))), ?_⟩
  refine go_pen (K := K) 2 rfl hsp fun ds m G e00 ho => ?_
  obtain ⟨L, M, e, rfl, hn, TL, TM, sub, hG⟩ := ho
  simp only [List.map_cons, List.map_nil, List.cons_append, List.nil_append, List.replicate_succ, List.replicate_zero]
  have lf := TL.few
  have mf := TM.few
  refine ⟨by show 0 ≤ sizeLine; omega, .inr ?_⟩
  simp only [List.set_cons_succ, List.set_cons_zero]
  refine ⟨_, rfl, M.map .str, .tup _, fun j δ => ∃ k X s4, k ≤ m + j ∧ δ = [.pe k, .da (treadD L (S e)), .da (treadD M (S e)), .ac (X.map .str), s4] ∧ List.Sublist X (M.take j) ∧ (∀ z ∈ M.take j, z ∈ L → z ∈ X) ∧ (∀ w, S w ∈ X → S w.dropLast ∈ X), ⟨m, [], _, Nat.le_refl _, rfl, List.nil_sublist _, (fun z hz => by rw [List.take_zero] at hz; cases hz), fun w hw => by cases hw⟩, ?_, ?_⟩
  · rintro j x δ hx ⟨k, X, s4, hk, rfl, x1, x2, x3⟩
    rw [List.getElem?_map] at hx
    obtain ⟨z, hzj, rfl⟩ := Option.map_eq_some_iff.mp hx
    have hj := (List.getElem?_eq_some_iff.mp hzj).1
    have zm := List.mem_of_getElem? hzj
    obtain ⟨q, rfl, _⟩ := TM.pl z zm
    have ql := (TM.word zm).2.2
    have tk : M.take (j + 1) = M.take j ++ [S q] := by rw [List.take_succ, hzj]; rfl
    have xl := x1.length_le
    rw [List.length_take] at xl
    have put : ∀ k', k' ≤ m + (j + 1) → (S q ∈ L ∨ S q.dropLast ∈ X) → ∃ k Y s4, k ≤ m + (j + 1) ∧ [SD.pe k', .da (treadD L (S e)), .da (treadD M (S e)), .ac (X.map .str ++ [.str (S q)]), .da (.str (S q))] = [.pe k, .da (treadD L (S e)), .da (treadD M (S e)), .ac (Y.map .str), s4] ∧ List.Sublist Y (M.take (j + 1)) ∧ (∀ z ∈ M.take (j + 1), z ∈ L → z ∈ Y) ∧ (∀ w, S w ∈ Y → S w.dropLast ∈ Y) := by
      intro k' hk' hq
      refine ⟨k', X ++ [S q], _, hk', by rw [List.map_append]; rfl, by rw [tk]; exact x1.append (List.Sublist.refl _), fun z hz hL => ?_, fun w hw => ?_⟩
      · rw [tk] at hz
        rcases List.mem_append.mp hz with h | h
        · exact List.mem_append_left _ (x2 z h hL)
        · exact List.mem_append_right _ h
      · rcases List.mem_append.mp hw with h | h
        · exact List.mem_append_left _ (x3 w h)
        · have ew := S_inj (List.mem_singleton.mp h)
          subst ew
          by_cases ne : w = []
          · subst ne
            exact List.mem_append_right _ (List.mem_singleton.mpr rfl)
          · refine List.mem_append_left _ ?_
            rcases hq with hq | hq
            · exact x2 _ (TM.behind hzj ne) (TL.cl w hq)
            · exact hq
    have keep : ∀ k', k' ≤ m + (j + 1) → S q ∉ L → ∃ k Y s4, k ≤ m + (j + 1) ∧ [SD.pe k', .da (treadD L (S e)), .da (treadD M (S e)), .ac (X.map .str), .da (.str (S q))] = [.pe k, .da (treadD L (S e)), .da (treadD M (S e)), .ac (Y.map .str), s4] ∧ List.Sublist Y (M.take (j + 1)) ∧ (∀ z ∈ M.take (j + 1), z ∈ L → z ∈ Y) ∧ (∀ w, S w ∈ Y → S w.dropLast ∈ Y) := by
      intro k' hk' hq
      refine ⟨k', X, _, hk', rfl, by rw [tk]; exact x1.trans (List.sublist_append_left ..), fun z hz hL => ?_, x3⟩
      rw [tk] at hz
      rcases List.mem_append.mp hz with h | h
      · exact x2 z h hL
      · rw [List.mem_singleton.mp h] at hL
        exact absurd hL hq
    refine ⟨_, rfl, L, rfl, ite2 (fun c1 => ?_) (fun c1 => ?_)⟩
    · have hL : S q ∈ L := by
        apply Classical.byContradiction
        intro n
        rw [decide_eq_false n] at c1
        cases c1
      refine ⟨by rw [List.length_map]; omega, ?_⟩
      exact put k (by omega) (.inl hL)
    · have hL : S q ∉ L := fun n => c1 (by rw [decide_eq_true n]; rfl)
      refine ⟨by rw [S_len]; omega, S q.dropLast, X, ?_, rfl, ite2 (fun c2 => ?_) (fun c2 => ?_)⟩
      · show PyData.str (cutS (S q) none (some (-1))) = _
        rw [cut_butlast]
      · have hX : S q.dropLast ∈ X := by
          apply Classical.byContradiction
          intro n
          rw [decide_eq_false n] at c2
          cases c2
        refine ⟨2, rfl, by omega, by decide, by decide, fun r r0 r1 => ite2 (fun c3 => ?_) (fun c3 => ?_)⟩
        · refine ⟨by rw [List.length_map]; omega, ?_⟩
          exact put (k + 1) (by omega) (.inr hX)
        · exact keep (k + 1) (by omega) hL
      · exact keep k (by omega) hL
  · rintro δ ⟨k, X, s4, hk, rfl, x1, x2, x3⟩
    rw [List.length_map] at hk x1 x2
    rw [List.take_length] at x1 x2
    have lo : ∀ z ∈ L, z ∈ X := fun z hz => x2 z (sub z hz) hz
    have nd : X.Nodup := TM.nodup.sublist x1
    have TX : Trd X e := ⟨ordS_id nd (TM.up.sublist x1), fun z hz => TM.pl z (x1.subset hz), x3, Nat.le_trans x1.length_le TM.few, lo _ TL.en⟩
    refine ⟨_, rfl, by show 2 ≤ sizeLine; omega, k, rfl, ?_⟩
    exact hG X k TX lo (fun z hz => x1.subset hz) hk

theorem ok__law_any_case {f : Addr} {fd : FuncData} (T : Txt K mg C_NoTread) (D__law_any_tread : Dfn P w K mg base CX0 4 "_law_any_tread" ["pen", "most", "signs"] (spN K 3 nAnyTr)) (D__law_sorted : Dfn P w K mg base CX0 1 "_law_sorted" ["places"] (spOrd K)) (D__law_behind : Dfn P w K mg base CX0 1 "_law_behind" ["place", "word"] (spD K 2 dFollow)) (D__law_one_of : Dfn P w K mg base CX0 3 "_law_one_of" ["pen", "some"] (spPick K)) (D__law_take : Dfn P w K mg base CX0 2 "_law_take" ["pen", "many"] (spTake)) (D__law_product : Dfn P w K mg base CX0 2 "_law_product" ["one", "other"] (spD K 2 dJoinL)) (D__law_any_signs : Dfn P w K mg base CX0 4 "_law_any_signs" ["pen"] (spN K 1 nSigns6)) (F : Fun K "_law_any_case" "_law_any_case" s__law_any_case f fd) (hm : mg "_law_any_case" = some (.ref f)) (hb : Binds K fd ["pen"] []) : Dfn P w K mg base CX0 5 "_law_any_case" ["pen"] (spN K 1 nCase) := by
  refine Dfn.mk0 F hm hb sc__law_any_case (fun vs H Q E h => spN.len h) (fun cdv A outer s H vs Q E hr hsp => ?_)
  have hu := hr.units
  have hz := sizeLine_eq
  refine ⟨_, (pss_cons (ps_set (i := 1) sc__law_any_case.nd rfl (by first | exact .inl rfl | exact .inr rfl) (pC D__law_any_signs (hr.mono (by decide)) pass0 (pa_cons (pV 0) pa_nil)))
      (pss_cons (ps_asg (pe_lc (own := [("turn_v", 5)]) (by rfl) sc__law_any_case.nd (pi_range1 (by rfl) T.b_range (pa_cons pe_int pa_nil)) (blkOk_by (N := N__law_any_case) (sc := defScope s__law_any_case) (by decide +kernel)) (fun _ _ _ _ _ => pg_name (i := 5) sc__law_any_case.nd rfl (by first | exact .inl rfl | exact .inr rfl)) (fun _ _ _ _ _ => pts_nil) (fun _ _ _ _ _ => (pC D__law_any_tread (hr.mono (by decide)) pass0 (pa_cons (pV 0) (pa_cons pe_int (pa_cons (pV 1) pa_nil)))))) (pg_lstK (K := K) (n := 3) rfl (pgs_cons (pg_name (i := 2) sc__law_any_case.nd rfl (by first | exact .inl rfl | exact .inr rfl)) (pgs_cons (pg_name (i := 3) sc__law_any_case.nd rfl (by first | exact .inl rfl | exact .inr rfl)) (pgs_cons (pg_name (i := 4) sc__law_any_case.nd rfl (by first | exact .inl rfl | exact .inr rfl)) pgs_nil)))))
      (pss_cons (ps_par (i := 6) (j := 7) (by rfl) sc__law_any_case.nd rfl rfl (by decide) rfl rfl (pa_cons (pC D__law_product (hr.mono (by decide)) pass0 (pa_cons (pC D__law_product (hr.mono (by decide)) pass0 (pa_cons (pV 2) (pa_cons (pV 4) pa_nil))) (pa_cons (pV 3) pa_nil))) (pa_cons (pC D__law_take (hr.mono (by decide)) pass0 (pa_cons (pV 0) (pa_cons pe_int pa_nil))) pa_nil)) (by rfl))
      (pss_cons (ps_if (tCm (oEq (K := K) hu) (pV 7) pe_int (nomark _)) (pss_one (ps_set (i := 6) sc__law_any_case.nd rfl (by first | exact .inl rfl | exact .inr rfl) (pe_tup (pa_cons (pe_ix (xIx (K := K)) (pV 6) pe_int (fun _ _ => rfl)) (pa_cons (pC D__law_one_of (hr.mono (by decide)) pass0 (pa_cons (pV 0) (pa_cons (pe_callTy (cListOf (K := K)) (by rfl) T.b_list (by decide +kernel) (pa_cons (pe_ix (xIx (K := K)) (pV 6) pe_int (fun _ _ => rfl)) pa_nil)) pa_nil))) pa_nil))))) pss_nil)
      (pss_cons (ps_if (tCm (oEq (K := K) hu) (pV 7) pe_int (nomark _)) (pss_one (ps_set (i := 6) sc__law_any_case.nd rfl (by first | exact .inl rfl | exact .inr rfl) (pe_tup (pa_cons (pC D__law_sorted (hr.mono (by decide)) pass0 (pa_cons (pe_op (oCatT (K := K)) (pe_ix (xIx (K := K)) (pV 6) pe_int (fun _ _ => rfl)) (pe_tup (pa_cons (pC D__law_behind (hr.mono (by decide)) pass0 (pa_cons (pC D__law_one_of (hr.mono (by decide)) pass0 (pa_cons (pV 0) (pa_cons (pe_callTy (cListOf (K := K)) (by rfl) T.b_list (by decide +kernel) (pa_cons (pe_ix (xIx (K := K)) (pV 6) pe_int (fun _ _ => rfl)) pa_nil)) pa_nil))) (pa_cons (pe_ix (xIx (K := K)) (pV 1) pe_int (fun _ _ => rfl)) pa_nil))) pa_nil))) pa_nil)) (pa_cons (pe_ix (xIx (K := K)) (pV 6) pe_int (fun _ _ => rfl)) pa_nil))))) pss_nil)
      (pss_cons (ps_if (tCm (oEq (K := K) hu) (pV 7) pe_int (nomark _)) (pss_one (ps_par (i := 2) (j := 3) (by rfl) sc__law_any_case.nd rfl rfl (by decide) rfl rfl (pa_cons (pV 3) (pa_cons (pV 2) pa_nil)) (by rfl))) pss_nil)
      (pss_cons (ps_if (tCm (oEq (K := K) hu) (pV 7) pe_int (nomark _)) (pss_one (ps_set (i := 6) sc__law_any_case.nd rfl (by first | exact .inl rfl | exact .inr rfl) (pC D__law_any_tread (hr.mono (by decide)) pass0 (pa_cons (pV 0) (pa_cons pe_int (pa_cons (pV 1) pa_nil)))))) pss_nil)
      (pss_one (ps_ret (pe_tup (pa_cons (pV 2) (pa_cons (pV 3) (pa_cons (pV 6) pa_nil))))))))))))), ?_⟩
  refine go_pen (K := K) 7 rfl hsp fun ds m G e ho => ?_
  obtain ⟨rfl, hn, hG⟩ := ho
  simp only [List.map_cons, List.map_nil, List.cons_append, List.nil_append, List.replicate_succ, List.replicate_zero]
  refine ⟨rfl, rfl, by omega, fun u u0 u1 u2 => ?_⟩
  simp only [List.set_cons_succ, List.set_cons_zero]
  refine s_asg (e_l ⟨by decide, by decide, fun j acc δ => ∃ (k : Nat) (us : List (List Nat)), us.length = j ∧ (∀ v ∈ us, Xia.IsL v ∧ v.length ≤ 8) ∧ acc = us.map (fun v => treadD (plc v) (S (fol [] v))) ∧ k ≤ m + 1 + 17 * j ∧ δ = [.pe k, .da (.str (S u)), .no, .no, .no, .no, .no, .no], ⟨m + 1, [], rfl, (fun v hv => nomatch hv), rfl, Nat.le_refl _, rfl⟩, ?_, by show 3 ≤ sizeLine; omega, ?_⟩)
  · rintro j x acc δ hx al1 al2 ⟨k, us, ul, uh, rfl, hk, rfl⟩
    obtain ⟨hj, rfl⟩ := intsD_at hx
    have hj : j < 3 := hj
    refine ⟨rfl, 8, u, rfl, by omega, by decide, u0, u1, by omega, fun v k' v1 v2 hk' => ?_⟩
    refine ⟨k', us ++ [v], by rw [List.length_append, ul]; rfl, fun y hy => ?_, by rw [List.map_append]; rfl, by omega, rfl⟩
    rcases List.mem_append.mp hy with h | h
    · exact uh y h
    · rw [List.mem_singleton.mp h]
      exact ⟨v1, v2⟩
  rintro acc δ _ ⟨k, us, ul, uh, rfl, hk, rfl⟩
  have ul : us.length = 3 := ul
  have hk : k ≤ m + 1 + 17 * 3 := hk
  obtain ⟨v1, v2, v3, rfl⟩ : ∃ v1 v2 v3, us = [v1, v2, v3] := by
    match us, ul with
    | [a, b, c], _ => exact ⟨a, b, c, rfl⟩
  obtain ⟨l1, n1⟩ := uh v1 (by simp)
  obtain ⟨l2, n2⟩ := uh v2 (by simp)
  obtain ⟨l3, n3⟩ := uh v3 (by simp)
  have tr : ∀ v, Xia.IsL v → v.length ≤ 12 → Trd (plc v) (fol [] v) := fun v h l => plc_trd h (by omega) (mem_plc.mpr ⟨_, trodL_end _, rfl⟩)
  have T1 := tr v1 l1 (by omega)
  have T2 := tr v2 l2 (by omega)
  have T3 := tr v3 l3 (by omega)
  have p1 := plc_len v1
  have p2 := plc_len v2
  have p3 := plc_len v3
  have j1 := lenJ (zs := plc v1) (e := fol [] v1) (ys := plc v3)
  have T13 := T1.join T3 (by omega)
  have j2 := lenJ (zs := joinS (plc v1) (fol [] v1) (plc v3)) (e := fol (fol [] v1) (fol [] v3)) (ys := plc v2)
  have TG := T13.join T2 (by omega)
  have few : (joinS (joinS (plc v1) (fol [] v1) (plc v3)) (fol (fol [] v1) (fol [] v3)) (plc v2)).length ≤ 27 := by omega
  refine ⟨rfl, ⟨rfl, ?_⟩⟩
  simp only [List.set_cons_succ, List.set_cons_zero]
  refine ⟨rfl, plc v1, plc v3, _, _, rfl, T1, T3, rfl, _, plc v2, _, _, rfl, T13, T2, 7, rfl, by omega, by decide, by decide, fun r r0 r1 => ?_⟩
  simp only [List.set_cons_succ, List.set_cons_zero]
  generalize joinS (joinS (plc v1) (fol [] v1) (plc v3)) (fol (fol [] v1) (fol [] v3)) (plc v2) = C0 at TG few ⊢
  generalize fol (fol (fol [] v1) (fol [] v3)) (fol [] v2) = c0 at TG ⊢
  have E0 : Eqn (plc v1) (plc v2) C0 (fol [] v1) (fol [] v2) c0 := ⟨T1, T2, TG⟩
  have neC : C0.map PyData.str ≠ [] := fun k => by
    rw [List.map_eq_nil_iff] at k
    have := TG.pos
    rw [k] at this
    exact absurd this (by decide)
  have lenC : (C0.map PyData.str).length ≤ sizeLine := by rw [List.length_map]; omega
  refine ite2 (fun c1 => ?_) (fun c1 => ?_)
  · have e1 := cond_t c1
    refine ⟨_, rfl, _, rfl, by omega, neC, lenC, fun d hd => ?_⟩
    obtain ⟨z, hz1, rfl⟩ := List.mem_map.mp hd
    obtain ⟨q, rfl, _⟩ := TG.pl z hz1
    refine ⟨by show 2 ≤ sizeLine; omega, ?_⟩
    simp only [List.set_cons_succ, List.set_cons_zero]
    refine ite2 (fun c2 => absurd (cond_t c2) (by omega)) (fun _ => ?_)
    refine ite2 (fun c2 => absurd (cond_t c2) (by omega)) (fun _ => ?_)
    refine ite2 (fun c2 => absurd (cond_t c2) (by omega)) (fun _ => ?_)
    exact ⟨by show 3 ≤ sizeLine; omega, _, rfl, hG _ _ _ _ _ _ _ ⟨T1, T2, TG.ended hz1⟩ (by omega) (by omega)⟩
  have e1 := cond_f c1
  refine ite2 (fun c2 => ?_) (fun c2 => ?_)
  · have e2 := cond_t c2
    refine ⟨_, rfl, _, rfl, by omega, neC, lenC, fun d hd => ?_⟩
    obtain ⟨z, hz1, rfl⟩ := List.mem_map.mp hd
    obtain ⟨q, rfl, _⟩ := TG.pl z hz1
    obtain ⟨x0, ut, rfl⟩ : ∃ x0 ut, u = x0 :: ut := by
      cases u with
      | nil => exact absurd rfl u0
      | cons a b => exact ⟨a, b, rfl⟩
    have x0c : x0 ∈ letC := u1 x0 (List.mem_cons_self ..)
    have ql := (TG.word hz1).2.2
    have few2 : C0.length + 2 ≤ 201 := by omega
    have TM := TG.more hz1 x0c few2
    have at0 : atI (SX.S (x0 :: ut)).cps.toList 0 = some x0 := atI_nat (j := 0) (xs := x0 :: ut) rfl
    refine ⟨by rw [S_len]; omega, x0, at0, rfl, q, [x0], rfl, .one x0c, by show _ + 1 ≤ _; omega, by show 1 ≤ sizeLine; omega, neC, (by intro k; cases k), by rw [List.length_map]; show _ + 1 ≤ sizeLine; omega, C0 ++ [S (fol q [x0])], .inr (by rw [List.map_append]; rfl), by rw [List.length_append]; show _ + 1 ≤ _; omega, fun z hz => ?_, _, rfl, by show 2 ≤ sizeLine; omega, ?_⟩
    · rcases List.mem_append.mp hz with h | h
      · exact Nat.le_trans (TG.strLen h) (by decide)
      · rw [List.mem_singleton.mp h]
        have fl := fol_len (p := q) (w := [x0])
        rw [S_len]
        have : [x0].length = 1 := rfl
        omega
    simp only [List.set_cons_succ, List.set_cons_zero]
    refine ite2 (fun c3 => absurd (cond_t c3) (by omega)) (fun _ => ?_)
    refine ite2 (fun c3 => absurd (cond_t c3) (by omega)) (fun _ => ?_)
    have ol := ordS_len (C0 ++ [S (fol q [x0])])
    rw [List.length_append] at ol
    have : [S (fol q [x0])].length = 1 := rfl
    exact ⟨by show 3 ≤ sizeLine; omega, _, rfl, hG _ _ _ _ _ _ _ ⟨T1, T2, TM⟩ (by omega) (by omega)⟩
  have e2 := cond_f c2
  refine ite2 (fun c3 => ?_) (fun c3 => ?_)
  · have e3 := cond_t c3
    refine ite2 (fun c4 => absurd (cond_t c4) (by omega)) (fun c4 => ?_)
    exact ⟨by show 3 ≤ sizeLine; omega, _, rfl, hG _ _ _ _ _ _ _ ⟨T2, T1, TG⟩ (by omega) (by omega)⟩
  have e3 := cond_f c3
  refine ite2 (fun c4 => ?_) (fun c4 => ?_)
  · refine ⟨rfl, 12, u, rfl, by omega, by decide, u0, u1, by omega, fun v k' w1 w2 hk' => ?_⟩
    simp only [List.set_cons_succ, List.set_cons_zero]
    have pv := plc_len v
    exact ⟨by show 3 ≤ sizeLine; omega, _, rfl, hG _ _ _ _ _ _ _ ⟨T1, T2, tr v w1 w2⟩ (by omega) (by omega)⟩
  · exact ⟨by show 3 ≤ sizeLine; omega, _, rfl, hG _ _ _ _ _ _ _ ⟨T1, T2, TG⟩ (by omega) (by omega)⟩

theorem ok__law_long_right {f : Addr} {fd : FuncData} (T : Txt K mg C_NoTread) (D_solutions : Dfn P w K mg base (L2.CX P w) 7 "solutions" ["one", "other", "goal"] (spD K 3 dSolutions)) (D__law_one_of : Dfn P w K mg base CX0 3 "_law_one_of" ["pen", "some"] (spPick K)) (D__law_tread : Dfn P w K mg base CX0 2 "_law_tread" ["word"] (spD K 1 dTreadW)) (D__law_take : Dfn P w K mg base CX0 2 "_law_take" ["pen", "many"] (spTake)) (F : Fun K "_law_long_right" "_law_long_right" s__law_long_right f fd) (hm : mg "_law_long_right" = some (.ref f)) (hb : Binds K fd ["pen"] []) : DfnG P w K mg base CX0 8 "_law_long_right" ["pen"] (spN K 1 nLongR) := by
  refine DfnG.mk0 F hm hb sc__law_long_right (fun vs H Q E h => spN.len h) (fun cdv A outer s H vs Q E hr hG hcd hsp hlk => ?_)
  have hu := hr.units
  have hz := sizeLine_eq
  refine ⟨_, (pss_cons (ps_setLc (i := 1) (own := [("sign", 2)]) (by rfl) sc__law_long_right.nd rfl rfl (sw_true rfl rfl rfl (by decide +kernel)) (pI (K := K) pe_str) (blkOk_by (N := N__law_long_right) (sc := defScope s__law_long_right) (by decide +kernel)) (fun _ _ _ _ _ => pg_name (i := 2) sc__law_long_right.nd rfl (by first | exact .inl rfl | exact .inr rfl)) (fun _ _ _ _ _ => pts_nil) (fun _ _ _ _ _ => (pe_slice (sSl (K := K)) (pe_op oMul (pV 2) pe_int) po_none (oPart (pe_op oAdd pe_int (pC D__law_take (hr.mono (by decide)) pass0 (pa_cons (pV 0) (pa_cons pe_int pa_nil))))))))
      (pss_cons (ps_asg (pe_lc (own := [("row", 6)]) (by rfl) sc__law_long_right.nd (pI (K := K) (pV 1)) (blkOk_by (N := N__law_long_right) (sc := defScope s__law_long_right) (by decide +kernel)) (fun _ _ _ _ _ => pg_name (i := 6) sc__law_long_right.nd rfl (by first | exact .inl rfl | exact .inr rfl)) (fun _ _ _ _ _ => pts_nil) (fun _ _ _ _ _ => (pC D__law_tread (hr.mono (by decide)) pass0 (pa_cons (pV 6) pa_nil)))) (pg_lstK (K := K) (n := 3) rfl (pgs_cons (pg_name (i := 3) sc__law_long_right.nd rfl (by first | exact .inl rfl | exact .inr rfl)) (pgs_cons (pg_name (i := 4) sc__law_long_right.nd rfl (by first | exact .inl rfl | exact .inr rfl)) (pgs_cons (pg_name (i := 5) sc__law_long_right.nd rfl (by first | exact .inl rfl | exact .inr rfl)) pgs_nil)))))
      (pss_cons (ps_set (i := 7) sc__law_long_right.nd rfl (by first | exact .inl rfl | exact .inr rfl) (pe_tup (pa_cons (pe_tup (pa_cons pe_str pa_nil)) (pa_cons pe_str pa_nil))))
      (pss_cons (ps_asg (pC D__law_one_of (hr.mono (by decide)) pass0 (pa_cons (pV 0) (pa_cons (pe_lst (pa_cons (pe_tup (pa_cons (pV 3) (pa_cons (pV 7) pa_nil))) (pa_cons (pe_tup (pa_cons (pV 7) (pa_cons (pV 3) pa_nil))) (pa_cons (pe_tup (pa_cons (pV 3) (pa_cons (pV 4) pa_nil))) (pa_cons (pe_tup (pa_cons (pe_tup (pa_cons (pe_ix (xIx (K := K)) (pV 3) pe_int (fun _ _ => rfl)) (pa_cons pe_str pa_nil))) (pa_cons (pe_tup (pa_cons (pe_ix (xIx (K := K)) (pV 4) pe_int (fun _ _ => rfl)) (pa_cons pe_str pa_nil))) pa_nil))) pa_nil))))) pa_nil))) (pg_tupK (K := K) (n := 2) rfl (pgs_cons (pg_name (i := 8) sc__law_long_right.nd rfl (by first | exact .inl rfl | exact .inr rfl)) (pgs_cons (pg_name (i := 9) sc__law_long_right.nd rfl (by first | exact .inl rfl | exact .inr rfl)) pgs_nil))))
      (pss_cons (ps_if (tCm oIsNot2 (pC D_solutions (hr.mono (by decide)) passL (pa_cons (pV 8) (pa_cons (pV 9) (pa_cons (pV 5) pa_nil)))) pe_non (nomark _)) (pss_one (ps_ret pe_bl)) pss_nil)
      (pss_one (ps_ret (pe_cmpR (oEq (K := K) hu) (pe_callB (cRepr (K := K) hG hu) (by rfl) T.b_repr PyProof.Rows.boot_repr (pa_cons (pC D_solutions (hr.mono (by decide)) passL (pa_cons (pV 7) (pa_cons (pV 7) (pa_cons (pV 5) pa_nil)))) pa_nil)) (pe_callB (cRepr (K := K) hG hu) (by rfl) T.b_repr PyProof.Rows.boot_repr (pa_cons (pe_tup (pa_cons (pV 5) (pa_cons (pV 5) (pa_cons pe_int pa_nil)))) pa_nil)) (nomark _))))))))), ?_⟩
  refine go_pen (K := K) 9 rfl hsp fun ds m G e ho => ?_
  obtain ⟨rfl, hn, hG⟩ := ho
  simp only [List.map_cons, List.map_nil, List.cons_append, List.nil_append, List.replicate_succ, List.replicate_zero]
  have abc : ("abc" : Str).cps.toList = [97, 98, 99] := by decide +kernel
  refine ⟨_, .str _, ?_⟩
  refine ⟨fun j acc δ => ∃ k, k ≤ m + j ∧ δ = [.pe k, .no, .no, .no, .no, .no, .no, .no, .no, .no] ∧ ((j = 0 ∧ acc = []) ∨ (j = 1 ∧ ∃ u, Row 97 u ∧ acc = [.str (S u)]) ∨ (j = 2 ∧ ∃ u v, Row 97 u ∧ Row 98 v ∧ acc = [.str (S u), .str (S v)]) ∨ (j = 3 ∧ ∃ u v x, Row 97 u ∧ Row 98 v ∧ Row 99 x ∧ acc = [.str (S u), .str (S v), .str (S x)])), ⟨m, Nat.le_refl _, rfl, .inl ⟨rfl, rfl⟩⟩, ?_, ?_, ?_⟩
  · rintro j x acc δ hx al1 al2 ⟨k, hk, rfl, hj⟩
    rw [abc] at hx
    have step : ∀ c ∈ letC, x = .str (⟨#[c]⟩ : Str) → j ≤ 2 → (∀ u, Row c u → ((j + 1 = 0 ∧ acc ++ [.str (S u)] = []) ∨ (j + 1 = 1 ∧ ∃ u', Row 97 u' ∧ acc ++ [.str (S u)] = [.str (S u')]) ∨ (j + 1 = 2 ∧ ∃ u' v, Row 97 u' ∧ Row 98 v ∧ acc ++ [.str (S u)] = [.str (S u'), .str (S v)]) ∨ (j + 1 = 3 ∧ ∃ u' v x, Row 97 u' ∧ Row 98 v ∧ Row 99 x ∧ acc ++ [.str (S u)] = [.str (S u'), .str (S v), .str (S x)]))) → agName 2 x (wipeD [.pe k, .no, .no, .no, .no, .no, .no, .no, .no, .no] [2]) fun δ2 => aYes δ2 fun b δ3 => if b = true then aSl (aOp dMul (aV 2) (aC (PyData.int 200))) aoNo (aoPart (aOp dAdd (aC (PyData.int 100)) (aPen 0 nTake (aCons (aC (PyData.int 101)) aNil)))) δ3 fun y δ4 => ∃ k, k ≤ m + (j + 1) ∧ wipeD δ4 [2] = [.pe k, .no, .no, .no, .no, .no, .no, .no, .no, .no] ∧ ((j + 1 = 0 ∧ acc ++ [y] = []) ∨ (j + 1 = 1 ∧ ∃ u, Row 97 u ∧ acc ++ [y] = [.str (S u)]) ∨ (j + 1 = 2 ∧ ∃ u v, Row 97 u ∧ Row 98 v ∧ acc ++ [y] = [.str (S u), .str (S v)]) ∨ (j + 1 = 3 ∧ ∃ u v x, Row 97 u ∧ Row 98 v ∧ Row 99 x ∧ acc ++ [y] = [.str (S u), .str (S v), .str (S x)])) else ∃ k, k ≤ m + (j + 1) ∧ wipeD δ3 [2] = [.pe k, .no, .no, .no, .no, .no, .no, .no, .no, .no] ∧ ((j + 1 = 0 ∧ acc = []) ∨ (j + 1 = 1 ∧ ∃ u, Row 97 u ∧ acc = [.str (S u)]) ∨ (j + 1 = 2 ∧ ∃ u v, Row 97 u ∧ Row 98 v ∧ acc = [.str (S u), .str (S v)]) ∨ (j + 1 = 3 ∧ ∃ u v x, Row 97 u ∧ Row 98 v ∧ Row 99 x ∧ acc = [.str (S u), .str (S v), .str (S x)])) := by
      rintro c hc rfl j2 nxt
      have em : Txt.mul (⟨#[c]⟩ : Str) 200 = S (rep [c] 200) := mul_S [c] (n := 200) (by decide)
      refine ⟨mulOk (by decide) (by decide) (by show 1 * 200 ≤ 16777216; decide) (by show 1 ≤ 1000000; decide), 101, rfl, by omega, by decide, by decide, fun r r0 r1 => ?_⟩
      refine ⟨?_, ?_⟩
      · rw [em, S_len, rep_len]
        show 200 * 1 ≤ sizeLine
        omega
      have ec : cutS (Txt.mul (⟨#[c]⟩ : Str) 200) none (some (100 + r)) = S ((rep [c] 200).take (100 + r).toNat) := by rw [em, cut_to _ (by omega)]
      rw [ec]
      have R := row_of hc (n := (100 + r).toNat) (by omega) (by omega)
      exact ⟨k + 1, by omega, rfl, nxt _ R⟩
    rcases hj with ⟨rfl, rfl⟩ | ⟨rfl, u, R1, rfl⟩ | ⟨rfl, u, v, R1, R2, rfl⟩ | ⟨rfl, _⟩
    · cases hx
      exact step 97 (by decide) rfl (by omega) fun u R => .inr (.inl ⟨rfl, u, R, rfl⟩)
    · cases hx
      exact step 98 (by decide) rfl (by omega) fun v R => .inr (.inr (.inl ⟨rfl, u, v, R1, R, rfl⟩))
    · cases hx
      exact step 99 (by decide) rfl (by omega) fun x R => .inr (.inr (.inr ⟨rfl, u, v, x, R1, R2, R, rfl⟩))
    · cases hx
  · rw [abc]
    show 3 ≤ sizeLine
    omega
  rintro acc δ _ ⟨k, hk, rfl, hj⟩
  rw [abc] at hk hj
  have hk : k ≤ m + 3 := hk
  obtain ⟨u, v, x, R1, R2, R3, rfl⟩ : ∃ u v x, Row 97 u ∧ Row 98 v ∧ Row 99 x ∧ acc = [.str (S u), .str (S v), .str (S x)] := by
    rcases hj with ⟨z, _⟩ | ⟨z, _⟩ | ⟨z, _⟩ | ⟨_, h⟩
    · cases z
    · cases z
    · cases z
    · exact h
  refine .inl ?_
  simp only [List.set_cons_succ, List.set_cons_zero]
  refine s_asg (e_l (lc_mapS' [S u, S v, S x] (fun z => treadD (plc z.cps.toList) (S (fol [] z.cps.toList))) (by show 3 ≤ sizeLine; omega) rfl (fun z hz => ⟨rfl, fun G' g' => ?_⟩) (fun G' g' => ⟨_, .lst _, g'⟩) ?_))
  · simp only [List.mem_cons, List.not_mem_nil, or_false] at hz
    rcases hz with rfl | rfl | rfl
    · exact ⟨rfl, u, rfl, R1.l, by have := R1.hi; omega, g'⟩
    · exact ⟨rfl, v, rfl, R2.l, by have := R2.hi; omega, g'⟩
    · exact ⟨rfl, x, rfl, R3.l, by have := R3.hi; omega, g'⟩
  refine ⟨rfl, ⟨rfl, ?_⟩⟩
  simp only [List.set_cons_succ, List.set_cons_zero]
  have s2 : 2 ≤ sizeLine := by omega
  refine ⟨by show 1 ≤ sizeLine; omega, s2, ?_⟩
  simp only [List.set_cons_succ, List.set_cons_zero]
  have tail : ∀ (k : Nat) (d8 d9 : PyData), k ≤ m + 10 → aRet (aOp (dEq false) (aCB dRepr (aCons (aCB (dLenIs 3 dSolutions) (aCons (aV 7) (aCons (aV 7) (aCons (aV 5) aNil)))) aNil)) (aCB dRepr (aCons (aTup (aCons (aV 5) (aCons (aV 5) (aCons (aC (PyData.int 1)) aNil)))) aNil)))
      { nx := fun δ => ∃ m', δ[0]? = some (SD.pe m') ∧ G PyData.none m', rt := fun d δ => ∃ m', δ[0]? = some (SD.pe m') ∧ G d m', bk := fun _ => False, ct := fun _ => False }
      [SD.pe k, SD.da (PyData.list [PyData.str (S u), PyData.str (S v), PyData.str (S x)]), SD.no, .da (treadD (plc u) (S (fol [] u))), .da (treadD (plc v) (S (fol [] v))), .da (treadD (plc x) (S (fol [] x))), SD.no, .da (treadD [S []] (S [])), .da d8, .da d9] := by
    intro k d8 d9 hk
    have sh := shows_sol (n := 1) R3.trd R3.trd (by decide)
    refine ⟨rfl, [S []], [S []], plc x, [], [], fol [] x, rfl, ⟨one_trd, one_trd, R3.trd⟩, ?_⟩
    rw [sol_self R3.trd]
    refine ⟨sh, by show 3 ≤ sizeLine; omega, sh, ?_⟩
    refine ⟨k, rfl, ?_⟩
    rw [decide_eq_true rfl]
    exact hG k (by omega)
  refine ⟨s2, s2, s2, _, rfl, s2, _, rfl, s2, s2, by show 4 ≤ sizeLine; omega, by omega, (by intro z; cases z), by show 4 ≤ sizeLine; omega, fun d hd => ?_⟩
  simp only [List.mem_cons, List.not_mem_nil, or_false] at hd
  obtain ⟨z, z1, z2⟩ := row_apart R1 R3 (by decide)
  have tl := fun d8 d9 => tail (k + 1) d8 d9 (by omega)
  rcases hd with rfl | rfl | rfl | rfl
  · refine ⟨rfl, ⟨rfl, ?_⟩⟩
    simp only [List.set_cons_succ, List.set_cons_zero]
    refine ⟨rfl, plc u, [S []], plc x, _, [], _, rfl, ⟨R1.trd, one_trd, R3.trd⟩, ?_⟩
    rw [no_sol1 z1 z2]
    exact tl _ _
  · refine ⟨rfl, ⟨rfl, ?_⟩⟩
    simp only [List.set_cons_succ, List.set_cons_zero]
    refine ⟨rfl, [S []], plc u, plc x, [], _, _, rfl, ⟨one_trd, R1.trd, R3.trd⟩, ?_⟩
    rw [no_sol2 R1 R3]
    exact tl _ _
  · refine ⟨rfl, ⟨rfl, ?_⟩⟩
    simp only [List.set_cons_succ, List.set_cons_zero]
    refine ⟨rfl, plc u, plc v, plc x, _, _, _, rfl, ⟨R1.trd, R2.trd, R3.trd⟩, ?_⟩
    rw [no_sol1 z1 z2]
    exact tl _ _
  · refine ⟨rfl, ⟨rfl, ?_⟩⟩
    simp only [List.set_cons_succ, List.set_cons_zero]
    refine ⟨rfl, plc u, plc v, plc x, [], [], _, rfl, ⟨R1.trd.ended R1.trd.nil_mem, R2.trd.ended R2.trd.nil_mem, R3.trd⟩, ?_⟩
    rw [no_sol1 z1 z2]
    exact tl _ _

theorem ok_law {f : Addr} {fd : FuncData} (T : Txt K mg C_NoTread) (D__law_long_right : DfnG P w K mg base CX0 8 "_law_long_right" ["pen"] (spN K 1 nLongR)) (D__law_take : Dfn P w K mg base CX0 2 "_law_take" ["pen", "many"] (spTake)) (D__law_drawn : Dfn P w K mg base CX0 3 "_law_drawn" ["pen", "least", "most"] (spN K 3 nDrawn)) (D__law_is_solution : Dfn P w K mg base CX0 3 "_law_is_solution" ["one", "other", "goal", "x"] (spD K 4 dIsSol)) (D__law_ways : Dfn P w K mg base CX0 41 "_law_ways" ["places", "place", "kept"] (spD K 3 (dWaysL 40))) (D_solutions : Dfn P w K mg base (L2.CX P w) 7 "solutions" ["one", "other", "goal"] (spD K 3 dSolutions)) (D__law_due : Dfn P w K mg base CX0 2 "_law_due" ["one", "other", "goal"] (spD K 3 dDue)) (D__law_any_case : Dfn P w K mg base CX0 5 "_law_any_case" ["pen"] (spN K 1 nCase)) (D__law_open : Dfn P w K mg base CX0 1 "_law_open" ["script"] (spOpen K)) (F : Fun K "law" "law" s_law f fd) (hm : mg "law" = some (.ref f)) (hb : Binds K fd ["script"] []) : FnG P w K mg base CX0 42 f fd ["script"] (spLaw0 K) := by
  refine fnG_of F sc_law (fun vs H Q E h => Sp1.len h) (fun cdv A outer s H vs Q E hr hG hcd hsp hlk => ?_)
  obtain ⟨a0, rfl, h⟩ := Sp1.of hsp
  clear hsp
  have hu := hr.units
  obtain ⟨aa, ns, rfl, hS, hlen, q⟩ := h
  have hz := sizeLine_eq
  refine ⟨_, (pss_cons (ps_set (i := 1) sc_law.nd rfl (by first | exact .inl rfl | exact .inr rfl) (pC D__law_open (hr.mono (by decide)) pass0 (pa_cons (pV 0) pa_nil)))
      (pss_cons (ps_for PassesOwn.never rfl (pi_range1 (by rfl) T.b_range (pa_cons pe_int pa_nil)) (pg_name (i := 2) sc_law.nd rfl (by first | exact .inl rfl | exact .inr rfl)) (pss_cons (ps_asg (pC D__law_any_case (hr.mono (by decide)) pass0 (pa_cons (pV 1) pa_nil)) (pg_tupK (K := K) (n := 3) rfl (pgs_cons (pg_name (i := 3) sc_law.nd rfl (by first | exact .inl rfl | exact .inr rfl)) (pgs_cons (pg_name (i := 4) sc_law.nd rfl (by first | exact .inl rfl | exact .inr rfl)) (pgs_cons (pg_name (i := 5) sc_law.nd rfl (by first | exact .inl rfl | exact .inr rfl)) pgs_nil)))))
      (pss_cons (ps_par (i := 6) (j := 7) (by rfl) sc_law.nd rfl rfl (by decide) rfl rfl (pa_cons (pe_callB (cRepr (K := K) hG hu) (by rfl) T.b_repr PyProof.Rows.boot_repr (pa_cons (pe_tup (pa_cons (pV 3) (pa_cons (pV 4) (pa_cons (pV 5) pa_nil)))) pa_nil)) (pa_cons (pC D__law_due (hr.mono (by decide)) pass0 (pa_cons (pV 3) (pa_cons (pV 4) (pa_cons (pV 5) pa_nil)))) pa_nil)) (by rfl))
      (pss_cons (ps_set (i := 8) sc_law.nd rfl (by first | exact .inl rfl | exact .inr rfl) (pC D_solutions (hr.mono (by decide)) passL (pa_cons (pV 3) (pa_cons (pV 4) (pa_cons (pV 5) pa_nil)))))
      (pss_one (ps_if (tCm oIs (pV 7) pe_non (nomark _)) (pss_one (ps_if (PW.pt (pw_or (tCm oIsNot2 (pV 8) pe_non (nomark _)) (pw_or1 (tCm (oNe (K := K) hu) (pe_callB (cRepr (K := K) hG hu) (by rfl) T.b_repr PyProof.Rows.boot_repr (pa_cons (pe_tup (pa_cons (pV 3) (pa_cons (pV 4) (pa_cons (pV 5) pa_nil)))) pa_nil)) (pV 6) (nomark _))))) (pss_one (ps_ret pe_bl)) pss_nil)) (pss_cons (ps_asg (pV 7) (pg_tupK (K := K) (n := 2) rfl (pgs_cons (pg_name (i := 9) sc_law.nd rfl (by first | exact .inl rfl | exact .inr rfl)) (pgs_cons (pg_name (i := 10) sc_law.nd rfl (by first | exact .inl rfl | exact .inr rfl)) pgs_nil))))
      (pss_cons (ps_set (i := 11) sc_law.nd rfl (by first | exact .inl rfl | exact .inr rfl) (pC D__law_ways (hr.mono (by decide)) pass0 (pa_cons (pe_ix (xIx (K := K)) (pV 10) pe_int (fun _ _ => rfl)) (pa_cons pe_str (pa_cons (pe_ix (xIx (K := K)) (pV 9) pe_int (fun _ _ => rfl)) pa_nil)))))
      (pss_cons (ps_if (PW.pt (pw_or (tCm (oNe (K := K) hu) (pe_callB (cRepr (K := K) hG hu) (by rfl) T.b_repr PyProof.Rows.boot_repr (pa_cons (pV 8) pa_nil)) (pe_callB (cRepr (K := K) hG hu) (by rfl) T.b_repr PyProof.Rows.boot_repr (pa_cons (pe_tup (pa_cons (pV 9) (pa_cons (pV 10) (pa_cons (pV 11) pa_nil)))) pa_nil)) (nomark _)) (pw_or1 (tCm (oNe (K := K) hu) (pe_callB (cRepr (K := K) hG hu) (by rfl) T.b_repr PyProof.Rows.boot_repr (pa_cons (pe_tup (pa_cons (pV 3) (pa_cons (pV 4) (pa_cons (pV 5) pa_nil)))) pa_nil)) (pV 6) (nomark _))))) (pss_one (ps_ret pe_bl)) pss_nil)
      (pss_one (ps_for PassesOwn.never rfl (pI (K := K) (pe_lst (pa_cons (pV 9) (pa_cons (pV 10) (pa_cons (pC D__law_drawn (hr.mono (by decide)) pass0 (pa_cons (pV 1) (pa_cons (pV 9) (pa_cons (pV 10) pa_nil)))) (pa_cons (pC D__law_drawn (hr.mono (by decide)) pass0 (pa_cons (pV 1) (pa_cons (pV 9) (pa_cons (pV 10) pa_nil)))) pa_nil)))))) (pg_name (i := 12) sc_law.nd rfl (by first | exact .inl rfl | exact .inr rfl)) (pss_one (ps_if (pt_not (tVal (pC D__law_is_solution (hr.mono (by decide)) pass0 (pa_cons (pV 3) (pa_cons (pV 4) (pa_cons (pV 5) (pa_cons (pV 12) pa_nil))))))) (pss_one (ps_ret pe_bl)) pss_nil)))))))))))))
      (pss_one (ps_ret (pe_or (pe_cmpR oGt (pC D__law_take (hr.mono (by decide)) pass0 (pa_cons (pV 1) (pa_cons pe_int pa_nil))) pe_int (nomark _)) (pe_one (pCG D__law_long_right (hr.mono (by decide)) hG pass0 (pa_cons (pV 1) pa_nil)))))))), ?_⟩
  refine law_go (K := K) (T := []) 11 rfl hS hlen (fun p hp => nomatch hp) q ?_
  simp only [List.map_cons, List.map_nil, List.cons_append, List.nil_append, List.replicate_succ, List.replicate_zero]
  refine ⟨by decide, by decide, fun i δ => ∃ n s2 s3 s4 s5 s6 s7 s8 s9 s10 s11 s12, n ≤ 2000 * i ∧ δ = [.no, .pe n, s2, s3, s4, s5, s6, s7, s8, s9, s10, s11, s12], ⟨_, _, _, _, _, _, _, _, _, _, _, _, Nat.zero_le _, rfl⟩, ?_, ?_⟩
  · rintro i x δ hx ⟨n, s2, s3, s4, s5, s6, s7, s8, s9, s10, s11, s12, hn, rfl⟩
    obtain ⟨hi, rfl⟩ := intsD_at hx
    have hi : i < 4 := hi
    refine ⟨rfl, rfl, by omega, fun A B C a b c m E cl hm => ?_⟩
    refine ⟨rfl, ⟨rfl, ?_⟩⟩
    simp only [List.set_cons_succ, List.set_cons_zero]
    have s3 : 3 ≤ sizeLine := by omega
    have sh3 := shows_3 E
    refine ⟨s3, sh3, rfl, A, B, C, a, b, c, rfl, E, cl, ?_⟩
    simp only [List.set_cons_succ, List.set_cons_zero]
    refine ⟨rfl, A, B, C, a, b, c, rfl, E, ?_⟩
    simp only [List.set_cons_succ, List.set_cons_zero]
    unfold lamD solD
    by_cases h : hasB C (givenE A B c b) = true
    · rw [if_pos h, if_pos h]
      have h' := hasB_iff.mp h
      have lo := E.low h'
      have mo := E.most h'
      have sub : ∀ z ∈ lowE A B C a b c, z ∈ turnS C a := fun z hz => E.low_sub h' z (mem_ordS.mp hz)
      refine s_if_some rfl rfl ?_
      refine ⟨rfl, ⟨rfl, ?_⟩⟩
      simp only [List.set_cons_succ, List.set_cons_zero]
      refine ⟨_, rfl, _, rfl, rfl, turnS C a, lowE A B C a b c, [], endE a b c, rfl, mo, .nil, Nat.zero_le _, fun z hz => Nat.le_trans (lo.strLen hz) (by decide), by have := lo.few; omega, mo.nil_mem, fun x hx => ?_, ?_⟩
      · have := trd_len mo hx
        have := lenT (zs := C) (e := a)
        show x.length < 0 + 40
        omega
      simp only [List.set_cons_succ, List.set_cons_zero]
      have shs := shows_sol (n := wy (turnS C a) (lowE A B C a b c) []) lo mo (Nat.le_trans (wy_le [] mo.few) (Nat.pow_le_pow_right (by decide) (by decide)))
      have isol : ∀ (X : List Str) (G : PyData → Prop), Trd X (endE a b c) → (∀ z ∈ lowE A B C a b c, z ∈ X) → (∀ z ∈ X, z ∈ turnS C a) → G (.bool true) → dIsSol [treadD A (S a), treadD B (S b), treadD C (S c), treadD X (S (endE a b c))] G := fun X G T1 l1 h1 g => ⟨A, B, C, X, a, b, c, rfl, E, h, T1, l1, h1, g⟩
      generalize wy (turnS C a) (lowE A B C a b c) [] = N at shs ⊢
      generalize lowE A B C a b c = L at lo sub shs isol ⊢
      generalize turnS C a = M at mo sub shs isol ⊢
      generalize endE a b c = e1 at lo mo shs isol ⊢
      clear h h' E
      refine s_if_ff (fun G' g' => t_or_ff (fun G' g' => t_same _ (fun G' g' => ⟨shs, g'⟩) (fun G' g' => ⟨s3, shs, g'⟩) g') (fun G' g' => t_same _ (fun G' g' => ⟨s3, sh3, g'⟩) (fun G' g' => g') g') g') ?_
      generalize (PyData.tuple [treadD A (S a), treadD B (S b), treadD C (S c)]).shown = kt
      have mf := mo.few
      refine ⟨rfl, L, M, e1, rfl, by omega, lo, mo, sub, fun X1 m1 T1 l1 h1 hm1 => ⟨rfl, L, M, e1, rfl, by omega, lo, mo, sub, fun X2 m2 T2 l2 h2 hm2 => ?_⟩⟩
      refine ⟨by show 4 ≤ sizeLine; omega, _, .lst _, fun j δ => ∃ t12, δ = [.no, .pe m2, .da (.int (0 + (i : Nat))), .da (treadD A (S a)), .da (treadD B (S b)), .da (treadD C (S c)), .da (.str kt), .da (.tuple [treadD L (S e1), treadD M (S e1)]), .da (.tuple [treadD L (S e1), treadD M (S e1), .int (N : Int)]), .da (treadD L (S e1)), .da (treadD M (S e1)), .da (.int (N : Int)), t12], ⟨_, rfl⟩, ?_, ?_⟩
      · rintro j x δ hx ⟨t12, rfl⟩
        obtain ⟨X, rfl, T3, l3, h3⟩ : ∃ X, x = treadD X (S e1) ∧ Trd X e1 ∧ (∀ z ∈ L, z ∈ X) ∧ (∀ z ∈ X, z ∈ M) := by
          have hm := List.mem_of_getElem? hx
          simp only [List.mem_cons, List.not_mem_nil, or_false] at hm
          rcases hm with rfl | rfl | rfl | rfl
          · exact ⟨L, rfl, lo, fun _ h => h, sub⟩
          · exact ⟨M, rfl, mo, sub, fun _ h => h⟩
          · exact ⟨X1, rfl, T1, l1, h1⟩
          · exact ⟨X2, rfl, T2, l2, h2⟩
        exact s_if1_ff (fun G' g' => ⟨rfl, isol X _ T3 l3 h3 g'⟩) ⟨_, rfl⟩
      · rintro δ ⟨t12, rfl⟩
        exact ⟨m2, _, _, _, _, _, _, _, _, _, _, _, by omega, rfl⟩
    · rw [if_neg h, if_neg h]
      refine s_if_none rfl ?_
      refine s_if1_ff (fun G' g' => t_or_ff (fun G' g' => g') (fun G' g' => t_same _ (fun G' g' => ⟨s3, sh3, g'⟩) (fun G' g' => g') g') g') ?_
      exact ⟨m, _, _, _, _, _, _, _, _, _, _, _, by omega, rfl⟩
  · rintro δ ⟨n, s2, s3, s4, s5, s6, s7, s8, s9, s10, s11, s12, hn, rfl⟩
    have hn : n ≤ 2000 * 4 := hn
    refine ⟨3, rfl, by omega, by decide, by decide, fun r r0 r1 => ?_⟩
    exact ite2 (fun _ => rfl) (fun _ => ⟨rfl, rfl, by omega, fun m' hm' => rfl⟩)

end
theorem all_mk {l : PySem.W.OpenLaw} {q : Program} {w : World} {K : PySem.W.Frag} {h : Heap} {mg : Str → Option Value} {fa : Addr} (X : K.In h) (G : h.Ns mainGlobals mg) (hfa : mg "law" = some (.ref fa))
    {od0 an0 : Option Addr} {sl0 : Array (Option Value)} {oc0 kV0 dc0 pm0 cd0 ct0 : Value} {f0 : Addr}
    {od1 an1 : Option Addr} {sl1 : Array (Option Value)} {oc1 kV1 dc1 pm1 cd1 ct1 : Value} {f1 : Addr}
    {od2 an2 : Option Addr} {sl2 : Array (Option Value)} {oc2 kV2 dc2 pm2 cd2 ct2 : Value} {f2 : Addr}
    {od3 an3 : Option Addr} {sl3 : Array (Option Value)} {oc3 kV3 dc3 pm3 cd3 ct3 : Value} {f3 : Addr}
    {od4 an4 : Option Addr} {sl4 : Array (Option Value)} {oc4 kV4 dc4 pm4 cd4 ct4 : Value} {f4 : Addr}
    {od5 an5 : Option Addr} {sl5 : Array (Option Value)} {oc5 kV5 dc5 pm5 cd5 ct5 : Value} {f5 : Addr}
    {od6 an6 : Option Addr} {sl6 : Array (Option Value)} {oc6 kV6 dc6 pm6 cd6 ct6 : Value} {f6 : Addr}
    {od7 an7 : Option Addr} {sl7 : Array (Option Value)} {oc7 kV7 dc7 pm7 cd7 ct7 : Value} {f7 : Addr}
    {od8 an8 : Option Addr} {sl8 : Array (Option Value)} {oc8 kV8 dc8 pm8 cd8 ct8 : Value} {f8 : Addr}
    {od9 an9 : Option Addr} {sl9 : Array (Option Value)} {oc9 kV9 dc9 pm9 cd9 ct9 : Value} {f9 : Addr}
    {od10 an10 : Option Addr} {sl10 : Array (Option Value)} {oc10 kV10 dc10 pm10 cd10 ct10 : Value} {f10 : Addr}
    {od11 an11 : Option Addr} {sl11 : Array (Option Value)} {oc11 kV11 dc11 pm11 cd11 ct11 : Value} {f11 : Addr}
    {od12 an12 : Option Addr} {sl12 : Array (Option Value)} {oc12 kV12 dc12 pm12 cd12 ct12 : Value} {f12 : Addr}
    {od13 an13 : Option Addr} {sl13 : Array (Option Value)} {oc13 kV13 dc13 pm13 cd13 ct13 : Value} {f13 : Addr}
    {od14 an14 : Option Addr} {sl14 : Array (Option Value)} {oc14 kV14 dc14 pm14 cd14 ct14 : Value} {f14 : Addr}
    {od15 an15 : Option Addr} {sl15 : Array (Option Value)} {oc15 kV15 dc15 pm15 cd15 ct15 : Value} {f15 : Addr}
    {od16 an16 : Option Addr} {sl16 : Array (Option Value)} {oc16 kV16 dc16 pm16 cd16 ct16 : Value} {f16 : Addr}
    {od17 an17 : Option Addr} {sl17 : Array (Option Value)} {oc17 kV17 dc17 pm17 cd17 ct17 : Value} {f17 : Addr}
    {od18 an18 : Option Addr} {sl18 : Array (Option Value)} {oc18 kV18 dc18 pm18 cd18 ct18 : Value} {f18 : Addr}
    {od19 an19 : Option Addr} {sl19 : Array (Option Value)} {oc19 kV19 dc19 pm19 cd19 ct19 : Value} {f19 : Addr}
    {od20 an20 : Option Addr} {sl20 : Array (Option Value)} {oc20 kV20 dc20 pm20 cd20 ct20 : Value} {f20 : Addr}
    {od21 an21 : Option Addr} {sl21 : Array (Option Value)} {oc21 kV21 dc21 pm21 cd21 ct21 : Value} {f21 : Addr}
    {od22 an22 : Option Addr} {sl22 : Array (Option Value)} {oc22 kV22 dc22 pm22 cd22 ct22 : Value} {f22 : Addr}
    {od23 an23 : Option Addr} {sl23 : Array (Option Value)} {oc23 kV23 dc23 pm23 cd23 ct23 : Value} {f23 : Addr}
    {od24 an24 : Option Addr} {sl24 : Array (Option Value)} {oc24 kV24 dc24 pm24 cd24 ct24 : Value} {f24 : Addr}
    {od25 an25 : Option Addr} {sl25 : Array (Option Value)} {oc25 kV25 dc25 pm25 cd25 ct25 : Value} {f25 : Addr}
    {od26 an26 : Option Addr} {sl26 : Array (Option Value)} {oc26 kV26 dc26 pm26 cd26 ct26 : Value} {f26 : Addr}
    {od27 an27 : Option Addr} {sl27 : Array (Option Value)} {oc27 kV27 dc27 pm27 cd27 ct27 : Value} {f27 : Addr}
    {od28 an28 : Option Addr} {sl28 : Array (Option Value)} {oc28 kV28 dc28 pm28 cd28 ct28 : Value} {f28 : Addr}
    {od29 an29 : Option Addr} {sl29 : Array (Option Value)} {oc29 kV29 dc29 pm29 cd29 ct29 : Value} {f29 : Addr}
    {od30 an30 : Option Addr} {sl30 : Array (Option Value)} {oc30 kV30 dc30 pm30 cd30 ct30 : Value} {f30 : Addr}
    {od31 an31 : Option Addr} {sl31 : Array (Option Value)} {oc31 kV31 dc31 pm31 cd31 ct31 : Value} {f31 : Addr}
    {od32 an32 : Option Addr} {sl32 : Array (Option Value)} {oc32 kV32 dc32 pm32 cd32 ct32 : Value} {f32 : Addr}
    {od33 an33 : Option Addr} {sl33 : Array (Option Value)} {oc33 kV33 dc33 pm33 cd33 ct33 : Value} {f33 : Addr}
    {od34 an34 : Option Addr} {sl34 : Array (Option Value)} {oc34 kV34 dc34 pm34 cd34 ct34 : Value} {f34 : Addr}
    {od35 an35 : Option Addr} {sl35 : Array (Option Value)} {oc35 kV35 dc35 pm35 cd35 ct35 : Value} {f35 : Addr}
    {od36 an36 : Option Addr} {sl36 : Array (Option Value)} {oc36 kV36 dc36 pm36 cd36 ct36 : Value} {f36 : Addr}
    {od37 an37 : Option Addr} {sl37 : Array (Option Value)} {oc37 kV37 dc37 pm37 cd37 ct37 : Value} {f37 : Addr}
    {od38 an38 : Option Addr} {sl38 : Array (Option Value)} {oc38 kV38 dc38 pm38 cd38 ct38 : Value} {f38 : Addr}
    (a0 : PySem.W.nsIn K mainGlobals "is_word" = some (some (.ref f0))) (l0 : K.lookup f0 = some ⟨oc0, od0, .func (PySem.W.fnOf "is_word" "is_word" (defArgs s_is_word) (defBody s_is_word) (defScope s_is_word) .none kV0 dc0 pm0 an0 cd0 ct0), sl0⟩) (c0 : PySem.W.codeIn K cd0 "is_word" = true) (k0 : PySem.W.keepIn K (.ref f0) = true)
    (a1 : PySem.W.nsIn K mainGlobals "is_place" = some (some (.ref f1))) (l1 : K.lookup f1 = some ⟨oc1, od1, .func (PySem.W.fnOf "is_place" "is_place" (defArgs s_is_place) (defBody s_is_place) (defScope s_is_place) .none kV1 dc1 pm1 an1 cd1 ct1), sl1⟩) (c1 : PySem.W.codeIn K cd1 "is_place" = true) (k1 : PySem.W.keepIn K (.ref f1) = true)
    (a2 : PySem.W.nsIn K mainGlobals "turn" = some (some (.ref f2))) (l2 : K.lookup f2 = some ⟨oc2, od2, .func (PySem.W.fnOf "turn" "turn" (defArgs s_turn) (defBody s_turn) (defScope s_turn) .none kV2 dc2 pm2 an2 cd2 ct2), sl2⟩) (c2 : PySem.W.codeIn K cd2 "turn" = true) (k2 : PySem.W.keepIn K (.ref f2) = true)
    (a3 : PySem.W.nsIn K mainGlobals "step" = some (some (.ref f3))) (l3 : K.lookup f3 = some ⟨oc3, od3, .func (PySem.W.fnOf "step" "step" (defArgs s_step) (defBody s_step) (defScope s_step) .none kV3 dc3 pm3 an3 cd3 ct3), sl3⟩) (c3 : PySem.W.codeIn K cd3 "step" = true) (k3 : PySem.W.keepIn K (.ref f3) = true)
    (a4 : PySem.W.nsIn K mainGlobals "follow" = some (some (.ref f4))) (l4 : K.lookup f4 = some ⟨oc4, od4, .func (PySem.W.fnOf "follow" "follow" (defArgs s_follow) (defBody s_follow) (defScope s_follow) .none kV4 dc4 pm4 an4 cd4 ct4), sl4⟩) (c4 : PySem.W.codeIn K cd4 "follow" = true) (k4 : PySem.W.keepIn K (.ref f4) = true)
    (a5 : PySem.W.nsIn K mainGlobals "in_order" = some (some (.ref f5))) (l5 : K.lookup f5 = some ⟨oc5, od5, .func (PySem.W.fnOf "in_order" "in_order" (defArgs s_in_order) (defBody s_in_order) (defScope s_in_order) .none kV5 dc5 pm5 an5 cd5 ct5), sl5⟩) (c5 : PySem.W.codeIn K cd5 "in_order" = true) (k5 : PySem.W.keepIn K (.ref f5) = true)
    (a6 : PySem.W.nsIn K mainGlobals "are_places_of_tread" = some (some (.ref f6))) (l6 : K.lookup f6 = some ⟨oc6, od6, .func (PySem.W.fnOf "are_places_of_tread" "are_places_of_tread" (defArgs s_are_places_of_tread) (defBody s_are_places_of_tread) (defScope s_are_places_of_tread) .none kV6 dc6 pm6 an6 cd6 ct6), sl6⟩) (c6 : PySem.W.codeIn K cd6 "are_places_of_tread" = true) (k6 : PySem.W.keepIn K (.ref f6) = true)
    (a7 : PySem.W.nsIn K mainGlobals "is_tread" = some (some (.ref f7))) (l7 : K.lookup f7 = some ⟨oc7, od7, .func (PySem.W.fnOf "is_tread" "is_tread" (defArgs s_is_tread) (defBody s_is_tread) (defScope s_is_tread) .none kV7 dc7 pm7 an7 cd7 ct7), sl7⟩) (c7 : PySem.W.codeIn K cd7 "is_tread" = true) (k7 : PySem.W.keepIn K (.ref f7) = true)
    (a8 : PySem.W.nsIn K mainGlobals "check_tread" = some (some (.ref f8))) (l8 : K.lookup f8 = some ⟨oc8, od8, .func (PySem.W.fnOf "check_tread" "check_tread" (defArgs s_check_tread) (defBody s_check_tread) (defScope s_check_tread) .none kV8 dc8 pm8 an8 cd8 ct8), sl8⟩) (c8 : PySem.W.codeIn K cd8 "check_tread" = true) (k8 : PySem.W.keepIn K (.ref f8) = true)
    (a9 : PySem.W.nsIn K mainGlobals "letter_toward" = some (some (.ref f9))) (l9 : K.lookup f9 = some ⟨oc9, od9, .func (PySem.W.fnOf "letter_toward" "letter_toward" (defArgs s_letter_toward) (defBody s_letter_toward) (defScope s_letter_toward) .none kV9 dc9 pm9 an9 cd9 ct9), sl9⟩) (c9 : PySem.W.codeIn K cd9 "letter_toward" = true) (k9 : PySem.W.keepIn K (.ref f9) = true)
    (a10 : PySem.W.nsIn K mainGlobals "places_on_ways" = some (some (.ref f10))) (l10 : K.lookup f10 = some ⟨oc10, od10, .func (PySem.W.fnOf "places_on_ways" "places_on_ways" (defArgs s_places_on_ways) (defBody s_places_on_ways) (defScope s_places_on_ways) .none kV10 dc10 pm10 an10 cd10 ct10), sl10⟩) (c10 : PySem.W.codeIn K cd10 "places_on_ways" = true) (k10 : PySem.W.keepIn K (.ref f10) = true)
    (a11 : PySem.W.nsIn K mainGlobals "places_behind" = some (some (.ref f11))) (l11 : K.lookup f11 = some ⟨oc11, od11, .func (PySem.W.fnOf "places_behind" "places_behind" (defArgs s_places_behind) (defBody s_places_behind) (defScope s_places_behind) .none kV11 dc11 pm11 an11 cd11 ct11), sl11⟩) (c11 : PySem.W.codeIn K cd11 "places_behind" = true) (k11 : PySem.W.keepIn K (.ref f11) = true)
    (a12 : PySem.W.nsIn K mainGlobals "has_all" = some (some (.ref f12))) (l12 : K.lookup f12 = some ⟨oc12, od12, .func (PySem.W.fnOf "has_all" "has_all" (defArgs s_has_all) (defBody s_has_all) (defScope s_has_all) .none kV12 dc12 pm12 an12 cd12 ct12), sl12⟩) (c12 : PySem.W.codeIn K cd12 "has_all" = true) (k12 : PySem.W.keepIn K (.ref f12) = true)
    (a13 : PySem.W.nsIn K mainGlobals "seen" = some (some (.ref f13))) (l13 : K.lookup f13 = some ⟨oc13, od13, .func (PySem.W.fnOf "seen" "seen" (defArgs s_seen) (defBody s_seen) (defScope s_seen) .none kV13 dc13 pm13 an13 cd13 ct13), sl13⟩) (c13 : PySem.W.codeIn K cd13 "seen" = true) (k13 : PySem.W.keepIn K (.ref f13) = true)
    (a14 : PySem.W.nsIn K mainGlobals "check_equation" = some (some (.ref f14))) (l14 : K.lookup f14 = some ⟨oc14, od14, .func (PySem.W.fnOf "check_equation" "check_equation" (defArgs s_check_equation) (defBody s_check_equation) (defScope s_check_equation) .none kV14 dc14 pm14 an14 cd14 ct14), sl14⟩) (c14 : PySem.W.codeIn K cd14 "check_equation" = true) (k14 : PySem.W.keepIn K (.ref f14) = true)
    (a15 : PySem.W.nsIn K mainGlobals "least_and_most" = some (some (.ref f15))) (l15 : K.lookup f15 = some ⟨oc15, od15, .func (PySem.W.fnOf "least_and_most" "least_and_most" (defArgs s_least_and_most) (defBody s_least_and_most) (defScope s_least_and_most) .none kV15 dc15 pm15 an15 cd15 ct15), sl15⟩) (c15 : PySem.W.codeIn K cd15 "least_and_most" = true) (k15 : PySem.W.keepIn K (.ref f15) = true)
    (a16 : PySem.W.nsIn K mainGlobals "choices_above" = some (some (.ref f16))) (l16 : K.lookup f16 = some ⟨oc16, od16, .func (PySem.W.fnOf "choices_above" "choices_above" (defArgs s_choices_above) (defBody s_choices_above) (defScope s_choices_above) .none kV16 dc16 pm16 an16 cd16 ct16), sl16⟩) (c16 : PySem.W.codeIn K cd16 "choices_above" = true) (k16 : PySem.W.keepIn K (.ref f16) = true)
    (a17 : PySem.W.nsIn K mainGlobals "count_between" = some (some (.ref f17))) (l17 : K.lookup f17 = some ⟨oc17, od17, .func (PySem.W.fnOf "count_between" "count_between" (defArgs s_count_between) (defBody s_count_between) (defScope s_count_between) .none kV17 dc17 pm17 an17 cd17 ct17), sl17⟩) (c17 : PySem.W.codeIn K cd17 "count_between" = true) (k17 : PySem.W.keepIn K (.ref f17) = true)
    (a18 : PySem.W.nsIn K mainGlobals "solutions" = some (some (.ref f18))) (l18 : K.lookup f18 = some ⟨oc18, od18, .func (PySem.W.fnOf "solutions" "solutions" (defArgs s_solutions) (defBody s_solutions) (defScope s_solutions) .none kV18 dc18 pm18 an18 cd18 ct18), sl18⟩) (c18 : PySem.W.codeIn K cd18 "solutions" = true) (k18 : PySem.W.keepIn K (.ref f18) = true)
    (a19 : PySem.W.nsIn K mainGlobals "_law_open" = some (some (.ref f19))) (l19 : K.lookup f19 = some ⟨oc19, od19, .func (PySem.W.fnOf "_law_open" "_law_open" (defArgs s__law_open) (defBody s__law_open) (defScope s__law_open) .none kV19 dc19 pm19 an19 cd19 ct19), sl19⟩) (c19 : PySem.W.codeIn K cd19 "_law_open" = true) (k19 : PySem.W.keepIn K (.ref f19) = true)
    (a20 : PySem.W.nsIn K mainGlobals "_law_spread" = some (some (.ref f20))) (l20 : K.lookup f20 = some ⟨oc20, od20, .func (PySem.W.fnOf "_law_spread" "_law_spread" (defArgs s__law_spread) (defBody s__law_spread) (defScope s__law_spread) .none kV20 dc20 pm20 an20 cd20 ct20), sl20⟩) (c20 : PySem.W.codeIn K cd20 "_law_spread" = true) (k20 : PySem.W.keepIn K (.ref f20) = true)
    (a21 : PySem.W.nsIn K mainGlobals "_law_take" = some (some (.ref f21))) (l21 : K.lookup f21 = some ⟨oc21, od21, .func (PySem.W.fnOf "_law_take" "_law_take" (defArgs s__law_take) (defBody s__law_take) (defScope s__law_take) .none kV21 dc21 pm21 an21 cd21 ct21), sl21⟩) (c21 : PySem.W.codeIn K cd21 "_law_take" = true) (k21 : PySem.W.keepIn K (.ref f21) = true)
    (a22 : PySem.W.nsIn K mainGlobals "_law_one_of" = some (some (.ref f22))) (l22 : K.lookup f22 = some ⟨oc22, od22, .func (PySem.W.fnOf "_law_one_of" "_law_one_of" (defArgs s__law_one_of) (defBody s__law_one_of) (defScope s__law_one_of) .none kV22 dc22 pm22 an22 cd22 ct22), sl22⟩) (c22 : PySem.W.codeIn K cd22 "_law_one_of" = true) (k22 : PySem.W.keepIn K (.ref f22) = true)
    (a23 : PySem.W.nsIn K mainGlobals "_law_back" = some (some (.ref f23))) (l23 : K.lookup f23 = some ⟨oc23, od23, .func (PySem.W.fnOf "_law_back" "_law_back" (defArgs s__law_back) (defBody s__law_back) (defScope s__law_back) .none kV23 dc23 pm23 an23 cd23 ct23), sl23⟩) (c23 : PySem.W.codeIn K cd23 "_law_back" = true) (k23 : PySem.W.keepIn K (.ref f23) = true)
    (a24 : PySem.W.nsIn K mainGlobals "_law_behind" = some (some (.ref f24))) (l24 : K.lookup f24 = some ⟨oc24, od24, .func (PySem.W.fnOf "_law_behind" "_law_behind" (defArgs s__law_behind) (defBody s__law_behind) (defScope s__law_behind) .none kV24 dc24 pm24 an24 cd24 ct24), sl24⟩) (c24 : PySem.W.codeIn K cd24 "_law_behind" = true) (k24 : PySem.W.keepIn K (.ref f24) = true)
    (a25 : PySem.W.nsIn K mainGlobals "_law_sorted" = some (some (.ref f25))) (l25 : K.lookup f25 = some ⟨oc25, od25, .func (PySem.W.fnOf "_law_sorted" "_law_sorted" (defArgs s__law_sorted) (defBody s__law_sorted) (defScope s__law_sorted) .none kV25 dc25 pm25 an25 cd25 ct25), sl25⟩) (c25 : PySem.W.codeIn K cd25 "_law_sorted" = true) (k25 : PySem.W.keepIn K (.ref f25) = true)
    (a26 : PySem.W.nsIn K mainGlobals "_law_tread" = some (some (.ref f26))) (l26 : K.lookup f26 = some ⟨oc26, od26, .func (PySem.W.fnOf "_law_tread" "_law_tread" (defArgs s__law_tread) (defBody s__law_tread) (defScope s__law_tread) .none kV26 dc26 pm26 an26 cd26 ct26), sl26⟩) (c26 : PySem.W.codeIn K cd26 "_law_tread" = true) (k26 : PySem.W.keepIn K (.ref f26) = true)
    (a27 : PySem.W.nsIn K mainGlobals "_law_product" = some (some (.ref f27))) (l27 : K.lookup f27 = some ⟨oc27, od27, .func (PySem.W.fnOf "_law_product" "_law_product" (defArgs s__law_product) (defBody s__law_product) (defScope s__law_product) .none kV27 dc27 pm27 an27 cd27 ct27), sl27⟩) (c27 : PySem.W.codeIn K cd27 "_law_product" = true) (k27 : PySem.W.keepIn K (.ref f27) = true)
    (a28 : PySem.W.nsIn K mainGlobals "_law_any_word" = some (some (.ref f28))) (l28 : K.lookup f28 = some ⟨oc28, od28, .func (PySem.W.fnOf "_law_any_word" "_law_any_word" (defArgs s__law_any_word) (defBody s__law_any_word) (defScope s__law_any_word) .none kV28 dc28 pm28 an28 cd28 ct28), sl28⟩) (c28 : PySem.W.codeIn K cd28 "_law_any_word" = true) (k28 : PySem.W.keepIn K (.ref f28) = true)
    (a29 : PySem.W.nsIn K mainGlobals "_law_any_signs" = some (some (.ref f29))) (l29 : K.lookup f29 = some ⟨oc29, od29, .func (PySem.W.fnOf "_law_any_signs" "_law_any_signs" (defArgs s__law_any_signs) (defBody s__law_any_signs) (defScope s__law_any_signs) .none kV29 dc29 pm29 an29 cd29 ct29), sl29⟩) (c29 : PySem.W.codeIn K cd29 "_law_any_signs" = true) (k29 : PySem.W.keepIn K (.ref f29) = true)
    (a30 : PySem.W.nsIn K mainGlobals "_law_any_tread" = some (some (.ref f30))) (l30 : K.lookup f30 = some ⟨oc30, od30, .func (PySem.W.fnOf "_law_any_tread" "_law_any_tread" (defArgs s__law_any_tread) (defBody s__law_any_tread) (defScope s__law_any_tread) .none kV30 dc30 pm30 an30 cd30 ct30), sl30⟩) (c30 : PySem.W.codeIn K cd30 "_law_any_tread" = true) (k30 : PySem.W.keepIn K (.ref f30) = true)
    (a31 : PySem.W.nsIn K mainGlobals "_law_has_all" = some (some (.ref f31))) (l31 : K.lookup f31 = some ⟨oc31, od31, .func (PySem.W.fnOf "_law_has_all" "_law_has_all" (defArgs s__law_has_all) (defBody s__law_has_all) (defScope s__law_has_all) .none kV31 dc31 pm31 an31 cd31 ct31), sl31⟩) (c31 : PySem.W.codeIn K cd31 "_law_has_all" = true) (k31 : PySem.W.keepIn K (.ref f31) = true)
    (a32 : PySem.W.nsIn K mainGlobals "_law_due" = some (some (.ref f32))) (l32 : K.lookup f32 = some ⟨oc32, od32, .func (PySem.W.fnOf "_law_due" "_law_due" (defArgs s__law_due) (defBody s__law_due) (defScope s__law_due) .none kV32 dc32 pm32 an32 cd32 ct32), sl32⟩) (c32 : PySem.W.codeIn K cd32 "_law_due" = true) (k32 : PySem.W.keepIn K (.ref f32) = true)
    (a33 : PySem.W.nsIn K mainGlobals "_law_ways" = some (some (.ref f33))) (l33 : K.lookup f33 = some ⟨oc33, od33, .func (PySem.W.fnOf "_law_ways" "_law_ways" (defArgs s__law_ways) (defBody s__law_ways) (defScope s__law_ways) .none kV33 dc33 pm33 an33 cd33 ct33), sl33⟩) (c33 : PySem.W.codeIn K cd33 "_law_ways" = true) (k33 : PySem.W.keepIn K (.ref f33) = true)
    (a34 : PySem.W.nsIn K mainGlobals "_law_is_solution" = some (some (.ref f34))) (l34 : K.lookup f34 = some ⟨oc34, od34, .func (PySem.W.fnOf "_law_is_solution" "_law_is_solution" (defArgs s__law_is_solution) (defBody s__law_is_solution) (defScope s__law_is_solution) .none kV34 dc34 pm34 an34 cd34 ct34), sl34⟩) (c34 : PySem.W.codeIn K cd34 "_law_is_solution" = true) (k34 : PySem.W.keepIn K (.ref f34) = true)
    (a35 : PySem.W.nsIn K mainGlobals "_law_drawn" = some (some (.ref f35))) (l35 : K.lookup f35 = some ⟨oc35, od35, .func (PySem.W.fnOf "_law_drawn" "_law_drawn" (defArgs s__law_drawn) (defBody s__law_drawn) (defScope s__law_drawn) .none kV35 dc35 pm35 an35 cd35 ct35), sl35⟩) (c35 : PySem.W.codeIn K cd35 "_law_drawn" = true) (k35 : PySem.W.keepIn K (.ref f35) = true)
    (a36 : PySem.W.nsIn K mainGlobals "_law_any_case" = some (some (.ref f36))) (l36 : K.lookup f36 = some ⟨oc36, od36, .func (PySem.W.fnOf "_law_any_case" "_law_any_case" (defArgs s__law_any_case) (defBody s__law_any_case) (defScope s__law_any_case) .none kV36 dc36 pm36 an36 cd36 ct36), sl36⟩) (c36 : PySem.W.codeIn K cd36 "_law_any_case" = true) (k36 : PySem.W.keepIn K (.ref f36) = true)
    (a37 : PySem.W.nsIn K mainGlobals "_law_long_right" = some (some (.ref f37))) (l37 : K.lookup f37 = some ⟨oc37, od37, .func (PySem.W.fnOf "_law_long_right" "_law_long_right" (defArgs s__law_long_right) (defBody s__law_long_right) (defScope s__law_long_right) .none kV37 dc37 pm37 an37 cd37 ct37), sl37⟩) (c37 : PySem.W.codeIn K cd37 "_law_long_right" = true) (k37 : PySem.W.keepIn K (.ref f37) = true)
    (a38 : PySem.W.nsIn K mainGlobals "law" = some (some (.ref f38))) (l38 : K.lookup f38 = some ⟨oc38, od38, .func (PySem.W.fnOf "law" "law" (defArgs s_law) (defBody s_law) (defScope s_law) .none kV38 dc38 pm38 an38 cd38 ct38), sl38⟩) (c38 : PySem.W.codeIn K cd38 "law" = true) (k38 : PySem.W.keepIn K (.ref f38) = true)
    (z_enumerate : PySem.W.nsIn K mainGlobals "enumerate" = some none)
    (z_int : PySem.W.nsIn K mainGlobals "int" = some none)
    (z_isinstance : PySem.W.nsIn K mainGlobals "isinstance" = some none)
    (z_len : PySem.W.nsIn K mainGlobals "len" = some none)
    (z_list : PySem.W.nsIn K mainGlobals "list" = some none)
    (z_range : PySem.W.nsIn K mainGlobals "range" = some none)
    (z_repr : PySem.W.nsIn K mainGlobals "repr" = some none)
    (z_set : PySem.W.nsIn K mainGlobals "set" = some none)
    (z_sorted : PySem.W.nsIn K mainGlobals "sorted" = some none)
    (z_str : PySem.W.nsIn K mainGlobals "str" = some none)
    (z_tuple : PySem.W.nsIn K mainGlobals "tuple" = some none)
    (z_zip : PySem.W.nsIn K mainGlobals "zip" = some none)
    {t_LETTERS : Tok} (v_LETTERS : PySem.W.nsIn K mainGlobals "LETTERS" = some (some (.str "ABCDabcd" t_LETTERS)))
    {t_MOST_PLACES : Tok} (v_MOST_PLACES : PySem.W.nsIn K mainGlobals "MOST_PLACES" = some (some (.int 201 t_MOST_PLACES)))
    {C_NoTread : Addr} (e_NoTread : PySem.W.nsIn K mainGlobals "NoTread" = some (some (.ref C_NoTread)))
    (y_NoTread : PySem.W.excIn K C_NoTread [.type "ValueError", .type "Exception", .type "BaseException", .type "object"] "ValueError.__new__" = true)
    (w_NoTread : excCB K C_NoTread = true) :
    ∃ (fd : FuncData) (ts : List (Str × Addr × Addr × Addr)) (sp : Sp), (∀ t ∈ ts, ((recsOf q).any fun e => e.name == t.1) = true ∧ mg t.1 = some (.ref t.2.1) ∧ tabOf K t.2.1 = some t.2.2) ∧ (∀ (s : Shared) (u : Value), BindsTo s fd ⟨[u], []⟩ [("script", u)]) ∧
      (∀ (H : Hp) (a : Addr) (ns : List Int), ns.length ≤ 63 → (∀ t ∈ ts, H t.2.2.2 = some (.tbl #[])) → SqL K H a (ns.map V.int) → sp [.ref a] H (fun v _ => v = .bl true) E0) ∧
      ∀ base : Heap, K.In base → base.Ns mainGlobals mg → (∀ t ∈ ts, TabB base mg t.2.2.1 t.2.2.2) → FnG l.prog w K mg base CX0 42 fa fd ["script"] sp := by
  have e := hfa.symm.trans (PySem.W.mg_of X G a38)
  cases e
  have T : Txt K mg C_NoTread := ⟨XC.of X G e_NoTread y_NoTread w_NoTread, PySem.W.mg_none_of X G z_enumerate, PySem.W.mg_none_of X G z_int, PySem.W.mg_none_of X G z_isinstance, PySem.W.mg_none_of X G z_len, PySem.W.mg_none_of X G z_list, PySem.W.mg_none_of X G z_range, PySem.W.mg_none_of X G z_repr, PySem.W.mg_none_of X G z_set, PySem.W.mg_none_of X G z_sorted, PySem.W.mg_none_of X G z_str, PySem.W.mg_none_of X G z_tuple, PySem.W.mg_none_of X G z_zip, ⟨_, PySem.W.mg_of X G v_LETTERS, ⟨_, rfl⟩⟩, ⟨_, PySem.W.mg_of X G v_MOST_PLACES, ⟨_, rfl⟩⟩⟩
  have F0 := fun_mk (st := s_is_word) l0 c0 k0
  have b0 := F0.binds (ps := ["thing"]) fun _ _ _ _ _ _ us hl => match us, hl with | [_], _ => rfl
  have F1 := fun_mk (st := s_is_place) l1 c1 k1
  have b1 := F1.binds (ps := ["thing"]) fun _ _ _ _ _ _ us hl => match us, hl with | [_], _ => rfl
  have F2 := fun_mk (st := s_turn) l2 c2 k2
  have b2 := F2.binds (ps := ["word"]) fun _ _ _ _ _ _ us hl => match us, hl with | [_], _ => rfl
  have F3 := fun_mk (st := s_step) l3 c3 k3
  have b3 := F3.binds (ps := ["place", "letter"]) fun _ _ _ _ _ _ us hl => match us, hl with | [_, _], _ => rfl
  have F4 := fun_mk (st := s_follow) l4 c4 k4
  have b4 := F4.binds (ps := ["place", "word"]) fun _ _ _ _ _ _ us hl => match us, hl with | [_, _], _ => rfl
  have F5 := fun_mk (st := s_in_order) l5 c5 k5
  have b5 := F5.binds (ps := ["places"]) fun _ _ _ _ _ _ us hl => match us, hl with | [_], _ => rfl
  have F6 := fun_mk (st := s_are_places_of_tread) l6 c6 k6
  have b6 := F6.binds (ps := ["places"]) fun _ _ _ _ _ _ us hl => match us, hl with | [_], _ => rfl
  have F7 := fun_mk (st := s_is_tread) l7 c7 k7
  have b7 := F7.binds (ps := ["thing"]) fun _ _ _ _ _ _ us hl => match us, hl with | [_], _ => rfl
  have F8 := fun_mk (st := s_check_tread) l8 c8 k8
  have b8 := F8.binds (ps := ["tread"]) fun _ _ _ _ _ _ us hl => match us, hl with | [_], _ => rfl
  have F9 := fun_mk (st := s_letter_toward) l9 c9 k9
  have b9 := F9.binds (ps := ["place", "goal"]) fun _ _ _ _ _ _ us hl => match us, hl with | [_, _], _ => rfl
  have F10 := fun_mk (st := s_places_on_ways) l10 c10 k10
  have b10 := F10.binds (ps := ["start", "goals"]) fun _ _ _ _ _ _ us hl => match us, hl with | [_, _], _ => rfl
  have F11 := fun_mk (st := s_places_behind) l11 c11 k11
  have b11 := F11.binds (ps := ["start", "places"]) fun _ _ _ _ _ _ us hl => match us, hl with | [_, _], _ => rfl
  have F12 := fun_mk (st := s_has_all) l12 c12 k12
  have b12 := F12.binds (ps := ["places", "others"]) fun _ _ _ _ _ _ us hl => match us, hl with | [_, _], _ => rfl
  have F13 := fun_mk (st := s_seen) l13 c13 k13
  have b13 := F13.binds (ps := ["places", "place"]) fun _ _ _ _ _ _ us hl => match us, hl with | [_, _], _ => rfl
  have F14 := fun_mk (st := s_check_equation) l14 c14 k14
  have b14 := F14.binds (ps := ["one", "other", "goal"]) fun _ _ _ _ _ _ us hl => match us, hl with | [_, _, _], _ => rfl
  have F15 := fun_mk (st := s_least_and_most) l15 c15 k15
  have b15 := F15.binds (ps := ["one", "other", "goal"]) fun _ _ _ _ _ _ us hl => match us, hl with | [_, _, _], _ => rfl
  have F16 := fun_mk (st := s_choices_above) l16 c16 k16
  have b16 := F16.binds (ps := ["least", "most"]) fun _ _ _ _ _ _ us hl => match us, hl with | [_, _], _ => rfl
  have F17 := fun_mk (st := s_count_between) l17 c17 k17
  have b17 := F17.binds (ps := ["least", "most"]) fun _ _ _ _ _ _ us hl => match us, hl with | [_, _], _ => rfl
  have F18 := fun_mk (st := s_solutions) l18 c18 k18
  have b18 := F18.binds (ps := ["one", "other", "goal"]) fun _ _ _ _ _ _ us hl => match us, hl with | [_, _, _], _ => rfl
  have F19 := fun_mk (st := s__law_open) l19 c19 k19
  have b19 := F19.binds (ps := ["script"]) fun _ _ _ _ _ _ us hl => match us, hl with | [_], _ => rfl
  have F20 := fun_mk (st := s__law_spread) l20 c20 k20
  have b20 := F20.binds (ps := ["cell", "k"]) fun _ _ _ _ _ _ us hl => match us, hl with | [_, _], _ => rfl
  have F21 := fun_mk (st := s__law_take) l21 c21 k21
  have b21 := F21.binds (ps := ["pen", "many"]) fun _ _ _ _ _ _ us hl => match us, hl with | [_, _], _ => rfl
  have F22 := fun_mk (st := s__law_one_of) l22 c22 k22
  have b22 := F22.binds (ps := ["pen", "some"]) fun _ _ _ _ _ _ us hl => match us, hl with | [_, _], _ => rfl
  have F23 := fun_mk (st := s__law_back) l23 c23 k23
  have b23 := F23.binds (ps := ["word"]) fun _ _ _ _ _ _ us hl => match us, hl with | [_], _ => rfl
  have F24 := fun_mk (st := s__law_behind) l24 c24 k24
  have b24 := F24.binds (ps := ["place", "word"]) fun _ _ _ _ _ _ us hl => match us, hl with | [_, _], _ => rfl
  have F25 := fun_mk (st := s__law_sorted) l25 c25 k25
  have b25 := F25.binds (ps := ["places"]) fun _ _ _ _ _ _ us hl => match us, hl with | [_], _ => rfl
  have F26 := fun_mk (st := s__law_tread) l26 c26 k26
  have b26 := F26.binds (ps := ["word"]) fun _ _ _ _ _ _ us hl => match us, hl with | [_], _ => rfl
  have F27 := fun_mk (st := s__law_product) l27 c27 k27
  have b27 := F27.binds (ps := ["one", "other"]) fun _ _ _ _ _ _ us hl => match us, hl with | [_, _], _ => rfl
  have F28 := fun_mk (st := s__law_any_word) l28 c28 k28
  have b28 := F28.binds (ps := ["pen", "most", "signs"]) fun _ _ _ _ _ _ us hl => match us, hl with | [_, _, _], _ => rfl
  have F29 := fun_mk (st := s__law_any_signs) l29 c29 k29
  have b29 := F29.binds (ps := ["pen"]) fun _ _ _ _ _ _ us hl => match us, hl with | [_], _ => rfl
  have F30 := fun_mk (st := s__law_any_tread) l30 c30 k30
  have b30 := F30.binds (ps := ["pen", "most", "signs"]) fun _ _ _ _ _ _ us hl => match us, hl with | [_, _, _], _ => rfl
  have F31 := fun_mk (st := s__law_has_all) l31 c31 k31
  have b31 := F31.binds (ps := ["one", "other"]) fun _ _ _ _ _ _ us hl => match us, hl with | [_, _], _ => rfl
  have F32 := fun_mk (st := s__law_due) l32 c32 k32
  have b32 := F32.binds (ps := ["one", "other", "goal"]) fun _ _ _ _ _ _ us hl => match us, hl with | [_, _, _], _ => rfl
  have F33 := fun_mk (st := s__law_ways) l33 c33 k33
  have b33 := F33.binds (ps := ["places", "place", "kept"]) fun _ _ _ _ _ _ us hl => match us, hl with | [_, _, _], _ => rfl
  have F34 := fun_mk (st := s__law_is_solution) l34 c34 k34
  have b34 := F34.binds (ps := ["one", "other", "goal", "x"]) fun _ _ _ _ _ _ us hl => match us, hl with | [_, _, _, _], _ => rfl
  have F35 := fun_mk (st := s__law_drawn) l35 c35 k35
  have b35 := F35.binds (ps := ["pen", "least", "most"]) fun _ _ _ _ _ _ us hl => match us, hl with | [_, _, _], _ => rfl
  have F36 := fun_mk (st := s__law_any_case) l36 c36 k36
  have b36 := F36.binds (ps := ["pen"]) fun _ _ _ _ _ _ us hl => match us, hl with | [_], _ => rfl
  have F37 := fun_mk (st := s__law_long_right) l37 c37 k37
  have b37 := F37.binds (ps := ["pen"]) fun _ _ _ _ _ _ us hl => match us, hl with | [_], _ => rfl
  have F38 := fun_mk (st := s_law) l38 c38 k38
  have b38 := F38.binds (ps := ["script"]) fun _ _ _ _ _ _ us hl => match us, hl with | [_], _ => rfl
  refine ⟨PySem.W.fnOf "law" "law" (defArgs s_law) (defBody s_law) (defScope s_law) .none kV38 dc38 pm38 an38 cd38 ct38, [], spLaw0 K, fun t ht => ?_, fun s v => .of_eq rfl, fun H a ns hl hH hS => ?_, fun base _ _ TB => ?_⟩
  · exact absurd ht (by simp)
  · exact ⟨a, ns, rfl, hS, hl, fun _ => rfl⟩
  have D_is_word := ok_is_word (P := l.prog) (w := w) (base := base) T F0 (PySem.W.mg_of X G a0) b0
  have D_is_place := ok_is_place (P := l.prog) (w := w) (base := base) T D_is_word F1 (PySem.W.mg_of X G a1) b1
  have D_turn := ok_turn (P := l.prog) (w := w) (base := base) T F2 (PySem.W.mg_of X G a2) b2
  have D_step := ok_step (P := l.prog) (w := w) (base := base) T F3 (PySem.W.mg_of X G a3) b3
  have D_follow := ok_follow (P := l.prog) (w := w) (base := base) T D_step F4 (PySem.W.mg_of X G a4) b4
  have D_in_order := ok_in_order (P := l.prog) (w := w) (base := base) T F5 (PySem.W.mg_of X G a5) b5
  have D_are_places_of_tread := ok_are_places_of_tread (P := l.prog) (w := w) (base := base) T D_in_order D_is_place F6 (PySem.W.mg_of X G a6) b6
  have D_is_tread := ok_is_tread (P := l.prog) (w := w) (base := base) T D_are_places_of_tread F7 (PySem.W.mg_of X G a7) b7
  have D_check_tread := ok_check_tread (P := l.prog) (w := w) (base := base) T D_is_tread F8 (PySem.W.mg_of X G a8) b8
  have D_letter_toward := ok_letter_toward (P := l.prog) (w := w) (base := base) T F9 (PySem.W.mg_of X G a9) b9
  have D_places_on_ways := ok_places_on_ways (P := l.prog) (w := w) (base := base) T D_step D_letter_toward F10 (PySem.W.mg_of X G a10) b10
  have D_places_behind := ok_places_behind (P := l.prog) (w := w) (base := base) T D_step F11 (PySem.W.mg_of X G a11) b11
  have D_has_all := ok_has_all (P := l.prog) (w := w) (base := base) T F12 (PySem.W.mg_of X G a12) b12
  have D_seen := ok_seen (P := l.prog) (w := w) (base := base) T D_in_order D_places_behind D_turn F13 (PySem.W.mg_of X G a13) b13
  have D_check_equation := ok_check_equation (P := l.prog) (w := w) (base := base) T D_check_tread F14 (PySem.W.mg_of X G a14) b14
  have D_least_and_most := ok_least_and_most (P := l.prog) (w := w) (base := base) T D_seen D_in_order D_places_on_ways D_follow D_turn D_has_all D_places_behind F15 (PySem.W.mg_of X G a15) b15
  have D_choices_above := ok_choices_above (P := l.prog) (w := w) (base := base) T F16 (PySem.W.mg_of X G a16) b16
  have D_count_between := ok_count_between (P := l.prog) (w := w) (base := base) T D_choices_above F17 (PySem.W.mg_of X G a17) b17
  have D_solutions := ok_solutions (P := l.prog) (w := w) (base := base) T D_count_between D_least_and_most D_check_equation F18 (PySem.W.mg_of X G a18) b18
  have D__law_open := ok__law_open (P := l.prog) (w := w) (base := base) T F19 (PySem.W.mg_of X G a19) b19
  have D__law_spread := ok__law_spread (P := l.prog) (w := w) (base := base) T F20 (PySem.W.mg_of X G a20) b20
  have D__law_take := ok__law_take (P := l.prog) (w := w) (base := base) T D__law_spread F21 (PySem.W.mg_of X G a21) b21
  have D__law_one_of := ok__law_one_of (P := l.prog) (w := w) (base := base) T D__law_take F22 (PySem.W.mg_of X G a22) b22
  have D__law_back := ok__law_back (P := l.prog) (w := w) (base := base) T F23 (PySem.W.mg_of X G a23) b23
  have D__law_behind := ok__law_behind (P := l.prog) (w := w) (base := base) T F24 (PySem.W.mg_of X G a24) b24
  have D__law_sorted := ok__law_sorted (P := l.prog) (w := w) (base := base) T F25 (PySem.W.mg_of X G a25) b25
  have D__law_tread := ok__law_tread (P := l.prog) (w := w) (base := base) T D__law_behind D__law_sorted F26 (PySem.W.mg_of X G a26) b26
  have D__law_product := ok__law_product (P := l.prog) (w := w) (base := base) T D__law_behind D__law_sorted F27 (PySem.W.mg_of X G a27) b27
  have D__law_any_word := ok__law_any_word (P := l.prog) (w := w) (base := base) T D__law_take D__law_back F28 (PySem.W.mg_of X G a28) b28
  have D__law_any_signs := ok__law_any_signs (P := l.prog) (w := w) (base := base) T D__law_one_of F29 (PySem.W.mg_of X G a29) b29
  have D__law_any_tread := ok__law_any_tread (P := l.prog) (w := w) (base := base) T D__law_tread D__law_any_word F30 (PySem.W.mg_of X G a30) b30
  have D__law_has_all := ok__law_has_all (P := l.prog) (w := w) (base := base) T F31 (PySem.W.mg_of X G a31) b31
  have D__law_due := ok__law_due (P := l.prog) (w := w) (base := base) T D__law_sorted D__law_has_all D__law_behind D__law_back F32 (PySem.W.mg_of X G a32) b32
  have D__law_ways := ok__law_ways (P := l.prog) (w := w) (base := base) T F33 (PySem.W.mg_of X G a33) b33 40
  have D__law_is_solution := ok__law_is_solution (P := l.prog) (w := w) (base := base) T D__law_product F34 (PySem.W.mg_of X G a34) b34
  have D__law_drawn := ok__law_drawn (P := l.prog) (w := w) (base := base) T D__law_take F35 (PySem.W.mg_of X G a35) b35
  have D__law_any_case := ok__law_any_case (P := l.prog) (w := w) (base := base) T D__law_any_tread D__law_sorted D__law_behind D__law_one_of D__law_take D__law_product D__law_any_signs F36 (PySem.W.mg_of X G a36) b36
  have D__law_long_right := ok__law_long_right (P := l.prog) (w := w) (base := base) T D_solutions D__law_one_of D__law_tread D__law_take F37 (PySem.W.mg_of X G a37) b37
  have D_law := ok_law (P := l.prog) (w := w) (base := base) T D__law_long_right D__law_take D__law_drawn D__law_is_solution D__law_ways D_solutions D__law_due D__law_any_case D__law_open F38 (PySem.W.mg_of X G a38) b38
  exact D_law
end K62
open PySem PySem.W PyProof.Rows
set_option maxHeartbeats 0 in
theorem PySem.Challenge.cw_solvedtreads_k62_solutions_holds : PySem.Challenge.rw_solvedtreads_k62_solutions.Holds := by
  w_on; o_law; k_head; (case hw => w_witness2)
  k_fill
  refine Xia.walkG (l := PySem.Challenge.rw_solvedtreads_k62_solutions) (n := 63) (k := 42) (x := "script") rfl (by decide) rfl ⟨rfl, by decide, by decide⟩ (fun w h Y => PySem.W.kIn_of Y) ?F
  case F =>
    intro w mg fa h KX G hmg
    refine' K62.all_mk KX G hmg ?a0 ?l0 ?c0 ?k0 ?a1 ?l1 ?c1 ?k1 ?a2 ?l2 ?c2 ?k2 ?a3 ?l3 ?c3 ?k3 ?a4 ?l4 ?c4 ?k4 ?a5 ?l5 ?c5 ?k5 ?a6 ?l6 ?c6 ?k6 ?a7 ?l7 ?c7 ?k7 ?a8 ?l8 ?c8 ?k8 ?a9 ?l9 ?c9 ?k9 ?a10 ?l10 ?c10 ?k10 ?a11 ?l11 ?c11 ?k11 ?a12 ?l12 ?c12 ?k12 ?a13 ?l13 ?c13 ?k13 ?a14 ?l14 ?c14 ?k14 ?a15 ?l15 ?c15 ?k15 ?a16 ?l16 ?c16 ?k16 ?a17 ?l17 ?c17 ?k17 ?a18 ?l18 ?c18 ?k18 ?a19 ?l19 ?c19 ?k19 ?a20 ?l20 ?c20 ?k20 ?a21 ?l21 ?c21 ?k21 ?a22 ?l22 ?c22 ?k22 ?a23 ?l23 ?c23 ?k23 ?a24 ?l24 ?c24 ?k24 ?a25 ?l25 ?c25 ?k25 ?a26 ?l26 ?c26 ?k26 ?a27 ?l27 ?c27 ?k27 ?a28 ?l28 ?c28 ?k28 ?a29 ?l29 ?c29 ?k29 ?a30 ?l30 ?c30 ?k30 ?a31 ?l31 ?c31 ?k31 ?a32 ?l32 ?c32 ?k32 ?a33 ?l33 ?c33 ?k33 ?a34 ?l34 ?c34 ?k34 ?a35 ?l35 ?c35 ?k35 ?a36 ?l36 ?c36 ?k36 ?a37 ?l37 ?c37 ?k37 ?a38 ?l38 ?c38 ?k38 ?z_enumerate ?z_int ?z_isinstance ?z_len ?z_list ?z_range ?z_repr ?z_set ?z_sorted ?z_str ?z_tuple ?z_zip ?v_LETTERS ?v_MOST_PLACES ?e_NoTread ?y_NoTread ?w_NoTread
    (case a0 => k_is); (case l0 => k_is); (case c0 => k_is); (case k0 => k_is); (case a1 => k_is); (case l1 => k_is); (case c1 => k_is); (case k1 => k_is); (case a2 => k_is); (case l2 => k_is); (case c2 => k_is); (case k2 => k_is); (case a3 => k_is); (case l3 => k_is); (case c3 => k_is); (case k3 => k_is); (case a4 => k_is); (case l4 => k_is); (case c4 => k_is); (case k4 => k_is); (case a5 => k_is); (case l5 => k_is); (case c5 => k_is); (case k5 => k_is); (case a6 => k_is); (case l6 => k_is); (case c6 => k_is); (case k6 => k_is); (case a7 => k_is); (case l7 => k_is); (case c7 => k_is); (case k7 => k_is); (case a8 => k_is); (case l8 => k_is); (case c8 => k_is); (case k8 => k_is); (case a9 => k_is); (case l9 => k_is); (case c9 => k_is); (case k9 => k_is); (case a10 => k_is); (case l10 => k_is); (case c10 => k_is); (case k10 => k_is); (case a11 => k_is); (case l11 => k_is); (case c11 => k_is); (case k11 => k_is); (case a12 => k_is); (case l12 => k_is); (case c12 => k_is); (case k12 => k_is); (case a13 => k_is); (case l13 => k_is); (case c13 => k_is); (case k13 => k_is); (case a14 => k_is); (case l14 => k_is); (case c14 => k_is); (case k14 => k_is); (case a15 => k_is); (case l15 => k_is); (case c15 => k_is); (case k15 => k_is); (case a16 => k_is); (case l16 => k_is); (case c16 => k_is); (case k16 => k_is); (case a17 => k_is); (case l17 => k_is); (case c17 => k_is); (case k17 => k_is); (case a18 => k_is); (case l18 => k_is); (case c18 => k_is); (case k18 => k_is); (case a19 => k_is); (case l19 => k_is); (case c19 => k_is); (case k19 => k_is); (case a20 => k_is); (case l20 => k_is); (case c20 => k_is); (case k20 => k_is); (case a21 => k_is); (case l21 => k_is); (case c21 => k_is); (case k21 => k_is); (case a22 => k_is); (case l22 => k_is); (case c22 => k_is); (case k22 => k_is); (case a23 => k_is); (case l23 => k_is); (case c23 => k_is); (case k23 => k_is); (case a24 => k_is); (case l24 => k_is); (case c24 => k_is); (case k24 => k_is); (case a25 => k_is); (case l25 => k_is); (case c25 => k_is); (case k25 => k_is); (case a26 => k_is); (case l26 => k_is); (case c26 => k_is); (case k26 => k_is); (case a27 => k_is); (case l27 => k_is); (case c27 => k_is); (case k27 => k_is); (case a28 => k_is); (case l28 => k_is); (case c28 => k_is); (case k28 => k_is); (case a29 => k_is); (case l29 => k_is); (case c29 => k_is); (case k29 => k_is); (case a30 => k_is); (case l30 => k_is); (case c30 => k_is); (case k30 => k_is); (case a31 => k_is); (case l31 => k_is); (case c31 => k_is); (case k31 => k_is); (case a32 => k_is); (case l32 => k_is); (case c32 => k_is); (case k32 => k_is); (case a33 => k_is); (case l33 => k_is); (case c33 => k_is); (case k33 => k_is); (case a34 => k_is); (case l34 => k_is); (case c34 => k_is); (case k34 => k_is); (case a35 => k_is); (case l35 => k_is); (case c35 => k_is); (case k35 => k_is); (case a36 => k_is); (case l36 => k_is); (case c36 => k_is); (case k36 => k_is); (case a37 => k_is); (case l37 => k_is); (case c37 => k_is); (case k37 => k_is); (case a38 => k_is); (case l38 => k_is); (case c38 => k_is); (case k38 => k_is); (case z_enumerate => k_is); (case z_int => k_is); (case z_isinstance => k_is); (case z_len => k_is); (case z_list => k_is); (case z_range => k_is); (case z_repr => k_is); (case z_set => k_is); (case z_sorted => k_is); (case z_str => k_is); (case z_tuple => k_is); (case z_zip => k_is); (case v_LETTERS => k_is); (case v_MOST_PLACES => k_is); (case e_NoTread => k_is); (case y_NoTread => k_exc); (case w_NoTread => kernel_rfl)
