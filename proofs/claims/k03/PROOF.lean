import PyProof.Rows.All
import Wide.All
import OpenK.AllK
import Wide.FinOn
import HandS.ForMost
import HandS.ForExc
import HandS.TupAny
import HandS.TupMul
import HandS.IsInst
import HandS.Style
import HandS.Flow
import HandS.Strs
import HandS.Rev
import HandS.Zip
import HandS.EndBits
import HandS.More
import KE.GoesEnum
import PyProof.Rows.SortShellAny
import PySem.Challenge.RW_blazonry_k03_sayings_drawn
set_option Elab.async false
set_option linter.all false
set_option maxRecDepth 100000
namespace Bz
open PySem PySem.Spec PyProof.Rows L2

/-! ### heaps -/
/-- what can't be changed stays -/
def Imm (H H' : Hp) : Prop := (∀ b xs, H b = some (.tup xs) → H' b = some (.tup xs)) ∧ ∀ b o u, H b = some (.frz o u) → H' b = some (.frz o u)
/-- r alone may be changed -/
def Chg (r : Addr) (H H' : Hp) : Prop := Imm H H' ∧ ∀ b o, b ≠ r → H b = some o → H' b = some o
theorem Imm.refl (H : Hp) : Imm H H := ⟨fun _ _ h => h, fun _ _ _ h => h⟩
theorem Imm.trans {H H1 H2 : Hp} (a : Imm H H1) (b : Imm H1 H2) : Imm H H2 := ⟨fun c xs h => b.1 c xs (a.1 c xs h), fun c o u h => b.2 c o u (a.2 c o u h)⟩
theorem imm_of_same {H H' : Hp} (s : Same H H') : Imm H H' := ⟨fun b xs h => s b _ h, fun b o u h => s b _ h⟩
theorem Chg.refl (r : Addr) (H : Hp) : Chg r H H := ⟨Imm.refl H, fun _ _ _ h => h⟩
theorem Chg.trans {r : Addr} {H H1 H2 : Hp} (a : Chg r H H1) (b : Chg r H1 H2) : Chg r H H2 := ⟨a.1.trans b.1, fun c o n h => b.2 c o n (a.2 c o n h)⟩
theorem chg_of_same {r : Addr} {H H' : Hp} (s : Same H H') : Chg r H H' := ⟨imm_of_same s, fun b o _ h => s b o h⟩
theorem same_new {H : Hp} {p : Addr} {o : HO} (n : H p = none) : Same H (upd H p o) := fun b x e => by
  rw [upd_ne (ne_of_none e n)]; exact e
theorem same_upd {H0 H : Hp} {p : Addr} {o : HO} (s : Same H0 H) (n : H0 p = none) : Same H0 (upd H p o) := fun b x e => by
  rw [upd_ne (ne_of_none e n)]; exact s _ _ e
theorem chg_upd {r : Addr} {H0 H : Hp} {p : Addr} {o : HO} (s : Chg r H0 H) (n : H0 p = none) : Chg r H0 (upd H p o) :=
  ⟨⟨fun b xs e => by rw [upd_ne (ne_of_none e n)]; exact s.1.1 _ _ e, fun b x u e => by rw [upd_ne (ne_of_none e n)]; exact s.1.2 _ _ _ e⟩,
   fun b x nb e => by rw [upd_ne (ne_of_none e n)]; exact s.2 _ _ nb e⟩
/-- a list is written -/
theorem chg_lst {H : Hp} {r : Addr} {xs : List V} {o : HO} (h : H r = some (.lst xs)) : Chg r H (upd H r o) :=
  ⟨⟨fun b ys e => by rw [upd_ne (ne_of e h (by intro z; cases z))]; exact e, fun b x u e => by rw [upd_ne (ne_of e h (by intro z; cases z))]; exact e⟩,
   fun b x nb e => by rw [upd_ne nb]; exact e⟩
theorem Imm.sqT {K : PySem.W.Frag} {H H' : Hp} {a : Addr} {xs : List V} (e : Imm H H') (h : SqT K H a xs) : SqT K H' a xs := by
  rcases h with (h | ⟨o, h⟩) | h
  · exact .inl (.inl (e.1 _ _ h))
  · exact .inl (.inr ⟨o, e.2 _ _ _ h⟩)
  · exact .inr h
/-- a list that nobody writes -/
def SqF (K : PySem.W.Frag) (H : Hp) (a : Addr) (xs : List V) : Prop :=
  (∃ o, H a = some (.frz o (.lst xs))) ∨
    ∃ (o : Obj) (its : Array Value) (n : Nat), K.lookup a = some o ∧ o.cls = .type "list" ∧ o.dict = none ∧ o.data = .seq its n ∧ its.size ≤ sizeLine ∧ Vals xs its.toList
theorem SqF.seq {K : PySem.W.Frag} {H : Hp} {a : Addr} {xs : List V} (h : SqF K H a xs) : SqL K H a xs := by
  rcases h with ⟨o, h⟩ | h
  · exact .inl (.inr ⟨o, h⟩)
  · exact .inr h
theorem Imm.sqF {K : PySem.W.Frag} {H H' : Hp} {a : Addr} {xs : List V} (e : Imm H H') (h : SqF K H a xs) : SqF K H' a xs := by
  rcases h with ⟨o, h⟩ | h
  · exact .inl ⟨o, e.2 _ _ _ h⟩
  · exact .inr h
theorem sqF_of {K : PySem.W.Frag} {H : Hp} {a : Addr} {xs : List V} (o : Only H) (h : SqL K H a xs) : SqF K H a xs := by
  rcases h with (h | h) | h
  · rcases o a with q | ⟨o, ys, q⟩
    · rw [q] at h; cases h
    · rw [q] at h; cases h
  · exact .inl h
  · exact .inr h

theorem Chg.imm {r : Addr} {H H' : Hp} (c : Chg r H H') : Imm H H' := c.1
theorem SqF.chg {K : PySem.W.Frag} {H H' : Hp} {a r : Addr} {xs : List V} (h : SqF K H a xs) (e : Chg r H H') : SqF K H' a xs := e.1.sqF h
theorem SqF.same {K : PySem.W.Frag} {H H' : Hp} {a : Addr} {xs : List V} (h : SqF K H a xs) (e : Same H H') : SqF K H' a xs := (imm_of_same e).sqF h
/-- the reader of a script: the list at r -/
def Row (K : PySem.W.Frag) (H : Hp) (r : Addr) : Prop :=
  ∃ (s : Addr) (ns : List Int) (i m g : Int), H r = some (.lst [.ref s, .int i, .int m, .int g]) ∧ SqF K H s (ns.map V.int) ∧ 0 ≤ i ∧ 0 ≤ m ∧ m < 2147483647 ∧ 0 ≤ g ∧ ns.length ≤ 1000
theorem Row.same {K : PySem.W.Frag} {H H' : Hp} {r : Addr} (s : Same H H') (h : Row K H r) : Row K H' r := by
  obtain ⟨a, ns, i, m, g, h1, h2, h3⟩ := h
  exact ⟨a, ns, i, m, g, s _ _ h1, (imm_of_same s).sqF h2, h3⟩
theorem Row.lst {K : PySem.W.Frag} {H : Hp} {r : Addr} (h : Row K H r) : ∃ xs, H r = some (.lst xs) := by
  obtain ⟨a, ns, i, m, g, h1, _⟩ := h
  exact ⟨_, h1⟩
theorem Row.ne {K : PySem.W.Frag} {H : Hp} {r D : Addr} (h : Row K H r) (n : H D = none) : D ≠ r := by
  obtain ⟨xs, e⟩ := h.lst
  exact (ne_of_none e n).symm

/-! ### readings -/
section
variable {σ : L2.St} {H : Hp} {Q : VK}
theorem rVar {i : Nat} {v : V} (h : σ[i]? = some (some v)) (q : Q v H) : tVar i σ H Q := ⟨v, h, q⟩
theorem rC {v : V} (q : Q v H) : tC v σ H Q := q
theorem rOp {r : R2} {ta tb : TE} (h : ta σ H fun x H1 => tb σ H1 fun y H2 => r x y H2 Q) : tOp r ta tb σ H Q := h
theorem rUn {r : V → Hp → VK → Prop} {ta : TE} (h : ta σ H fun x H1 => r x H1 Q) : tUn r ta σ H Q := h
theorem rI0_ {g : Int → Int → V} {i j : Int} (q : Q (g i j) H) : rI0 g (.int i) (.int j) H Q := ⟨i, j, rfl, rfl, q⟩
theorem rI_ {C : Int → Int → Prop} {g : Int → Int → V} {i j : Int} (c : C i j) (q : Q (g i j) H) : rI C g (.int i) (.int j) H Q := ⟨i, j, rfl, rfl, c, q⟩
theorem rEq_ {x y : V} (c : scal x y = true) (q : Q (.bl (decide (x = y))) H) : rEq x y H Q := ⟨c, q⟩
theorem rNe_ {x y : V} (c : scal x y = true) (q : Q (.bl (!decide (x = y))) H) : rNe x y H Q := ⟨c, q⟩
theorem rIxL_ {K : PySem.W.Frag} {p : Addr} {xs : List V} {i : Int} {v : V} (h : SqL K H p xs) (e : atI xs i = some v) (q : Q v H) : rIxL K (.ref p) (.int i) H Q := ⟨p, xs, i, v, rfl, rfl, h, e, q⟩
theorem rIxT_ {K : PySem.W.Frag} {p : Addr} {xs : List V} {i : Int} {v : V} (h : SqT K H p xs) (e : atI xs i = some v) (q : Q v H) : rIxT K (.ref p) (.int i) H Q := ⟨p, xs, i, v, rfl, rfl, h, e, q⟩
theorem rNil {QA : List V → Hp → Prop} (q : QA [] H) : tNil σ H QA := q
theorem rCons {ta : TE} {tr : TA} {QA : List V → Hp → Prop} (h : ta σ H fun x H1 => tr σ H1 fun xs H2 => QA (x :: xs) H2) : tCons ta tr σ H QA := h
/-- a new tuple, a new list -/
def NewT (Q : VK) (xs : List V) (H : Hp) : Prop := xs.length ≤ sizeLine ∧ ∀ p, H p = none → Q (.ref p) (upd H p (.tup xs))
def NewL (Q : VK) (xs : List V) (H : Hp) : Prop := xs.length ≤ sizeLine ∧ ∀ p, H p = none → Q (.ref p) (upd H p (.lst xs))
theorem rTup {t : TA} (h : t σ H (NewT Q)) : tTup t σ H Q := h
theorem rLst {t : TA} (h : t σ H (NewL Q)) : tLst t σ H Q := h
theorem rNewT {xs : List V} (l : xs.length ≤ sizeLine) (q : ∀ p H2, H p = none → Same H H2 → H2 p = some (.tup xs) → Q (.ref p) H2) : NewT Q xs H := ⟨l, fun p n => q p _ n (same_new n) upd_same⟩
theorem rNewL {xs : List V} (l : xs.length ≤ sizeLine) (q : ∀ p H2, H p = none → Same H H2 → H2 p = some (.lst xs) → Q (.ref p) H2) : NewL Q xs H := ⟨l, fun p n => q p _ n (same_new n) upd_same⟩
theorem rCall {sp : Sp} {dvs : List V} {E : XK} {t : TA} (h : t σ H fun vs H1 => sp (vs ++ dvs) H1 Q E) : tCall sp dvs E t σ H Q := h
theorem rCB {r : List V → Hp → VK → Prop} {t : TA} (h : t σ H fun vs H1 => r vs H1 Q) : tCB r t σ H Q := h
theorem rTest {t : TE} {QB : Bool → Hp → Prop} (h : t σ H fun x H' => ∃ k, x = .bl k ∧ QB k H') : tTest t σ H QB := h
theorem rB {t : TE} {QB : Bool → Hp → Prop} (h : t σ H fun x H' => ∃ k, x = .bl k ∧ QB k H') : tB t σ H QB := h
theorem rBl {b : Bool} {QB : Bool → Prop} (q : QB b) : ∃ k, V.bl b = .bl k ∧ QB k := ⟨b, rfl, q⟩
theorem rSeq {t u : TS} {D : Ends} (h : t { D with nx := u D } σ H) : tSeq t u D σ H := h
theorem rAsg {te : TE} {g : TG} {D : Ends} (h : te σ H fun x H1 => g x σ H1 D.nx) : tAsg te g D σ H := h
theorem rName {i : Nat} {v : V} {QS : L2.St → Hp → Prop} (q : QS (σ.set i (some v)) H) : gName i v σ H QS := q
theorem rSub {to ti : TE} {t : TSet} {v : V} {QS : L2.St → Hp → Prop} (h : to σ H fun o H1 => ti σ H1 fun i H2 => t o i v H2 fun H3 => QS σ H3) : gSub to ti t v σ H QS := h
theorem rSetL_ {p : Addr} {xs : List V} {i : Int} {v : V} {j : Nat} {QH : Hp → Prop} (h : H p = some (.lst xs)) (e : ixN xs.length i = some j) (q : QH (upd H p (.lst (xs.set j v)))) : rSetL (.ref p) (.int i) v H QH := ⟨p, xs, i, j, rfl, rfl, h, e, q⟩
theorem rSetL2 {p : Addr} {xs : List V} {i : Int} {v : V} {j : Nat} {QH : Hp → Prop} (h : H p = some (.lst xs)) (e : ixN xs.length i = some j) (q : ∀ H2, Chg p H H2 → H2 p = some (.lst (xs.set j v)) → QH H2) : rSetL (.ref p) (.int i) v H QH :=
  ⟨p, xs, i, j, rfl, rfl, h, e, q _ (chg_lst h) upd_same⟩
theorem rRet {te : TE} {D : Ends} (h : te σ H D.rt) : tRet te D σ H := h
theorem rDrop {te : TE} {D : Ends} (h : te σ H fun _ H1 => D.nx σ H1) : tDrop te D σ H := h
theorem rIfS {c : TT} {t u : TS} {D : Ends} (h : c σ H fun b H1 => if b = true then t D σ H1 else u D σ H1) : tIfS c t u D σ H := h
theorem rNext {D : Ends} (h : D.nx σ H) : tNext D σ H := h
theorem rIte {p : Prop} {d : Decidable p} {A B : Prop} (h1 : p → A) (h2 : ¬ p → B) : if (@decide p d) = true then A else B := by
  by_cases h : p
  · rw [decide_eq_true h]; exact iteT (h1 h)
  · rw [decide_eq_false h]; exact iteF (h2 h)
theorem rIteN {p : Prop} {d : Decidable p} {A B : Prop} (h1 : ¬ p → A) (h2 : p → B) : if (!(@decide p d)) = true then A else B := by
  by_cases h : p
  · rw [decide_eq_true h]; exact iteF (h2 h)
  · rw [decide_eq_false h]; exact iteT (h1 h)
end
/-- len of a tuple or a list -/
def rLn (K : PySem.W.Frag) : List V → Hp → VK → Prop := fun xs H Q => ∃ x n, xs = [x] ∧ LenV K x H n ∧ Q (.int n) H
theorem z_len {X : Cx} : CallR X (.builtin "len") (rLn X.K) := call_len
theorem rLnT {K : PySem.W.Frag} {H : Hp} {Q : VK} {p : Addr} {xs : List V} (h : SqT K H p xs) (q : Q (.int (xs.length : Nat)) H) : rLn K [.ref p] H Q := ⟨_, _, rfl, .inr ⟨xs, h, rfl⟩, q⟩
theorem rLnL {K : PySem.W.Frag} {H : Hp} {Q : VK} {p : Addr} {xs : List V} (h : SqL K H p xs) (q : Q (.int (xs.length : Nat)) H) : rLn K [.ref p] H Q := ⟨_, _, rfl, .inl ⟨xs, h, rfl⟩, q⟩

/-! ### more readings -/
/-- tuple(x), list(x), int(x) -/
def rTupOf (K : PySem.W.Frag) : List V → Hp → VK → Prop := fun xs H Q => ∃ p ys, xs = [.ref p] ∧ ((SqL K H p ys ∧ ∀ l, H l = none → Q (.ref l) (upd H l (.tup ys))) ∨ (SqT K H p ys ∧ Q (.ref p) H))
theorem z_tuple {X : Cx} : CallR X (.type "tuple") (rTupOf X.K) := call_tuple_of
def rLstOf (K : PySem.W.Frag) : List V → Hp → VK → Prop := fun xs H Q => ∃ p ys, xs = [.ref p] ∧ (SqL K H p ys ∨ SqT K H p ys) ∧ ∀ l, H l = none → Q (.ref l) (upd H l (.lst ys))
theorem z_list {X : Cx} : CallR X (.type "list") (rLstOf X.K) := call_list_of
def rInt1 : List V → Hp → VK → Prop := fun xs H Q => (∃ i, xs = [.int i] ∧ Q (.int i) H) ∨ ∃ k, xs = [.bl k] ∧ Q (.int (if k then 1 else 0)) H
theorem z_int {X : Cx} : CallR X (.type "int") rInt1 := call_int1
def rAbs1 : List V → Hp → VK → Prop := fun xs H Q => ∃ i, xs = [.int i] ∧ Q (.int (if i < 0 then -i else i)) H
theorem z_abs {X : Cx} : CallR X (.builtin "abs") rAbs1 := call_abs
section
variable {σ : L2.St} {H : Hp} {Q : VK} {K : PySem.W.Frag}
theorem rTupL {p : Addr} {ys : List V} (h : SqL K H p ys) (q : ∀ l H2, H l = none → Same H H2 → H2 l = some (.tup ys) → Q (.ref l) H2) : rTupOf K [.ref p] H Q := ⟨p, ys, rfl, .inl ⟨h, fun l n => q l _ n (same_new n) upd_same⟩⟩
theorem rTupT {p : Addr} {ys : List V} (h : SqT K H p ys) (q : Q (.ref p) H) : rTupOf K [.ref p] H Q := ⟨p, ys, rfl, .inr ⟨h, q⟩⟩
theorem rIntI {i : Int} (q : Q (.int i) H) : rInt1 [.int i] H Q := .inl ⟨i, rfl, q⟩
theorem rIntB {b : Bool} (q : Q (.int (if b then 1 else 0)) H) : rInt1 [.bl b] H Q := .inr ⟨b, rfl, q⟩
theorem rAbsI {i : Int} (q : Q (.int (if i < 0 then -i else i)) H) : rAbs1 [.int i] H Q := ⟨i, rfl, q⟩
theorem rInT {x : V} {p : Addr} {xs : List V} (h : SqT K H p xs) (fx : flatV x = true) (fs : xs.all flatV = true) (q : Q (.bl (inV x xs)) H) : rIn K false x (.ref p) H Q := ⟨p, xs, rfl, .inr h, fx, fs, q⟩
theorem rNotInT {x : V} {p : Addr} {xs : List V} (h : SqT K H p xs) (fx : flatV x = true) (fs : xs.all flatV = true) (q : Q (.bl (!inV x xs)) H) : rIn K true x (.ref p) H Q := ⟨p, xs, rfl, .inr h, fx, fs, q⟩
theorem rIfE {t : TT} {ta tb : TE} (h : t σ H fun c H1 => if c = true then ta σ H1 Q else tb σ H1 Q) : tIf t ta tb σ H Q := h
theorem rAnd {t u : TT} {QB : Bool → Hp → Prop} (h : t σ H fun c H1 => if c = true then u σ H1 QB else QB false H1) : tAnd t u σ H QB := h
theorem rOr {t u : TT} {QB : Bool → Hp → Prop} (h : t σ H fun c H1 => if c = true then QB true H1 else u σ H1 QB) : tOr t u σ H QB := h
theorem rNot {t : TT} {QB : Bool → Hp → Prop} (h : t σ H fun c H1 => QB (!c) H1) : tNot t σ H QB := h
theorem rAndV {ta tb : TE} (h : ta σ H fun x H1 => ∃ c, x = .bl c ∧ if c = true then tb σ H1 Q else Q (.bl false) H1) : tAndV ta tb σ H Q := h
theorem rOrV {ta tb : TE} (h : ta σ H fun x H1 => ∃ c, x = .bl c ∧ if c = true then Q (.bl true) H1 else tb σ H1 Q) : tOrV ta tb σ H Q := h
theorem rNotV {ta : TE} (h : ta σ H fun x H1 => ∃ c, x = .bl c ∧ Q (.bl (!c)) H1) : tNotV ta σ H Q := h
theorem rT {c : Bool} {A B : Prop} (hb : c = true) (a : A) : if c = true then A else B := by rw [hb]; exact iteT a
theorem rF {c : Bool} {A B : Prop} (hb : c = false) (b : B) : if c = true then A else B := by rw [hb]; exact iteF b
def ITupQ (K : PySem.W.Frag) (R : It → Hp → Prop) : VK := fun x H1 => ∃ a, x = .ref a ∧ (∃ xs, SqT K H1 a xs) ∧ R (Itt K a) H1
def IListQ (K : PySem.W.Frag) (R : It → Hp → Prop) : VK := fun x H1 => ∃ a, x = .ref a ∧ (∃ xs, SqL K H1 a xs) ∧ R (Itl K a) H1
def IRng1Q (R : It → Hp → Prop) : List V → Hp → Prop := fun vs H1 => ∃ j : Int, vs = [.int j] ∧ -(2 ^ 62) ≤ j ∧ j < 2 ^ 62 ∧ R (Itr 0 j.toNat) H1
theorem rITup {R : It → Hp → Prop} {p : Addr} {xs : List V} (h : SqT K H p xs) (q : R (Itt K p) H) : ITupQ K R (.ref p) H := ⟨p, rfl, ⟨xs, h⟩, q⟩
theorem rIList {R : It → Hp → Prop} {p : Addr} {xs : List V} (h : SqL K H p xs) (q : R (Itl K p) H) : IListQ K R (.ref p) H := ⟨p, rfl, ⟨xs, h⟩, q⟩
theorem rIRng1 {R : It → Hp → Prop} {n : Nat} (l : n ≤ 1000000) (q : R (Itr 0 n) H) : IRng1Q R [V.int (n : Nat)] H := ⟨n, rfl, by omega, by omega, q⟩
theorem riTup {tl : TE} {R : It → Hp → Prop} (h : tl σ H (ITupQ K R)) : iTup K tl σ H R := h
theorem riList {tl : TE} {R : It → Hp → Prop} (h : tl σ H (IListQ K R)) : iList K tl σ H R := h
theorem riRng1 {ta : TA} {R : It → Hp → Prop} (h : ta σ H (IRng1Q R)) : iRng1 ta σ H R := h
theorem rSlice {r : V → Option Int → Option Int → Hp → VK → Prop} {te : TE} {tl th : TO} (h : te σ H fun x H1 => tl σ H1 fun l H2 => th σ H2 fun u H3 => r x l u H3 Q) : tSl r te tl th σ H Q := h
theorem rNoPart {QO : Option Int → Hp → Prop} (q : QO none H) : tNoPart σ H QO := q
theorem rPart {t : TE} {QO : Option Int → Hp → Prop} (h : t σ H fun x H1 => ∃ i, x = .int i ∧ QO (some i) H1) : tPart t σ H QO := h
theorem rPart_ {i : Int} {QI : Int → Prop} (q : QI i) : ∃ j, V.int i = .int j ∧ QI j := ⟨i, rfl, q⟩
/-- t + u: some tuple that holds both -/
theorem rCat {a b : Addr} {xs ys : List V} (ha : SqT K H a xs) (hb : SqT K H b ys) (l : xs.length + ys.length ≤ sizeLine) (q : ∀ p H2, Same H H2 → SqT K H2 p (xs ++ ys) → Q (.ref p) H2) : rCatA K (.ref a) (.ref b) H Q :=
  ⟨a, b, xs, ys, rfl, rfl, ha, hb, l, fun e => q b H (Same.refl H) (by rw [e]; exact hb), fun _ e => q a H (Same.refl H) (by rw [e, List.append_nil]; exact ha), fun _ _ p n => q p _ (same_new n) (SqT.of upd_same)⟩
theorem sIx_zero (n : Nat) : HT.sIx n 0 none = 0 := HT.sIx_none n 0
/-- t[lo:hi]: some tuple of them -/
theorem rSl {a : Addr} {xs : List V} {lo hi : Option Int} (ha : SqT K H a xs) (q : ∀ p H2, Same H H2 → SqT K H2 p (cutV xs lo hi) → Q (.ref p) H2) : rSlA K (.ref a) lo hi H Q := by
  refine ⟨a, xs, rfl, ha, fun e => q a H (Same.refl H) ?_, fun _ p n => q p _ (same_new n) (SqT.of upd_same)⟩
  have : cutV xs lo hi = xs := by
    unfold cutV
    rw [e.1, e.2, List.drop_zero, Nat.sub_zero, List.take_length]
  rw [this]; exact ha
theorem rLc {wi : TI} {g : TG} {tt : TT} {te : TE} {vs : List Nat} (h : wi σ H fun J H1 => ∀ D, H1 D = none → ∃ W : Nat → Nat → Hp → Prop, (∃ m, W 0 m (upd H1 D (.lst []))) ∧ ∀ i m H, W i m H →
  (J.stop i H ∧ Q (.ref D) H) ∨ (J.go i H ∧ ∃ Nx : Hp → Prop, (∀ H', Nx H' → ∃ m', m' < m ∧ W (i + 1) m' H') ∧ ∀ x H', J.yld i H x H' → g x (wipe σ vs) H' fun σ2 H2 => wipe σ2 vs = wipe σ vs ∧ tt σ2 H2 fun b H3 =>
    if b = true then te σ2 H3 fun y H4 => ∃ acc, H4 D = some (.lst acc) ∧ acc.length < sizeLine ∧ Nx (upd H4 D (.lst (acc ++ [y]))) else Nx H3)) : tLc wi g tt te vs σ H Q := h
theorem rYes {QB : Bool → Hp → Prop} (q : QB true H) : tYes σ H QB := q
theorem rFor {wi : TI} {g : TG} {tb : TS} {D : Ends} (h : wi σ H fun J H1 => ∃ W : Nat → Nat → L2.St → Hp → Prop, (∃ m, W 0 m σ H1) ∧ ∀ i m σ H, W i m σ H →
  (J.stop i H ∧ D.nx σ H) ∨ (J.go i H ∧ ∃ N : L2.St → Hp → Prop, (∀ σ' H', N σ' H' → ∃ m', m' < m ∧ W (i + 1) m' σ' H') ∧ ∀ x H', J.yld i H x H' → g x σ H' fun σ2 H2 => tb { D with nx := N, ct := N, bk := D.nx } σ2 H2)) : tFor wi g tb D σ H := h
/-- what a comprehension has made -/
def Made (D : Addr) (Iv : Nat → List V → Hp → Prop) (i : Nat) (H : Hp) : Prop := ∃ acc, H D = some (.lst acc) ∧ acc.length ≤ i ∧ Iv i acc H
theorem made0 {D : Addr} {Iv : Nat → List V → Hp → Prop} {H : Hp} (h : Iv 0 [] (upd H D (.lst []))) : Made D Iv 0 (upd H D (.lst [])) := ⟨[], upd_same, Nat.le_refl _, h⟩
theorem madeS {D : Addr} {Iv : Nat → List V → Hp → Prop} {H : Hp} {i : Nat} {acc : List V} {y : V} (e : H D = some (.lst acc)) (l : acc.length ≤ i) (hi : i < 100000) (h : Iv (i + 1) (acc ++ [y]) (upd H D (.lst (acc ++ [y])))) :
    ∃ acc, H D = some (.lst acc) ∧ acc.length < sizeLine ∧ Made D Iv (i + 1) (upd H D (.lst (acc ++ [y]))) :=
  ⟨acc, e, Nat.lt_of_le_of_lt l (Nat.lt_of_lt_of_le hi (by decide)), _, upd_same, by rw [List.length_append]; simp; exact l, h⟩
theorem atI_lt {xs : List V} {k : Int} (h0 : 0 ≤ k) (h1 : k < xs.length) : ∃ v, atI xs k = some v ∧ v ∈ xs := by
  obtain ⟨n, rfl⟩ := Int.eq_ofNat_of_zero_le h0
  have hlt : n < xs.length := by omega
  exact ⟨xs[n], atI_nat (List.getElem?_eq_getElem hlt), List.getElem_mem hlt⟩
end

/-! ### the mathematics: words, sayings, cells -/
inductive Co | white | yellow | black | blue | green | red
  deriving DecidableEq
inductive Du | party | cut | quartered
  deriving DecidableEq
inductive Pi | pillar | band | head | edge
  deriving DecidableEq
def Co.s : Co → Str
  | .white => "white" | .yellow => "yellow" | .black => "black" | .blue => "blue" | .green => "green" | .red => "red"
def Du.s : Du → Str
  | .party => "party" | .cut => "cut" | .quartered => "quartered"
def Pi.s : Pi → Str
  | .pillar => "pillar" | .band => "band" | .head => "head" | .edge => "edge"
inductive Tr | col (c : Co) | two (d : Du) (a b : Tr) | pc (p : Pi) (c : Co) (b : Tr)
def Tr.wds : Tr → List Str
  | .col c => [c.s]
  | .two d a b => d.s :: (a.wds ++ b.wds)
  | .pc p c b => p.s :: c.s :: b.wds
def Du.fits (w h : Nat) : Du → Bool
  | .party => 2 ≤ w | .cut => 2 ≤ h | .quartered => 2 ≤ w && 2 ≤ h
def Du.pw (w : Nat) : Du → Nat
  | .party => w / 2 | .cut => w | .quartered => w / 2
def Du.ph (h : Nat) : Du → Nat
  | .party => h | .cut => h / 2 | .quartered => h / 2
def Pi.fits (w h : Nat) : Pi → Bool
  | .pillar => 4 ≤ w | .band => 4 ≤ h | .head => 4 ≤ h | .edge => 4 ≤ w && 4 ≤ h
def Tr.ok : Nat → Nat → Tr → Prop
  | _, _, .col _ => True
  | w, h, .two d a b => d.fits w h = true ∧ a.ok (d.pw w) (d.ph h) ∧ b.ok (d.pw w) (d.ph h)
  | w, h, .pc p _ b => p.fits w h = true ∧ b.ok w h
def Pi.own (w h r c : Nat) : Pi → Bool
  | .pillar => w / 4 ≤ c && c < w - w / 4
  | .band => h / 4 ≤ r && r < h - h / 4
  | .head => r < h / 4
  | .edge => r == 0 || r == h - 1 || c == 0 || c == w - 1
def Tr.cell : Nat → Nat → Tr → Nat → Nat → Co
  | _, _, .col c, _, _ => c
  | w, h, .two d a b, r, c =>
    if (c / d.pw w + r / d.ph h) % 2 = 0 then a.cell (d.pw w) (d.ph h) (r % d.ph h) (c % d.pw w) else b.cell (d.pw w) (d.ph h) (r % d.ph h) (c % d.pw w)
  | w, h, .pc p k b, r, c => if p.own w h r c then k else b.cell w h r c
def Side (n : Nat) : Prop := n = 1 ∨ n = 2 ∨ n = 4 ∨ n = 8
def grid (w h : Nat) (f : Nat → Nat → Co) : List (List Co) := (List.range h).map fun r => (List.range w).map fun c => f r c
def cs (l : List Co) : List V := l.map fun c => V.str c.s
/-- a drawing at p -/
def Drw (K : PySem.W.Frag) (H : Hp) (p : Addr) (rows : List (List Co)) : Prop := ∃ as : List Addr, SqT K H p (as.map V.ref) ∧ Paired (fun a row => SqT K H a (cs row)) as rows
theorem Imm.drw {K : PySem.W.Frag} {H H' : Hp} {p : Addr} {rows : List (List Co)} (e : Imm H H') (h : Drw K H p rows) : Drw K H' p rows := by
  obtain ⟨as, h1, h2⟩ := h
  exact ⟨as, e.sqT h1, Paired.mapP h2 fun _ _ z => e.sqT z⟩
def ws (l : List Str) : List V := l.map V.str
theorem Co.mem (c : Co) : c.s ∈ [Co.white.s, Co.yellow.s, Co.black.s, Co.blue.s, Co.green.s, Co.red.s] := by cases c <;> simp [Co.s]

/-! ### data that is compared -/
theorem eqvAll_map {α : Type} [DecidableEq α] {f : α → PyData} (h : ∀ x y, PyData.eqv (f x) (f y) = decide (x = y)) : ∀ a b : List α, PyData.eqvAll (a.map f) (b.map f) = decide (a = b)
  | [], [] => by simp [PyData.eqvAll]
  | [], y :: ys => by simp [PyData.eqvAll]
  | x :: xs, [] => by simp [PyData.eqvAll]
  | x :: xs, y :: ys => by
    rw [List.map_cons, List.map_cons, PyData.eqvAll, h, eqvAll_map h xs ys]
    by_cases e : x = y
    · subst e; simp
    · simp [e]
theorem eqv_str (x y : Str) : PyData.eqv (.str x) (.str y) = decide (x = y) := by
  rw [PyData.eqv]
  by_cases e : x = y
  · subst e; simp
  · rw [decide_eq_false e]; exact beq_eq_false_iff_ne.mpr e
theorem can_map {α : Type} {f : α → PyData} (h : ∀ x, (f x).canLay0 = true) : ∀ a : List α, PyData.canLayAll0 (a.map f) = true
  | [] => by simp [PyData.canLayAll0]
  | x :: xs => by rw [List.map_cons, PyData.canLayAll0, h x, can_map h xs]; rfl
theorem depth_map {α : Type} {f : α → PyData} {n : Nat} (h : ∀ x, (f x).depth ≤ n) : ∀ a : List α, PyData.depthAll (a.map f) ≤ n
  | [] => by simp [PyData.depthAll]
  | x :: xs => by
    rw [List.map_cons, PyData.depthAll]
    exact Nat.max_le.mpr ⟨h x, depth_map h xs⟩
/-- words that are compared -/
inductive Kw | c (c : Co) | d (d : Du) | p (p : Pi)
  deriving DecidableEq
def Kw.s : Kw → Str
  | .c x => x.s | .d x => x.s | .p x => x.s
theorem Kw.inj {a b : Kw} (h : a.s = b.s) : a = b := by
  revert h
  rcases a with c | c | c <;> rcases b with e | e | e <;> cases c <;> cases e <;> first | (intro _; rfl) | (intro h; exact absurd h (by decide +kernel))
theorem Kw.eqv (a b : Kw) : PyData.eqv (.str a.s) (.str b.s) = decide (a = b) := by
  rw [eqv_str]
  by_cases e : a = b
  · subst e; simp
  · rw [decide_eq_false e, decide_eq_false (fun h => e (Kw.inj h))]
theorem Kw.can (a : Kw) : (PyData.str a.s).canLay0 = true := by
  rcases a with c | c | c <;> cases c <;> decide +kernel
theorem Co.inj {a b : Co} (h : a.s = b.s) : a = b := by
  have := Kw.inj (a := .c a) (b := .c b) h
  cases this; rfl
theorem Co.eqv (a b : Co) : PyData.eqv (.str a.s) (.str b.s) = decide (a = b) := by
  have := Kw.eqv (.c a) (.c b)
  rw [show PyData.eqv (.str a.s) (.str b.s) = PyData.eqv (.str (Kw.c a).s) (.str (Kw.c b).s) from rfl, this]
  by_cases e : a = b
  · subst e; simp
  · simp [e]
theorem Co.can (a : Co) : (PyData.str a.s).canLay0 = true := Kw.can (.c a)
def dKws (l : List Kw) : List PyData := l.map fun k => .str k.s
def dRow (l : List Co) : PyData := .tuple (l.map fun c => .str c.s)
def dRows (l : List (List Co)) : PyData := .tuple (l.map dRow)
theorem dRow_eqv (a b : List Co) : PyData.eqv (dRow a) (dRow b) = decide (a = b) := by
  unfold dRow
  rw [PyData.eqv]
  exact eqvAll_map Co.eqv a b
theorem dRows_eqv (a b : List (List Co)) : PyData.eqv (dRows a) (dRows b) = decide (a = b) := by
  unfold dRows
  rw [PyData.eqv]
  exact eqvAll_map dRow_eqv a b
theorem dRow_can (a : List Co) : (dRow a).canLay0 = true := by
  unfold dRow
  rw [PyData.canLay0]
  exact can_map Co.can a
theorem dRow_depth (a : List Co) : (dRow a).depth ≤ 1 := by
  unfold dRow
  rw [PyData.depth]
  exact Nat.succ_le_succ (depth_map (n := 0) (fun x => by rw [PyData.depth]; exact Nat.le_refl _) a)
theorem dRows_shaped (a : List (List Co)) : SeqAt.shaped (dRows a) = true := by
  unfold SeqAt.shaped dRows
  rw [PyData.canLay0, can_map dRow_can, PyData.depth]
  have := depth_map (n := 1) dRow_depth a
  simp; omega
theorem dKws_shaped (l : List Kw) : SeqAt.shaped (.list (dKws l)) = true := by
  unfold SeqAt.shaped dKws
  rw [PyData.canLay0, can_map Kw.can, PyData.depth]
  have := depth_map (n := 0) (f := fun k : Kw => PyData.str k.s) (fun x => by rw [PyData.depth]; exact Nat.le_refl _) l
  simp; omega
section
variable {K : PySem.W.Frag} {H : Hp}
theorem dpAll_map {α : Type} {f : α → V} {g : α → PyData} (h : ∀ x, Dp K H (f x) (g x)) : ∀ l : List α, DpAll K H (l.map f) (l.map g)
  | [] => .nil
  | x :: xs => .cons (h x) (dpAll_map h xs)
theorem dpAll_pair {α β : Type} {f : α → V} {g : β → PyData} : ∀ {l : List α} {m : List β}, Paired (fun x y => Dp K H (f x) (g y)) l m → DpAll K H (l.map f) (m.map g)
  | _, _, .nil => .nil
  | _, _, .cons r t => .cons r (dpAll_pair t)
theorem Drw.dp {p : Addr} {rows : List (List Co)} (h : Drw K H p rows) : Dp K H (.ref p) (dRows rows) := by
  obtain ⟨as, h1, h2⟩ := h
  exact .tup h1 (dpAll_pair (Paired.mapP h2 fun a b z => .tup z (dpAll_map (f := fun c : Co => V.str c.s) (fun c => .str _) b)))
theorem dp_kws {p : Addr} {l : List Kw} (h : SqL K H p (l.map fun k => V.str k.s)) : Dp K H (.ref p) (.list (dKws l)) := .lst h (dpAll_map (f := fun k : Kw => V.str k.s) (fun k => .str _) l)
end
section
variable {σ : L2.St} {H : Hp} {Q : VK} {K : PySem.W.Frag}
/-- two drawings -/
theorem rEqDrw {p q : Addr} {a b : List (List Co)} (ha : Drw K H p a) (hb : Drw K H q b) (k : Q (.bl (decide (a = b))) H) : rEqD K (.ref p) (.ref q) H Q :=
  ⟨_, _, ha.dp, hb.dp, dRows_shaped a, dRows_shaped b, by rw [dRows_eqv]; exact k⟩
theorem rNeDrw {p q : Addr} {a b : List (List Co)} (ha : Drw K H p a) (hb : Drw K H q b) (k : Q (.bl (!decide (a = b))) H) : rNeD K (.ref p) (.ref q) H Q :=
  ⟨_, _, ha.dp, hb.dp, dRows_shaped a, dRows_shaped b, by rw [dRows_eqv]; exact k⟩
theorem rEqKws {p q : Addr} {a b : List Kw} (ha : SqL K H p (a.map fun k => V.str k.s)) (hb : SqL K H q (b.map fun k => V.str k.s)) (k : Q (.bl (decide (a = b))) H) : rEqD K (.ref p) (.ref q) H Q :=
  ⟨_, _, dp_kws ha, dp_kws hb, dKws_shaped a, dKws_shaped b, by rw [PyData.eqv, show PyData.eqvAll (dKws a) (dKws b) = decide (a = b) from eqvAll_map Kw.eqv a b]; exact k⟩
theorem rPairs0 {QP : List (V × V) → Hp → Prop} (q : QP [] H) : tPairs [] σ H QP := q
theorem rPairsS {tk tv : TE} {r : List (TE × TE)} {QP : List (V × V) → Hp → Prop} (h : tk σ H fun x H1 => tv σ H1 fun y H2 => tPairs r σ H2 fun ps H3 => QP ((x, y) :: ps) H3) : tPairs ((tk, tv) :: r) σ H QP := h
def DispQ (Q : VK) (p : Addr) : List (V × V) → Hp → Prop := fun ps H2 => H2 p = some (.dK []) ∧ ∃ kvs : List (Key × V), ps = kvs.map (fun kv => (kV kv.1, kv.2)) ∧ kvs.length ≤ 15 ∧ Q (.ref p) (upd H2 p (.dK (mergeK [] kvs)))
theorem rDisp {trs : List (TE × TE)} (h : ∀ p H1, H p = none → Same H H1 → H1 p = some (.dK []) → tPairs trs σ H1 (DispQ Q p)) : tDisp trs σ H Q :=
  fun p n => h p _ n (same_new n) upd_same
theorem chg_dk {H : Hp} {r : Addr} {xs : List (Key × V)} {o : HO} (h : H r = some (.dK xs)) : Chg r H (upd H r o) :=
  ⟨⟨fun b ys e => by rw [upd_ne (ne_of e h (by intro z; cases z))]; exact e, fun b x u e => by rw [upd_ne (ne_of e h (by intro z; cases z))]; exact e⟩,
   fun b x nb e => by rw [upd_ne nb]; exact e⟩
theorem rDispEnd {p : Addr} {ps : List (V × V)} (kvs : List (Key × V)) (h : H p = some (.dK [])) (e : ps = kvs.map (fun kv => (kV kv.1, kv.2))) (l : kvs.length ≤ 15)
    (q : ∀ H3, Chg p H H3 → H3 p = some (.dK (mergeK [] kvs)) → Q (.ref p) H3) : DispQ Q p ps H := ⟨h, kvs, e, l, q _ (chg_dk h) upd_same⟩
theorem same_chg {H0 H1 H2 : Hp} {p : Addr} (a : Same H0 H1) (c : Chg p H1 H2) (n : H0 p = none) : Same H0 H2 := fun b o e => c.2 b o (ne_of_none e n) (a b o e)
theorem rDGet2 {td ty tx : TE} (h : td σ H fun x H1 => ∃ a, x = .ref a ∧ IsD H1 a ∧ ty σ H1 fun y H2 => tx σ H2 fun z H3 => ∃ o, DGet H3 a y o ∧ Q (o.getD z) H3) : tDGet2 td ty tx σ H Q := h
theorem rGTup {n : Nat} {t : TGs} {a : Addr} {xs : List V} {QS : L2.St → Hp → Prop} (h : SqT K H a xs) (l : xs.length = n) (q : t xs σ H QS) : gTup K n t (.ref a) σ H QS := ⟨a, xs, rfl, h, l, q⟩
theorem rGTupE {n : Nat} {t : TGs} {a : Addr} {xs : List V} {v : V} {QS : L2.St → Hp → Prop} (e : v = .ref a) (h : SqT K H a xs) (l : xs.length = n) (q : t xs σ H QS) : gTup K n t v σ H QS := ⟨a, xs, e, h, l, q⟩
theorem rGCons {t : TG} {u : TGs} {v : V} {r : List V} {QS : L2.St → Hp → Prop} (q : t v σ H fun σ' H' => u r σ' H' QS) : gCons t u (v :: r) σ H QS := ⟨v, r, rfl, q⟩
theorem rGNil {QS : L2.St → Hp → Prop} (q : QS σ H) : gNil [] σ H QS := ⟨rfl, q⟩
theorem same_at {H' : Hp} {p : Addr} {o : HO} (s : Same H H') (h : H p = some o) : H' p = some o := s _ _ h
/-- from an inner heap to one behind it where only what is new was changed -/
theorem same_back {H0 H1 H2 : Hp} {p : Addr} {o : HO} (a : Same H0 H1) (n : H0 p = none) (b : Same H1 H2) : Same H0 (upd H2 p o) := same_upd (a.trans b) n
end
theorem fnok_none {P : Program} {w : World} {K : PySem.W.Frag} {mg : Str → Option Value} {base : Heap} {CX : CXT} {j : Nat} {f : Addr} {fd : FuncData} {ps : List Str} {sp : Sp} (no : ∀ vs H Q E, ¬ sp vs H Q E) : FnOk P w K mg base CX j f fd ps sp :=
  ⟨fun vs H Q E h => absurd h (no vs H Q E), fun A outer s H args us vs Q E _ _ _ _ h => absurd h (no vs H Q E)⟩

theorem inV_du (x : Du) : inV (.str x.s) [.str "party", .str "cut", .str "quartered"] = true := by cases x <;> decide +kernel
theorem inV_pi (x : Pi) : inV (.str x.s) [.str "party", .str "cut", .str "quartered"] = false := by cases x <;> decide +kernel
theorem ws_len (l : List Str) : (ws l).length = l.length := List.length_map _
theorem ws_app (a b : List Str) : ws (a ++ b) = ws a ++ ws b := List.map_append
theorem le_line {n : Nat} (h : n ≤ 100000) : n ≤ sizeLine := Nat.le_trans h (by decide)
theorem get_map {α : Type} {f : α → V} {l : List α} {i : Nat} {x : V} (h : (l.map f)[i]? = some x) : ∃ z, l[i]? = some z ∧ x = f z := by
  rw [List.getElem?_map] at h
  cases hq : l[i]? with
  | none => rw [hq] at h; cases h
  | some z => rw [hq] at h; exact ⟨z, rfl, (Option.some.inj h).symm⟩
theorem take_next {α : Type} {l : List α} {i : Nat} {z : α} (h : l[i]? = some z) : l.take (i + 1) = l.take i ++ [z] := by
  rw [List.take_add_one, h]; rfl
/-- min of four ints -/
theorem four_args (a b c d : Value) : argsOk "min" ⟨[a, b, c, d], []⟩ := by
  unfold argsOk
  kernel_rfl
def quad (a b c d : Int × Tok) : Array (Int × Tok) := #[a, b, c, d]
theorem min_four {prog : Program} {w : World} {A : Around} {E : Value → Shared → Prop} {s : Shared} {a b c d : Int × Tok} {R : Value → Shared → Prop} (hot : A.handled = none)
    (k : ∀ m h' tk, (∃ t, m = .int (numAt (quad a b c d) (argBest (fun i j => decide (numAt (quad a b c d) i < numAt (quad a b c d) j)) 3)) t) →
      (∀ p o, s.heap.get? p = some o → h'.get? p = some o) → R m { s with heap := h', toks := tk }) :
    wpAny (model prog w) A (call (.builtin "min") [.int a.1 a.2, .int b.1 b.2, .int c.1 c.2, .int d.1 d.2]) R E s := by
  have loopName : (toString "min" ++
      toString ".loop" : String) = "min.loop" := by decide
  refine call_function_tree F.kind_min F.plain_min F.entry_min
    (four_args _ _ _ _) ?_
  show wpAny _ _ (Builtin.Builtins.bindParams "min" ["key", "default"] 0
    ⟨[], []⟩ >>= _) _ _ _
  refine wpAny_bind (wpAny_of_eq (show Builtin.Builtins.bindParams "min"
    ["key", "default"] 0 ⟨[], []⟩ = pure [none, none] from rfl) ?_)
  show wpAny _ _ (newTuple [.int a.1 a.2, .int b.1 b.2, .int c.1 c.2, .int d.1 d.2] >>= _) _ _ _
  refine wpAny_bind (wpAny_newObj_type ?_)
  have tup : (s.heap.push { cls := .type "tuple", data := .seq (intItems (quad a b c d)) }).IsTuple s.heap.objs.size (intItems (quad a b c d)) :=
    ⟨_, Heap.get?_push_size _ rfl, rfl, 0, rfl⟩
  have size1 : (s.heap.push { cls := .type "tuple", data := .seq (intItems (quad a b c d)) }).objs.size = s.heap.objs.size + 1 := by
    rw [Heap.size_push]
  have Wk := Walks.tuple (prog := prog) (w := w) (A := A.in1) hot (s.heap.objs.size + 1) s.heap.objs.size (Nat.ne_of_lt (Nat.lt_succ_self _)) (intItems (quad a b c d))
  have lit : intItems (quad a b c d) = #[.int a.1 a.2, .int b.1 b.2, .int c.1 c.2, .int d.1 d.2] := by
    simp [intItems, quad]
  have at_ : ∀ (i : Nat) (v : Value), (#[.int a.1 a.2, .int b.1 b.2, .int c.1 c.2, .int d.1 d.2] : Array Value)[i]? = some v → ∃ t, v = .int (numAt (quad a b c d) i) t := fun i v e => by
    rw [← lit] at e
    exact intItems_at e
  rw [lit] at tup size1 Wk
  refine wpAny_bind (wpAny_pyIter_tuple tup ?_)
  rw [size1]
  refine wpAny_bind (wpAny_newObj_type ?_)
  have old : ∀ p o, s.heap.get? p = some o → p < s.heap.objs.size := fun p o e => Heap.lt_size e
  rw [loopName]
  refine wpAny_pure ⟨plainId_quiet F.plain_min_loop _, ?_⟩
  refine codeAny_min_loop_first Wk _ (CmpOf.ints_lt (numAt (quad a b c d)) at_) _ ?_ (show 0 < 4 by decide) ?_ (Heap.get?_push_size _ rfl) ?_
  · rw [Heap.size_push, size1]
    intro z
    rcases List.mem_cons.mp z with z | z
    · exact absurd z (Nat.ne_of_gt (Nat.lt_succ_self _))
    · exact absurd (List.mem_singleton.mp z) (Nat.ne_of_gt (Nat.lt_succ_of_lt (Nat.lt_succ_self _)))
  · refine ⟨⟨_, Heap.get?_push_of_some _ (by rw [← size1]; exact Heap.get?_push_size _ rfl), rfl, rfl⟩, ?_⟩
    exact (tup.push _).push _
  · intro m h' tk hm kept
    refine k m h' tk (at_ _ _ hm) fun p o e => kept p o ?_ ?_ ?_
    · intro z
      exact absurd (List.mem_singleton.mp z) (Nat.ne_of_lt (Nat.lt_succ_of_lt (old p o e)))
    · rw [Heap.size_push, size1]
      exact Nat.ne_of_lt (Nat.lt_succ_of_lt (Nat.lt_succ_of_lt (old p o e)))
    · exact Heap.get?_push_of_some _ (Heap.get?_push_of_some _ (Heap.get?_push_of_some _ e))
def rMin4 : List V → Hp → VK → Prop := fun xs H Q => ∃ a b c d, xs = [.int a, .int b, .int c, .int d] ∧
  ∀ m, m ≤ a → m ≤ b → m ≤ c → m ≤ d → (m = a ∨ m = b ∨ m = c ∨ m = d) → Q (.int m) H
theorem z_min4 {X : Cx} (calm : X.calm = true) : CallR X (.builtin "min") rMin4 := by
  intro pins s σ H xs us Q I r h
  obtain ⟨a, b, c, d, rfl, q⟩ := h
  cases r with
  | cons r1 r => cases r with
  | cons r2 r => cases r with
  | cons r3 r => cases r with
  | cons r4 r =>
    cases r
    obtain ⟨t1, rfl⟩ := r1
    obtain ⟨t2, rfl⟩ := r2
    obtain ⟨t3, rfl⟩ := r3
    obtain ⟨t4, rfl⟩ := r4
    refine min_four (a := (a, t1)) (b := (b, t2)) (c := (c, t3)) (d := (d, t4)) (I.ok.hd calm) fun m h' tk hm kept => ?_
    obtain ⟨t, rfl⟩ := hm
    obtain ⟨least1, least2⟩ := argBest_lt (numAt (quad (a, t1) (b, t2) (c, t3) (d, t4))) 3
    have n0 := least2 0 (by decide)
    have n1 := least2 1 (by decide)
    have n2 := least2 2 (by decide)
    have n3 := least2 3 (by decide)
    generalize argBest (fun i j => decide (numAt (quad (a, t1) (b, t2) (c, t3) (d, t4)) i < numAt (quad (a, t1) (b, t2) (c, t3) (d, t4)) j)) 3 = z at *
    refine ⟨.int _, H, I.kept kept, ⟨t, rfl⟩, q _ n0 n1 n2 n3 ?_⟩
    match z, least1 with
    | 0, _ => exact .inl rfl
    | 1, _ => exact .inr (.inl rfl)
    | 2, _ => exact .inr (.inr (.inl rfl))
    | 3, _ => exact .inr (.inr (.inr rfl))

section
variable {σ : L2.St} {H : Hp} {Q : VK} {K : PySem.W.Frag}
theorem rMin4_ {a b c d : Int} (q : ∀ m, m ≤ a → m ≤ b → m ≤ c → m ≤ d → (m = a ∨ m = b ∨ m = c ∨ m = d) → Q (.int m) H) : rMin4 [.int a, .int b, .int c, .int d] H Q := ⟨a, b, c, d, rfl, q⟩
theorem rWhile {c : TT} {tb : TS} {D : Ends} (W : Nat → L2.St → Hp → Prop) (h0 : ∃ m, W m σ H) (hs : ∀ m σ H, W m σ H → c σ H fun b H1 => if b = true then ∃ N : L2.St → Hp → Prop, (∀ σ' H', N σ' H' → ∃ m', m' < m ∧ W m' σ' H') ∧
  tb { D with nx := N, ct := N, bk := D.nx } σ H1 else D.nx σ H1) : tWhile c tb D σ H := ⟨W, h0, hs⟩
/-- a slice, by numbers that are not negative -/
theorem cut_to (xs : List V) (n : Nat) : cutV xs none (some (n : Int)) = xs.take n := by
  unfold cutV
  rw [HT.sIx_none, HT.sIx_nat, List.drop_zero, Nat.sub_zero]
  by_cases h : n ≤ xs.length
  · rw [Nat.min_eq_left h]
  · rw [Nat.min_eq_right (by omega), List.take_length, List.take_of_length_le (by omega)]
theorem cut_from (xs : List V) (n : Nat) : cutV xs (some (n : Int)) none = xs.drop n := by
  unfold cutV
  rw [HT.sIx_none, HT.sIx_nat]
  by_cases h : n ≤ xs.length
  · rw [Nat.min_eq_left h, List.take_of_length_le (by rw [List.length_drop]; exact Nat.le_refl _)]
  · rw [Nat.min_eq_right (by omega), List.drop_length, List.drop_of_length_le (by omega), List.take_nil]
theorem cut_one (xs : List V) (n : Nat) : cutV xs (some (n : Int)) (some ((n : Int) + 1)) = (xs.drop n).take 1 := by
  unfold cutV
  rw [show ((n : Int) + 1) = ((n + 1 : Nat) : Int) from rfl, HT.sIx_nat, HT.sIx_nat]
  by_cases h : n < xs.length
  · rw [Nat.min_eq_left (by omega), Nat.min_eq_left (by omega), Nat.add_sub_cancel_left]
  · rw [Nat.min_eq_right (by omega), Nat.min_eq_right (by omega), List.drop_length, List.drop_of_length_le (by omega), List.take_nil, List.take_nil]
theorem one_or (l : List Str) (n : Nat) (w : Str) : (((ws l).drop n).take 1 ++ [.str w])[0]? = some (.str (l.getD n w)) := by
  rw [List.getD_eq_getElem?_getD]
  cases h : l[n]? with
  | none =>
    have : l.length ≤ n := List.getElem?_eq_none_iff.mp h
    rw [List.drop_of_length_le (by rw [ws_len]; exact this), List.take_nil]
    rfl
  | some z =>
    have hn : n < l.length := (List.getElem?_eq_some_iff.mp h).1
    have hz : (ws l)[n]? = some (.str z) := by unfold ws; rw [List.getElem?_map, h]; rfl
    have hn' : n < (ws l).length := by rw [ws_len]; exact hn
    rw [List.drop_eq_getElem_cons hn']
    rw [List.getElem?_eq_getElem hn'] at hz
    rw [Option.some.inj hz]
    rfl
end
theorem inV_pcs (x : Pi) : inV (.str x.s) [.str "pillar", .str "band", .str "head", .str "edge"] = true := by cases x <;> decide +kernel
theorem inV_pcs_du (x : Du) : inV (.str x.s) [.str "pillar", .str "band", .str "head", .str "edge"] = false := by cases x <;> decide +kernel
theorem inV_pcs_co (x : Co) : inV (.str x.s) [.str "pillar", .str "band", .str "head", .str "edge"] = false := by cases x <;> decide +kernel
theorem inV_du_co (x : Co) : inV (.str x.s) [.str "party", .str "cut", .str "quartered"] = false := by cases x <;> decide +kernel
/-- a saying's words as they are seen: those that are left out are white -/
def Seen (F l : List Str) : Prop := ∀ i, l.getD i Co.white.s = F.getD i Co.white.s

section
variable {σ : L2.St} {H : Hp} {Q : VK} {K : PySem.W.Frag}
theorem rBM {T : String} {r : V → List V → Hp → VK → Prop} {to : TE} {t : TA} (h : to σ H fun x H1 => tyV K T x H1 ∧ t σ H1 fun xs H2 => r x xs H2 Q) : tBM K T r to t σ H Q := h
theorem rBM0 {T : String} {r : V → List V → Hp → VK → Prop} {to : TE} (h : to σ H fun x H1 => tyV K T x H1 ∧ r x [] H1 Q) : tBM0 K T r to σ H Q := h
theorem rTyL {p : Addr} {xs : List V} {B : Prop} (h : SqL K H p xs) (q : B) : tyV K "list" (.ref p) H ∧ B := ⟨.inl ⟨rfl, _, h⟩, q⟩
theorem rAppend_ {l : Addr} {xs : List V} {y : V} (h : H l = some (.lst xs)) (n : xs.length < sizeLine) (q : ∀ H2, Chg l H H2 → H2 l = some (.lst (xs ++ [y])) → Q .non H2) : rAppend (.ref l) [y] H Q :=
  ⟨l, xs, y, rfl, rfl, h, n, q _ (chg_lst h) upd_same⟩
theorem rPop_ {l : Addr} {xs : List V} {y : V} (h : H l = some (.lst (xs ++ [y]))) (q : ∀ H2, Chg l H H2 → H2 l = some (.lst xs) → Q y H2) : rPop (.ref l) [] H Q :=
  ⟨l, xs ++ [y], y, rfl, rfl, h, by simp, by rw [List.dropLast_concat]; exact q _ (chg_lst h) upd_same⟩
theorem paired_snoc {α β : Type} {F : α → β → Prop} {x : α} {y : β} (f : F x y) : ∀ {l : List α} {m : List β}, Paired F l m → Paired F (l ++ [x]) (m ++ [y])
  | _, _, .nil => .cons f .nil
  | _, _, .cons r t => .cons r (paired_snoc f t)
theorem paired_len {α β : Type} {F : α → β → Prop} : ∀ {l : List α} {m : List β}, Paired F l m → l.length = m.length
  | _, _, .nil => rfl
  | _, _, .cons _ t => congrArg (· + 1) (paired_len t)
theorem lt_line {n : Nat} (h : n ≤ 100000) : n < sizeLine := Nat.lt_of_le_of_lt h (by decide)
end

/-! ### enumerate over a tuple -/
set_option maxHeartbeats 1000000 in
theorem enum1_new {v : Value} {ob : Obj} {G : Heap → Prop} (B : Begins v ob G) :
    Meets (Builtin.«enumerate.__new__» ⟨[.type "enumerate", v], []⟩) (fun _ R s => G s.heap ∧
      R (.ok (.ret (.ref (s.heap.push ob).objs.size)))
        { s with heap := (s.heap.push ob).push { cls := .type "enumerate", data := .fields #[.none, .bool false, .ref s.heap.objs.size, rawInt 0, .none, .none] } }) :=
  .of_wp fun prog w A R s both => by
    obtain ⟨hp, gs, dr, tk, os⟩ := s
    obtain ⟨g1, both⟩ := both
    have subs := sub_enumerate
    have begins : ∀ {A' : Around} {E Q' : Value → Shared → Prop}, Q' (.ref hp.objs.size) ⟨hp.push ob, gs, dr, tk, os⟩ →
        wpAny (model prog w) A' (pyIter v) Q' E ⟨hp, gs, dr, tk, os⟩ := fun z => B.iter prog w _ _ ⟨hp, gs, dr, tk, os⟩ _ g1 z
    wp_walk using begins
    refine wpAny_stack_any fun _ => wpAny_pure ?_
    split
    · rename_i c _ _ _ _ _
      cases (c == Value.type "enumerate")
      · wp_walk using begins
        exact ⟨_, rfl, both⟩
      · wp_walk using begins
        exact ⟨_, rfl, both⟩
    · wp_walk using begins
      exact ⟨_, rfl, both⟩
theorem enum1_begins {prog : Program} {w : World} {A : Around} {E : Value → Shared → Prop} {s : Shared} {v : Value} {ob : Obj} {G : Heap → Prop} {R : Value → Shared → Prop} (B : Begins v ob G) (g1 : G s.heap)
    (k : ∀ h', IsEnum h' (s.heap.objs.size + 1) s.heap.objs.size 0 .none → h'.get? s.heap.objs.size = some ob → (∀ b o, s.heap.get? b = some o → h'.get? b = some o) →
      R (.ref (s.heap.objs.size + 1)) { s with heap := h' }) : wpAny (model prog w) A (call (.type "enumerate") [v]) R E s := by
  refine callType_new F.called_enumerate (by decide) (F.typeCall_enumerate_1 _)
    (F.newCall_enumerate_1 _) (fun z => F.args_object_init_2 z _) F.entry_enumerate_new (enum1_new B) ⟨g1, ?_⟩
  have size1 : (s.heap.push ob).objs.size = s.heap.objs.size + 1 := by rw [Heap.size_push]
  show _ ∧ _
  rw [size1]
  have made : IsEnum ((s.heap.push ob).push { cls := .type "enumerate", data := .fields #[.none, .bool false, .ref s.heap.objs.size, rawInt 0, .none, .none] })
      (s.heap.objs.size + 1) s.heap.objs.size 0 .none := by
    have z := Heap.get?_push_size (s.heap.push ob) (o := { cls := .type "enumerate", data := .fields #[.none, .bool false, .ref s.heap.objs.size, rawInt 0, .none, .none] }) rfl
    rwa [size1] at z
  exact ⟨⟨_, made, rfl⟩, k _ made (Heap.get?_push_of_some _ (Heap.get?_push_size _ B.free)) fun b o e => Heap.get?_push_of_some _ (Heap.get?_push_of_some _ e)⟩
/-- the tuple at t as it stands at each turn, with its number -/
def IteT (K : PySem.W.Frag) (t : Addr) : It :=
  ⟨fun i H => ∃ (xs : List V) (x : V), SqT K H t xs ∧ xs[i]? = some x,
    fun i H v H' => ∃ T x, v = .ref T ∧ H T = none ∧ H' = upd H T (.tup [.int (i : Nat), x]) ∧ ∀ xs, SqT K H t xs → xs[i]? = some x,
    fun i H => ∃ xs : List V, SqT K H t xs ∧ xs.length = i⟩
theorem turn_enumT {P : Program} {w : World} {K : PySem.W.Frag} {elts : List Expr} {kk : Nat} {tpos : Pos} (t e it : Addr) :
    Turn P w K (.Tuple elts kk tpos) (IteT K t) [e, it] e (fun i h => (∃ old, IsEnum h e it ((i : Nat) : Int) old) ∧ h.IsTupleIter it t i ∧ e ≠ it ∧ t ≠ it ∧ e ≠ t) where
  mem := List.mem_cons_self
  obj := fun i h st b hb => by
    obtain ⟨⟨old, he⟩, ⟨o, ho, hc, hd⟩, _⟩ := st
    rcases List.mem_cons.mp hb with z | z
    · rw [z]
      exact ⟨_, he, fun v q => nomatch q⟩
    · refine ⟨o, by rw [List.mem_singleton.mp z]; exact ho, fun v q => ?_⟩
      rw [hd] at q
      cases q
  keep := fun i h h' st k => by
    obtain ⟨⟨old, he⟩, ht, ne⟩ := st
    exact ⟨⟨old, k e List.mem_cons_self _ he⟩, ht.at fun o z => k it (List.mem_cons_of_mem _ List.mem_cons_self) o z, ne⟩
  item := by
    intro X eP ew eK calm i pins s σ H E I fresh st go
    subst eP ew eK
    obtain ⟨⟨old, he⟩, hit, ne1, ne2, ne3⟩ := st
    obtain ⟨xs, x, hq, hx⟩ := go
    obtain ⟨its, rv, tup, _⟩ := I.tuple hq
    obtain ⟨u, hu, ru⟩ := rv.get hx
    have lt1 : e < s.heap.objs.size := Heap.lt_size he
    have lt2 : it < s.heap.objs.size := by
      obtain ⟨_, z, _⟩ := hit
      exact Heap.lt_size z
    have D := Draws.tuple (prog := X.prog) (w := X.w) (A := X.A.in1) (I.ok.hd calm) it t ne2 its.toArray
    have lt3 : i < its.toArray.size := by
      rw [List.size_toArray]
      exact (List.getElem?_eq_some_iff.mp hu).1
    refine wpAny_pyNext_enum_itemC D he ⟨hit, tup⟩ lt3 ne1 (by simp [ne1, ne3]) fun y h' tk hy out st' new _ kept => ?_
    have hy' : y = u := by
      rw [List.getElem?_toArray, hu] at hy
      exact (Option.some.inj hy).symm
    subst hy'
    refine ⟨_, rfl, wpAny_letOwnedTupleGo_enum (s := { s with heap := h', toks := tk + 1 }) out fun h'' he' sb => ?_⟩
    have same2 : h''.get? s.heap.objs.size = some { cls := .type "tuple", data := .seq #[.int i tk, y] } := (sb.2 _ (Nat.ne_of_gt lt1)).trans new
    have okT : ObjOk X.prog X.w (upd H s.heap.objs.size (.tup [.int (i : Nat), x])) h'' s.heap.objs.size (.tup [.int (i : Nat), x]) :=
      ⟨Nat.le_of_ble_eq_true rfl, [.int i tk, y], .cons ⟨_, rfl⟩ (.cons ru .nil), ⟨_, same2, rfl, _, rfl⟩⟩
    have I1 : Inv X pins σ (upd H s.heap.objs.size (.tup [.int (i : Nat), x])) { s with heap := h'', toks := tk + 1 } :=
      I.turnedNew (ch := [e, it]) (fun b ob nb q => (sb.2 b (fun z => nb (by simp [z]))).trans (kept b ob (fun z => nb (by simp [z])) (fun z => nb (by simp [z])) q)) fresh (Nat.le_refl _) okT
    refine ⟨.ref s.heap.objs.size, _, I1, rfl, ⟨_, x, rfl, I.hok.fresh (Nat.le_refl _), rfl, fun ys hy => ?_⟩, ⟨⟨y, ?_⟩, ?_, ne1, ne2, ne3⟩, fun b hb => ?_⟩
    · rw [I.tuple_inj hy hq]
      exact hx
    · rw [show ((i + 1 : Nat) : Int) = (i : Int) + 1 by omega]
      exact he'
    · exact st'.1.at fun o q => (sb.2 it (Ne.symm ne1)).trans q
    · have small : b < s.heap.objs.size := by
        rcases List.mem_cons.mp hb with z | z
        · rw [z]; exact lt1
        · rw [List.mem_singleton.mp z]; exact lt2
      rw [upd_ne (Nat.ne_of_lt small)]
      exact (fresh b hb).1
  done := by
    intro X eP ew eK calm i pins s σ H E I fresh st stop
    subst eP ew eK
    obtain ⟨⟨old, he⟩, hit, ne1, ne2, ne3⟩ := st
    obtain ⟨xs, hq, hx⟩ := stop
    obtain ⟨its, rv, tup, _⟩ := I.tuple hq
    obtain ⟨f0, f1, f2, f3, f4, f5⟩ := fresh it (List.mem_cons_of_mem _ List.mem_cons_self)
    have len := rv.length
    have D := Draws.tuple (prog := X.prog) (w := X.w) (A := X.A.in1) (I.ok.hd calm) it t ne2 its.toArray
    have atEnd : its.toArray.size = i := by rw [List.size_toArray]; omega
    exact wpAny_pyNext_enum_endD D he (by rw [atEnd]; exact ⟨hit, tup⟩) fun h' eb => ⟨rfl, I.turned (t' := s.toks) (fun b o nb q => eb b o nb q) f0 f1 f3 f4 f5⟩
  self := fun A i s Q E st q => by
    obtain ⟨⟨_, he⟩, _⟩ := st
    exact wpAny_pyIter_enum he q
def IEnumTQ (K : PySem.W.Frag) (R : It → Hp → Prop) : List V → Hp → Prop := fun vs H1 => ∃ t xs, vs = [.ref t] ∧ SqT K H1 t xs ∧ R (IteT K t) H1
def iEnumT (K : PySem.W.Frag) (ta : TA) : TI := fun σ H R => ta σ H (IEnumTQ K R)
theorem pi_enumT {X : Cx} {e : Expr} {ta : TA} {p pos tpos : Pos} {elts : List Expr} {kk : Nat} (hg : Gl X "enumerate") (hm : X.mg "enumerate" = none) (ha : PA X [e] ta)
    (plain : starEach [e] X.env = [(false, eval e X.env)] := by rfl) : PI X (.Tuple elts kk tpos) (.Call (.Name "enumerate" p) [e] [] pos) (iEnumT X.K ta) := by
  refine ⟨fun pins s σ H R I want => ?_⟩
  refine Call_ (ld_blt I hg hm boot_enumerate (callWith_type1 (thn (ha.run pos pins s σ H _ I want) fun us s1 ⟨vs, H1, I1, rel, got⟩ => ?_) plain rfl))
  obtain ⟨t, xs, rfl, hq, got⟩ := got
  cases rel with
  | cons r1 rest =>
    cases rest
    cases r1
    obtain ⟨its, rv, tup, _⟩ := I1.tuple hq
    have low : t < s1.heap.objs.size := by
      obtain ⟨o, z, _⟩ := tup
      exact Heap.lt_size z
    refine enum1_begins (begins_tuple t its.toArray) tup fun h' made iter kept => wpAny_pyIter_enum made ?_
    have I2 : Inv X pins σ H1 { s1 with heap := h' } := I1.kept (t' := s1.toks) kept
    refine ⟨s1.heap.objs.size + 1, [s1.heap.objs.size + 1, s1.heap.objs.size], _, _, H1, rfl, I2, turn_enumT t (s1.heap.objs.size + 1) s1.heap.objs.size,
      ⟨⟨.none, made⟩, ⟨_, iter, rfl, rfl⟩, Nat.succ_ne_self _, Nat.ne_of_lt low, Nat.ne_of_gt (Nat.lt_succ_of_lt low)⟩, fun b hb => ?_, got⟩
    have young : s1.heap.objs.size ≤ b := by
      rcases List.mem_cons.mp hb with z | z
      · rw [z]; exact Nat.le_succ _
      · rw [List.mem_singleton.mp z]; exact Nat.le_refl _
    exact I1.fpOk young (I1.hok.fresh young)
section
variable {σ : L2.St} {H : Hp} {K : PySem.W.Frag}
theorem riEnumT {ta : TA} {R : It → Hp → Prop} (h : ta σ H (IEnumTQ K R)) : iEnumT K ta σ H R := h
theorem rIEnumT {R : It → Hp → Prop} {p : Addr} {xs : List V} (h : SqT K H p xs) (q : R (IteT K p) H) : IEnumTQ K R [.ref p] H := ⟨p, xs, rfl, h, q⟩
/-- for i, x in enumerate(a tuple that stands) -/
theorem for_enumT {a : Addr} {xs : List V} {g : TG} {tb : TS} {D : Ends} (Pv : Nat → L2.St → Hp → Prop) (h0 : Pv 0 σ H) (hl : ∀ i σ H, i ≤ xs.length → Pv i σ H → SqT K H a xs)
    (hs : ∀ i x σ H T H', xs[i]? = some x → Pv i σ H → H T = none → Same H H' → H' T = some (.tup [.int (i : Nat), x]) → g (.ref T) σ H' fun σ2 H2 => tb { D with nx := Pv (i + 1), ct := Pv (i + 1), bk := D.nx } σ2 H2)
    (hd : ∀ σ H, Pv xs.length σ H → D.nx σ H) : ∃ W : Nat → Nat → L2.St → Hp → Prop, (∃ m, W 0 m σ H) ∧ ∀ i m σ H, W i m σ H → ((IteT K a).stop i H ∧ D.nx σ H) ∨
      ((IteT K a).go i H ∧ ∃ N : L2.St → Hp → Prop, (∀ σ' H', N σ' H' → ∃ m', m' < m ∧ W (i + 1) m' σ' H') ∧ ∀ x H', (IteT K a).yld i H x H' → g x σ H' fun σ2 H2 => tb { D with nx := N, ct := N, bk := D.nx } σ2 H2) := by
  refine ⟨fun i m σ H => m = xs.length - i ∧ i ≤ xs.length ∧ Pv i σ H, ⟨xs.length, by simp, Nat.zero_le _, h0⟩, ?_⟩
  rintro i m σ H ⟨rfl, hi, p⟩
  have q := hl i σ H hi p
  rcases Nat.lt_or_ge i xs.length with lt | ge
  · refine .inr ⟨⟨xs, xs[i], q, List.getElem?_eq_getElem lt⟩, Pv (i + 1), fun σ' H' p' => ⟨xs.length - (i + 1), by omega, rfl, lt, p'⟩, ?_⟩
    rintro v H' ⟨T, x, rfl, nT, rfl, y⟩
    exact hs i x σ H T _ (y xs q) p nT (same_new nT) upd_same
  · have e : i = xs.length := by omega
    subst e
    exact .inl ⟨⟨xs, q, rfl⟩, hd σ H p⟩
/-- [.. for i, x in enumerate(a tuple that stands)] -/
theorem lc_enumT {a : Addr} {xs : List V} {g : TG} {tt : TT} {te : TE} {vs : List Nat} {H1 : Hp} {D : Addr} {Qd : Hp → Prop} (Pv : Nat → Hp → Prop) (h0 : Pv 0 (upd H1 D (.lst []))) (hl : ∀ i H, i ≤ xs.length → Pv i H → SqT K H a xs)
    (hs : ∀ i x H T H', xs[i]? = some x → Pv i H → H T = none → Same H H' → H' T = some (.tup [.int (i : Nat), x]) → g (.ref T) (wipe σ vs) H' fun σ2 H2 => wipe σ2 vs = wipe σ vs ∧ tt σ2 H2 fun b H3 =>
      if b = true then te σ2 H3 fun y H4 => ∃ acc, H4 D = some (.lst acc) ∧ acc.length < sizeLine ∧ Pv (i + 1) (upd H4 D (.lst (acc ++ [y]))) else Pv (i + 1) H3) (hd : ∀ H, Pv xs.length H → Qd H) :
    ∃ W : Nat → Nat → Hp → Prop, (∃ m, W 0 m (upd H1 D (.lst []))) ∧ ∀ i m H, W i m H →
      ((IteT K a).stop i H ∧ Qd H) ∨ ((IteT K a).go i H ∧ ∃ Nx : Hp → Prop, (∀ H', Nx H' → ∃ m', m' < m ∧ W (i + 1) m' H') ∧ ∀ x H', (IteT K a).yld i H x H' → g x (wipe σ vs) H' fun σ2 H2 => wipe σ2 vs = wipe σ vs ∧ tt σ2 H2 fun b H3 =>
        if b = true then te σ2 H3 fun y H4 => ∃ acc, H4 D = some (.lst acc) ∧ acc.length < sizeLine ∧ Nx (upd H4 D (.lst (acc ++ [y]))) else Nx H3) := by
  refine ⟨fun i m H => m = xs.length - i ∧ i ≤ xs.length ∧ Pv i H, ⟨xs.length, by simp, Nat.zero_le _, h0⟩, ?_⟩
  rintro i m H ⟨rfl, hi, p⟩
  have q := hl i H hi p
  rcases Nat.lt_or_ge i xs.length with lt | ge
  · refine .inr ⟨⟨xs, xs[i], q, List.getElem?_eq_getElem lt⟩, Pv (i + 1), fun H' p' => ⟨xs.length - (i + 1), by omega, rfl, lt, p'⟩, ?_⟩
    rintro v H' ⟨T, x, rfl, nT, rfl, y⟩
    exact hs i x H T _ (y xs q) p nT (same_new nT) upd_same
  · have e : i = xs.length := by omega
    subst e
    exact .inl ⟨⟨xs, q, rfl⟩, hd H p⟩
end

/-! ### list(zip(..)): the pairs stay -/
/-- a zip whose first pair is still held by somebody -/
abbrev ZipHeld (h : Heap) (z TI TO T : Addr) (b : Bool) : Prop :=
  h.get? z = some { cls := .type "zip", dict := none, data := .fields #[rawInt T, .bool b, .bool false, .ref TI, .ref TO], slots := #[] }
section
variable {prog : Program} {w : World} {A : Around} {E : Value → Shared → Prop} {s : Shared} {z TI TO T i1 i2 : Addr} {fp1 fp2 : List Addr} {n1 n2 i : Nat} {P1 P2 : Nat → Value → Prop} {St1 St2 : Nat → Heap → Prop} {b : Bool}
theorem alive_read {a : Addr} {R : Option Obj → Shared → Prop} (k : R (s.heap.get? a) s) : wpAny (model prog w) A (Sem.loadIfAlive a Sem.pure) R E s := fun Γ p hΓ => by
  rw [Sem.wp_loadIfAlive]
  exact wpAny_pure k Γ p hΓ
theorem held_asked {R : Bool → Shared → Prop} (hz : ZipHeld s.heap z TI TO T b) (alive : ∃ o, s.heap.get? T = some o)
    (k : ∀ h', ZipHeld h' z TI TO T true → Heap.SameBut z s.heap h' → R false { s with heap := h' }) :
    wpAny (model prog w) A (Builtin.SmallTypes.ownedTupleIsFree (.ref z)) R E s := by
  obtain ⟨ob, al⟩ := alive
  unfold Builtin.SmallTypes.ownedTupleIsFree
  refine wpAny_bind (wpAny_field hz rfl (x := rawInt T) rfl ?_)
  refine wpAny_bind (alive_read ?_)
  rw [show (Int.toNat (T : Int)) = T from rfl, al]
  show wpAny _ _ (field (.ref z) 1 >>= _) _ _ _
  refine wpAny_bind (wpAny_field hz rfl (x := .bool b) rfl ?_)
  cases b with
  | true =>
    show wpAny _ _ (if (Value.bool true != Value.bool true) = true then _ else _) _ _ _
    rw [if_neg (by decide)]
    exact wpAny_pure (k s.heap hz ⟨rfl, fun _ _ => rfl⟩)
  | false =>
    show wpAny _ _ (if (Value.bool false != Value.bool true) = true then _ else _) _ _ _
    rw [if_pos (by decide)]
    refine wpAny_bind (wpAny_setField_rec hz (by simp) fun h' hz' same => wpAny_pure (k h' hz' same))
theorem held_item {R : Value → Shared → Prop} (D1 : Draws prog w A i1 fp1 n1 P1 St1) (D2 : Draws prog w A i2 fp2 n2 P2 St2) (zf1 : z ∉ fp1) (zf2 : z ∉ fp2) (f12 : i1 ∉ fp2) (f21 : i2 ∉ fp1) (m1 : i1 ∈ fp1) (m2 : i2 ∈ fp2)
    (hz : ZipHeld s.heap z TI TO T b) (alive : ∃ o, s.heap.get? T = some o) (hTI : IsTupOf2 s.heap TI (.ref i1) (.ref i2)) (st1 : St1 i s.heap) (st2 : St2 i s.heap) (lt1 : i < n1) (lt2 : i < n2)
    (k : ∀ x1 x2 h' tk, P1 i x1 → P2 i x2 → ZipHeld h' z TI TO T true → St1 (i + 1) h' → St2 (i + 1) h' → IsTupOf2 h' s.heap.objs.size x1 x2 → h'.objs.size = s.heap.objs.size + 1 →
      (∀ c o, c ≠ z → c ≠ i1 → c ≠ i2 → s.heap.get? c = some o → h'.get? c = some o) → R (.ref s.heap.objs.size) { s with heap := h', toks := tk }) :
    wpAny (model prog w) A (Builtin.«zip.__next__» ⟨[.ref z], []⟩) (fun fin s' => ∃ v, fin = .done (.ret v) ∧ R v s') E s := by
  obtain ⟨hp, gs, dr, tk0, os⟩ := s
  show wpAny _ _ (field (.ref z) 2 >>= _) _ _ _
  refine wpAny_bind (wpAny_field hz rfl (x := .bool false) rfl ?_)
  show wpAny _ _ (field (.ref z) 3 >>= _) _ _ _
  refine wpAny_bind (wpAny_field hz rfl (x := .ref TI) rfl ?_)
  refine wpAny_bind (wpAny_seqItems hTI rfl ?_)
  show wpAny _ _ (Builtin.SmallTypes.ownedTupleIsFree (.ref z) >>= _) _ _ _
  refine wpAny_bind (held_asked hz alive fun h1 hz1 same1 => ?_)
  replace same1 : Heap.SameBut z hp h1 := same1
  rw [if_neg (by decide)]
  dsimp only
  refine wpAny_bind ?_
  simp only [List.forIn_toArray, List.forIn_cons, List.forIn_nil]
  refine wpAny_bind (wpAny_bind (wpAny_holding ?_))
  show wpAny _ _ (Builtin.SmallTypes.nextOf (.ref i1) >>= _) _ _ ⟨h1, gs, dr, tk0, os⟩
  refine wpAny_bind (D1.item i _ _ _ lt1 (D1.over st1 same1 zf1) fun x1 h2 tk1 hx1 st1' same2 => wpAny_pure ?_)
  replace same2 : Heap.SameBut i1 h1 h2 := same2
  refine wpAny_pure ?_
  dsimp only
  refine wpAny_bind (wpAny_bind (wpAny_holding ?_))
  show wpAny _ _ (Builtin.SmallTypes.nextOf (.ref i2) >>= _) _ _ ⟨h2, gs, dr, tk1, os⟩
  refine wpAny_bind (D2.item i _ _ _ lt2 (D2.over (D2.over st2 same1 zf2) same2 f12) fun x2 h3 tk2 hx2 st2' same3 => wpAny_pure ?_)
  replace same3 : Heap.SameBut i2 h2 h3 := same3
  refine wpAny_pure (wpAny_pure ?_)
  dsimp only
  refine wpAny_bind (wpAny_newTuple (hsz := (show 2 ≤ sizeLine by decide)) ?_)
  have z1 : z ≠ i1 := fun e => zf1 (by rw [e]; exact m1)
  have z2 : z ≠ i2 := fun e => zf2 (by rw [e]; exact m2)
  have size3 : h3.objs.size = hp.objs.size := by rw [same3.1, same2.1, same1.1]
  have hz3 : ZipHeld h3 z TI TO T true := same3.extBut _ _ z2 (same2.extBut _ _ z1 hz1)
  refine wpAny_pure ⟨_, rfl, ?_⟩
  show R (.ref h3.objs.size) ⟨h3.push { cls := .type "tuple", data := .seq #[x1, x2] }, gs, dr, tk2, os⟩
  have grow : ∀ c o, h3.get? c = some o → (h3.push { cls := .type "tuple", data := .seq #[x1, x2] }).get? c = some o := fun c o e => Heap.get?_push_of_some _ e
  have new : IsTupOf2 (h3.push { cls := .type "tuple", data := .seq #[x1, x2] }) h3.objs.size x1 x2 := Heap.get?_push_size _ rfl
  have sizeN : (h3.push { cls := .type "tuple", data := .seq #[x1, x2] }).objs.size = h3.objs.size + 1 := by rw [Heap.size_push]
  rw [size3] at new sizeN ⊢
  exact k x1 x2 _ tk2 hx1 hx2 (grow _ _ hz3) (D1.frame _ _ _ (D1.over st1' same3 f21) fun c _ o e => grow c o e) (D2.frame _ _ _ st2' fun c _ o e => grow c o e) new sizeN
    fun c o n0 n1 n2 e => grow c o (same3.extBut _ _ n2 (same2.extBut _ _ n1 (same1.extBut _ _ n0 e)))
theorem held_end {R : Fin → Shared → Prop} (D1 : Draws prog w A i1 fp1 n1 P1 St1) (zf1 : z ∉ fp1)
    (hz : ZipHeld s.heap z TI TO T b) (alive : ∃ o, s.heap.get? T = some o) (hTI : IsTupOf2 s.heap TI (.ref i1) (.ref i2)) (st1 : St1 n1 s.heap)
    (k : ∀ h' tk e, (∀ c o, c ≠ z → c ≠ i1 → s.heap.get? c = some o → h'.get? c = some o) → (∃ o, h'.get? e = some o ∧ o.cls = .type "StopIteration") → E (.ref e) { s with heap := h', toks := tk }) :
    wpAny (model prog w) A (Builtin.«zip.__next__» ⟨[.ref z], []⟩) R E s := by
  obtain ⟨hp, gs, dr, tk0, os⟩ := s
  show wpAny _ _ (field (.ref z) 2 >>= _) _ _ _
  refine wpAny_bind (wpAny_field hz rfl (x := .bool false) rfl ?_)
  show wpAny _ _ (field (.ref z) 3 >>= _) _ _ _
  refine wpAny_bind (wpAny_field hz rfl (x := .ref TI) rfl ?_)
  refine wpAny_bind (wpAny_seqItems hTI rfl ?_)
  show wpAny _ _ (Builtin.SmallTypes.ownedTupleIsFree (.ref z) >>= _) _ _ _
  refine wpAny_bind (held_asked hz alive fun h1 hz1 same1 => ?_)
  replace same1 : Heap.SameBut z hp h1 := same1
  rw [if_neg (by decide)]
  dsimp only
  refine wpAny_bind ?_
  simp only [List.forIn_toArray, List.forIn_cons, List.forIn_nil]
  refine wpAny_bind (wpAny_bind (wpAny_holding ?_))
  show wpAny _ _ (Builtin.SmallTypes.nextOf (.ref i1) >>= _) _ _ ⟨h1, gs, dr, tk0, os⟩
  refine wpAny_bind (D1.done ⟨h1, gs, dr, tk0, os⟩ _ _ (D1.over st1 same1 zf1) fun h2 e same2 stop => ?_)
  replace same2 : Heap.ExtBut i1 h1 h2 := same2
  exact k h2 tk0 e (fun c o n0 n1 x => same2 _ _ n1 (same1.extBut _ _ n0 x)) stop
end
section
variable {prog : Program} {w : World} {A : Around} {E : Value → Shared → Prop} {s : Shared} {z TI TO T i1 i2 : Addr} {fp1 fp2 : List Addr} {n1 n2 i : Nat} {P1 P2 : Nat → Value → Prop} {St1 St2 : Nat → Heap → Prop} {b : Bool}
theorem held_next {R : Option Value → Shared → Prop} (D1 : Draws prog w A.in1 i1 fp1 n1 P1 St1) (D2 : Draws prog w A.in1 i2 fp2 n2 P2 St2) (zf1 : z ∉ fp1) (zf2 : z ∉ fp2) (f12 : i1 ∉ fp2) (f21 : i2 ∉ fp1) (m1 : i1 ∈ fp1) (m2 : i2 ∈ fp2)
    (hz : ZipHeld s.heap z TI TO T b) (alive : ∃ o, s.heap.get? T = some o) (hTI : IsTupOf2 s.heap TI (.ref i1) (.ref i2)) (st1 : St1 i s.heap) (st2 : St2 i s.heap) (lt1 : i < n1) (lt2 : i < n2)
    (k : ∀ x1 x2 h' tk, P1 i x1 → P2 i x2 → ZipHeld h' z TI TO T true → St1 (i + 1) h' → St2 (i + 1) h' → IsTupOf2 h' s.heap.objs.size x1 x2 → h'.objs.size = s.heap.objs.size + 1 →
      (∀ c o, c ≠ z → c ≠ i1 → c ≠ i2 → s.heap.get? c = some o → h'.get? c = some o) → R (some (.ref s.heap.objs.size)) { s with heap := h', toks := tk }) :
    wpAny (model prog w) A (pyNext (.ref z)) R E s := by
  have ty : s.TypeIs (.ref z) "zip" := ⟨_, hz, rfl⟩
  unfold pyNext
  refine wpAny_bind (wpAny_attempt (wpAny_callSpecial?_slot (name := Str.ofString "__next__")
    ty F.slot_zip_next (wpAny_call_entry F.slot_zip_next ty F.entry_zip_next ?_ (F.args_zip_next_1 _))))
  exact held_item D1 D2 zf1 zf2 f12 f21 m1 m2 hz alive hTI st1 st2 lt1 lt2 fun x1 x2 h' tk a1 a2 a3 a4 a5 a6 a7 a8 => wpAny_pure (k x1 x2 h' tk a1 a2 a3 a4 a5 a6 a7 a8)
theorem held_done {R : Option Value → Shared → Prop} (D1 : Draws prog w A.in1 i1 fp1 n1 P1 St1) (zf1 : z ∉ fp1)
    (hz : ZipHeld s.heap z TI TO T b) (alive : ∃ o, s.heap.get? T = some o) (hTI : IsTupOf2 s.heap TI (.ref i1) (.ref i2)) (st1 : St1 n1 s.heap)
    (k : ∀ h' tk, (∀ c o, c ≠ z → c ≠ i1 → s.heap.get? c = some o → h'.get? c = some o) → R none { s with heap := h', toks := tk }) :
    wpAny (model prog w) A (pyNext (.ref z)) R E s := by
  have ty : s.TypeIs (.ref z) "zip" := ⟨_, hz, rfl⟩
  unfold pyNext
  refine wpAny_bind (wpAny_attempt (wpAny_callSpecial?_slot (name := Str.ofString "__next__")
    ty F.slot_zip_next (wpAny_call_entry F.slot_zip_next ty F.entry_zip_next ?_ (F.args_zip_next_1 _))))
  refine held_end D1 zf1 hz alive hTI st1 fun h' tk e kept stop => ?_
  obtain ⟨o, ho, hc⟩ := stop
  refine wpAny_bind (wpAny_isInstance (T := "StopIteration") (b := true) ⟨o, ho, hc⟩ isSubtype_stop ?_)
  exact wpAny_pure (k _ _ kept)
end
/-- the pairs that were made, by their places -/
structure PairsAt (P1 P2 : Nat → Value → Prop) (lo : Addr) (h : Heap) (as : List Addr) : Prop where
  above : ∀ a ∈ as, lo ≤ a
  pair : ∀ (j : Nat) (a : Addr), as[j]? = some a → ∃ x y, P1 j x ∧ P2 j y ∧ IsTupOf2 h a x y
  rise : as.Pairwise (· < ·)
theorem PairsAt.keep {P1 P2 : Nat → Value → Prop} {lo : Addr} {h h' : Heap} {as : List Addr} (g : PairsAt P1 P2 lo h as) (k : ∀ a o, lo ≤ a → h.get? a = some o → h'.get? a = some o) : PairsAt P1 P2 lo h' as :=
  ⟨g.above, fun j a e => by
    obtain ⟨x, y, h1, h2, h3⟩ := g.pair j a e
    exact ⟨x, y, h1, h2, k _ _ (g.above a (List.mem_of_getElem? e)) h3⟩, g.rise⟩
theorem PairsAt.more {P1 P2 : Nat → Value → Prop} {lo a : Addr} {h : Heap} {as : List Addr} {x y : Value} (g : PairsAt P1 P2 lo h as) (low : ∀ c ∈ as, c < a) (ha : lo ≤ a) (h1 : P1 as.length x) (h2 : P2 as.length y) (h3 : IsTupOf2 h a x y) : PairsAt P1 P2 lo h (as ++ [a]) := by
  refine ⟨fun c hc => ?_, fun j c e => ?_, ?_⟩
  · rcases List.mem_append.mp hc with hc | hc
    · exact g.above c hc
    · rw [List.mem_singleton.mp hc]; exact ha
  · rcases Nat.lt_trichotomy j as.length with l | l | l
    · rw [List.getElem?_append_left l] at e
      exact g.pair j c e
    · subst l
      have e' : a = c := by simpa using e
      subst e'
      exact ⟨x, y, h1, h2, h3⟩
    · rw [List.getElem?_eq_none (by rw [List.length_append, List.length_singleton]; omega)] at e
      cases e
  · refine List.pairwise_append.mpr ⟨g.rise, List.pairwise_singleton _ _, fun c hc d hd => ?_⟩
    rw [List.mem_singleton.mp hd]
    exact low c hc
section
variable {prog : Program} {w : World} {A : Around} {R : Result → Shared → Prop} {s : Shared} {z TI TO i1 i2 S : Addr} {fp1 fp2 : List Addr} {n : Nat} {P1 P2 : Nat → Value → Prop} {St1 St2 : Nat → Heap → Prop}
/-- where the zip stands behind i pairs -/
def ZipAt (z TI TO i1 i2 : Addr) (St1 St2 : Nat → Heap → Prop) (i : Nat) (h : Heap) (as : List Addr) : Prop :=
  IsTupOf2 h TI (.ref i1) (.ref i2) ∧ St1 i h ∧ St2 i h ∧
    ((i = 0 ∧ IsZip h z TI TO .none ∧ IsTupOf2 h TO .none .none) ∨ ∃ T b, T ∈ as ∧ ZipHeld h z TI TO T b)
theorem zip_loop (Z : ZipSep2 z TI TO i1 i2 fp1 fp2) (D1 : Draws prog w A.in1.in1 i1 fp1 n P1 St1) (D2 : Draws prog w A.in1.in1 i2 fp2 n P2 St2) (lo : Addr) (hlo : z < lo ∧ TI < lo ∧ TO < lo ∧ i1 < lo ∧ i2 < lo ∧ S < lo)
    (nS : S ≠ z ∧ S ≠ TI ∧ S ≠ TO ∧ S ∉ fp1 ∧ S ∉ fp2) (few : n ≤ sizeLine) (some1 : 1 ≤ n) (res : Value) {h0 : Heap}
    (fin : ∀ h' tk acc c as, (∀ b o, b ≠ S → b ≠ z → b ≠ TO → b ≠ i1 → b ≠ i2 → h0.get? b = some o → h'.get? b = some o) → h'.get? S = some { cls := .type "list", dict := none, data := .seq acc c, slots := #[] } →
      as.length = n → PairsAt P1 P2 lo h' as → acc.toList = as.map Value.ref → R (.ok (.ret res)) { s with heap := h', toks := tk }) :
    ∀ (k i : Nat) (h : Heap) (tk c : Nat) (acc : Array Value) (as : List Addr), n - i = k → i ≤ n → ZipAt z TI TO i1 i2 St1 St2 i h as → (∀ b o, b ≠ S → b ≠ z → b ≠ TO → b ≠ i1 → b ≠ i2 → h0.get? b = some o → h.get? b = some o) →
      h.get? S = some { cls := .type "list", dict := none, data := .seq acc c, slots := #[] } → acc.toList = as.map Value.ref → as.length = i → PairsAt P1 P2 lo h as → lo ≤ h.objs.size →
      codeAny (model prog w) A (.builtin "list.extend.loop" ⟨[.ref S, .ref z, res], []⟩) R { s with heap := h, toks := tk } := by
  have zi1 : z ≠ i1 := Z.zi1
  have zi2 : z ≠ i2 := Z.zi2
  have Si1 : S ≠ i1 := fun e => nS.2.2.2.1 (by rw [e]; exact Z.mem1)
  have Si2 : S ≠ i2 := fun e => nS.2.2.2.2 (by rw [e]; exact Z.mem2)
  intro k
  induction k with
  | zero =>
    intro i h tk c acc as hk hi at_ old hS hacc hlen pairs hsz
    have atEnd : i = n := by omega
    subst atEnd
    obtain ⟨hTI, st1, st2, free | ⟨T, b, mT, held⟩⟩ := at_
    · omega
    obtain ⟨j, hj⟩ := List.mem_iff_getElem?.mp mT
    obtain ⟨x, y, _, _, tT⟩ := pairs.pair j T hj
    refine codeAny_builtin F.entry_extend_loop
      ?_
    rw [Around.under_plainId F.plain_extend_loop]
    show wpAny _ _ (pyNext (.ref z) >>= _) _ _ _
    refine wpAny_bind (held_done (s := { s with heap := h, toks := tk }) D1 Z.zf1 held ⟨_, tT⟩ hTI st1 fun h' tk' kept => ?_)
    replace kept : ∀ c o, c ≠ z → c ≠ i1 → h.get? c = some o → h'.get? c = some o := kept
    refine wpAny_pure (fin h' tk' acc c as (fun b o b1 b2 b3 b4 b5 e => kept b o b2 b4 (old b o b1 b2 b3 b4 b5 e)) (kept S _ nS.1 Si1 hS) hlen (pairs.keep fun a o la e => kept a o ?_ ?_ e) hacc)
    · exact Nat.ne_of_gt (Nat.lt_of_lt_of_le hlo.1 la)
    · exact Nat.ne_of_gt (Nat.lt_of_lt_of_le hlo.2.2.2.1 la)
  | succ k ih =>
    intro i h tk c acc as hk hi at_ old hS hacc hlen pairs hsz
    have lt : i < n := by omega
    have asz : acc.size = i := by rw [← Array.length_toList, hacc, List.length_map, hlen]
    obtain ⟨hTI, st1, st2, way⟩ := at_
    refine codeAny_builtin F.entry_extend_loop
      ?_
    rw [Around.under_plainId F.plain_extend_loop]
    show wpAny _ _ (pyNext (.ref z) >>= _) _ _ _
    -- behind the next pair, however it was made
    have go : ∀ x1 x2 h' tk' b, P1 i x1 → P2 i x2 → (∃ T, T ∈ as ++ [h.objs.size] ∧ ZipHeld h' z TI TO T b) → St1 (i + 1) h' → St2 (i + 1) h' → IsTupOf2 h' h.objs.size x1 x2 → h'.objs.size = h.objs.size + 1 →
        (∀ c o, c ≠ z → c ≠ TO → c ≠ i1 → c ≠ i2 → h.get? c = some o → h'.get? c = some o) →
        wpAny (model prog w) A.in1 (updateSeq S (·.push (Value.ref h.objs.size)) >>= fun _ => again (.builtin "list.extend.loop" ⟨[.ref S, .ref z, res], []⟩))
          (fun fin s' => match fin with | .done f => R (.ok f) s' | .again c' => c'.quiet = true ∧ codeAny (model prog w) A c' R s') (fun e s' => R (.error e) s') { s with heap := h', toks := tk' } := by
      intro x1 x2 h' tk' b hx1 hx2 held st1' st2' new size' kept
      obtain ⟨T, mT, held⟩ := held
      have hS' := kept S _ nS.1 nS.2.2.1 Si1 Si2 hS
      have up : ∀ b o, b ≠ S → h'.get? b = some o → (h'.update S (Obj.mapSeq (·.push (Value.ref h.objs.size)))).get? b = some o :=
        fun b o hb e => (Heap.get?_update_other _ _ (Ne.symm hb)).trans e
      refine wpAny_bind ?_
      refine wpAny_updateSeq hS' rfl (wpAny_pure ⟨plainId_quiet F.plain_extend_loop _,
        ih (i + 1) _ tk' _ (acc.push (Value.ref h.objs.size)) (as ++ [h.objs.size]) (by omega) lt ⟨up _ _ (Ne.symm nS.2.1) (kept _ _ Z.TIz Z.TITO Z.TIi1 Z.TIi2 hTI),
          D1.frame _ _ _ st1' fun b hb o e => up b o (fun q => nS.2.2.2.1 (q ▸ hb)) e, D2.frame _ _ _ st2' fun b hb o e => up b o (fun q => nS.2.2.2.2 (q ▸ hb)) e, .inr ⟨T, b, mT, up _ _ (Ne.symm nS.1) held⟩⟩
          (fun b o b1 b2 b3 b4 b5 e => up b o b1 (kept b o b2 b3 b4 b5 (old b o b1 b2 b3 b4 b5 e))) (Heap.get?_update_self _ hS' rfl) (by rw [Array.toList_push, hacc, List.map_append]; rfl) (by rw [List.length_append, hlen]; rfl) ?_ ?_⟩)
        (by rw [asz]; omega) (by rw [Array.size_push, asz]; omega)
      · have p1 : PairsAt P1 P2 lo (h'.update S (Obj.mapSeq (·.push (Value.ref h.objs.size)))) as := pairs.keep fun a o la e =>
          up a o (Nat.ne_of_gt (Nat.lt_of_lt_of_le hlo.2.2.2.2.2 la)) (kept a o (Nat.ne_of_gt (Nat.lt_of_lt_of_le hlo.1 la)) (Nat.ne_of_gt (Nat.lt_of_lt_of_le hlo.2.2.1 la))
            (Nat.ne_of_gt (Nat.lt_of_lt_of_le hlo.2.2.2.1 la)) (Nat.ne_of_gt (Nat.lt_of_lt_of_le hlo.2.2.2.2.1 la)) e)
        refine p1.more (fun c hc => ?_) hsz (by rw [hlen]; exact hx1) (by rw [hlen]; exact hx2) (up _ _ (Nat.ne_of_gt (Nat.lt_of_lt_of_le hlo.2.2.2.2.2 hsz)) new)
        obtain ⟨j, hj⟩ := List.mem_iff_getElem?.mp hc
        obtain ⟨_, _, _, _, tc⟩ := pairs.pair j c hj
        exact Heap.lt_size tc
      · have e : (h'.update S (Obj.mapSeq (·.push (Value.ref h.objs.size)))).get? h.objs.size = _ := up _ _ (Nat.ne_of_gt (Nat.lt_of_lt_of_le hlo.2.2.2.2.2 hsz)) new
        exact Nat.le_trans hsz (Nat.le_of_lt (Heap.lt_size e))
    rcases way with ⟨e0, free, hTO⟩ | ⟨T, b, mT, held⟩
    · subst e0
      have e0 : as = [] := List.eq_nil_of_length_eq_zero hlen
      subst e0
      refine wpAny_bind (wpAny_pyNext_zipD2_item (s := { s with heap := h, toks := tk }) Z D1 D2 free hTI hTO st1 st2 lt lt fun x1 x2 h' tk' a1 a2 a3 a4 a5 a6 a7 a8 a9 => ?_)
      exact go x1 x2 h' tk' false a1 a2 ⟨h.objs.size, List.mem_singleton.mpr rfl, a3⟩ a5 a6 a7 a8 a9
    · obtain ⟨j, hj⟩ := List.mem_iff_getElem?.mp mT
      obtain ⟨x, y, _, _, tT⟩ := pairs.pair j T hj
      refine wpAny_bind (held_next (s := { s with heap := h, toks := tk }) D1 D2 Z.zf1 Z.zf2 ?_ ?_ Z.mem1 Z.mem2 held ⟨_, tT⟩ hTI st1 st2 lt lt fun x1 x2 h' tk' a1 a2 a3 a4 a5 a6 a7 a8 => ?_)
      · exact Z.sep1_2
      · exact Z.sep2_1
      · exact go x1 x2 h' tk' true a1 a2 ⟨T, List.mem_append_left _ mT, a3⟩ a4 a5 a6 a7 fun c o c1 c2 c3 c4 e => a8 c o c1 c3 c4 e
end
theorem nolen_zip : typeLookup (.type "zip") "__len__" = pure none := by
  rw [typeLookup_type, builtinLookup_eq_fast]
  kernel_rfl
theorem nohint_zip : typeLookup (.type "zip") "__length_hint__" = pure none := by
  rw [typeLookup_type, builtinLookup_eq_fast]
  kernel_rfl
section
variable {prog : Program} {w : World} {A : Around} {E : Value → Shared → Prop} {s : Shared} {z TI TO i1 i2 : Addr} {fp1 fp2 : List Addr} {n : Nat} {P1 P2 : Nat → Value → Prop} {St1 St2 : Nat → Heap → Prop}
theorem list_of_zip {R : Value → Shared → Prop} (Z : ZipSep2 z TI TO i1 i2 fp1 fp2) (D1 : Draws prog w A.in1.in1.in1 i1 fp1 n P1 St1) (D2 : Draws prog w A.in1.in1.in1 i2 fp2 n P2 St2)
    (below : z < s.heap.objs.size ∧ TI < s.heap.objs.size ∧ TO < s.heap.objs.size ∧ i1 < s.heap.objs.size ∧ i2 < s.heap.objs.size) (b1 : ∀ b ∈ fp1, b < s.heap.objs.size) (b2 : ∀ b ∈ fp2, b < s.heap.objs.size)
    (few : n ≤ sizeLine) (some1 : 1 ≤ n) (hz : IsZip s.heap z TI TO .none) (hTI : IsTupOf2 s.heap TI (.ref i1) (.ref i2)) (hTO : IsTupOf2 s.heap TO .none .none) (st1 : St1 0 s.heap) (st2 : St2 0 s.heap)
    (k : ∀ h' tk acc c as, (∀ b o, b ≠ z → b ≠ TO → b ≠ i1 → b ≠ i2 → s.heap.get? b = some o → h'.get? b = some o) → h'.get? s.heap.objs.size = some { cls := .type "list", dict := none, data := .seq acc c, slots := #[] } →
      as.length = n → PairsAt P1 P2 (s.heap.objs.size + 1) h' as → acc.toList = as.map Value.ref → R (.ref s.heap.objs.size) { s with heap := h', toks := tk }) :
    wpAny (model prog w) A (call (.type "list") [.ref z]) R E s := by
  refine callType_codes (Q₁ := fun obj s1 => obj = .ref s.heap.objs.size ∧ s1 = { s with heap := s.heap.push { cls := .type "list", data := .seq #[] } })
    F.called_list (F.typeCall_list_1 _) F.entry_list_init (code_list_new _ ⟨rfl, rfl⟩) fun obj s1 made => ?_
  obtain ⟨rfl, rfl⟩ := made
  have zS : z ≠ s.heap.objs.size := Nat.ne_of_lt below.1
  have hS0 : (s.heap.push { cls := .type "list", data := .seq #[] }).get? s.heap.objs.size = some { cls := .type "list", data := .seq #[] } := Heap.get?_push_size _ rfl
  have k0 : ∀ b o, s.heap.get? b = some o → (s.heap.push { cls := .type "list", data := .seq #[] }).get? b = some o := fun b o e => Heap.get?_push_of_some _ e
  refine ⟨⟨_, hS0, rfl⟩, F.args_list_init_2 _ _, ?_⟩
  show wpAny _ _ (do let old ← Builtin.List.listItems (.ref s.heap.objs.size)
                     Builtin.List.listUpdate (.ref s.heap.objs.size) (fun _ => #[])
                     letGo old.toList.reverse
                     Builtin.List.listExtendWith (.ref s.heap.objs.size) (.ref z) .none) _ _ _
  refine wpAny_bind ?_
  unfold Builtin.List.listItems
  refine wpAny_bind (wpAny_seqItems hS0 rfl (wpAny_pure ?_))
  show wpAny _ _ (updateSeq s.heap.objs.size (fun _ => #[]) >>= fun _ => letGo (#[] : Array Value).toList.reverse >>= fun _ =>
    Builtin.List.listExtendWith (.ref s.heap.objs.size) (.ref z) .none) _ _ _
  refine wpAny_bind (wpAny_updateSeq hS0 rfl ?_)
  have stay : ∀ (h : Heap) (f : Obj → Obj), (∀ b o, s.heap.get? b = some o → h.get? b = some o) → ∀ b o, s.heap.get? b = some o → (h.update s.heap.objs.size f).get? b = some o :=
    fun h f q b o e => (Heap.get?_update_other _ _ (Nat.ne_of_gt (Heap.lt_size e))).trans (q b o e)
  have hS1 := Heap.get?_update_self (Obj.mapSeq (fun _ => (#[] : Array Value))) hS0 rfl
  have k1 := stay _ (Obj.mapSeq (fun _ => (#[] : Array Value))) k0
  refine wpAny_bind (wpAny_letGo ?_)
  unfold Builtin.List.listExtendWith
  have ty : Shared.TypeIs { s with heap := (s.heap.push { cls := .type "list", data := .seq #[] }).update s.heap.objs.size (Obj.mapSeq (fun _ => (#[] : Array Value))) } (.ref z) "zip" := ⟨_, k1 _ _ hz, rfl⟩
  refine wpAny_bind (wpAny_typeOf ty ?_)
  have f1 : Builtin.List.listSameRef (.ref s.heap.objs.size) (.ref z) = false := by
    simp [Builtin.List.listSameRef, Ne.symm zS]
  have f2 : (Value.type "zip" == Value.type "list") = false := by decide
  have f3 : (Value.type "zip" == Value.type "tuple") = false := by decide
  simp only [f1, f2, f3, Bool.or_false, Bool.false_eq_true, if_false]
  refine wpAny_bind (wpAny_pyIter_zip (k1 _ _ hz) ?_)
  refine wpAny_bind (wpAny_holding ?_)
  unfold Builtin.List.listLengthHint
  refine wpAny_bind (wpAny_specialOf ty nolen_zip ?_)
  show wpAny _ _ (specialOf (Value.ref z) (Str.ofString "__length_hint__") >>= _) _ _ _
  refine wpAny_bind (wpAny_specialOf ty nohint_zip ?_)
  refine wpAny_pure ?_
  show wpAny _ _ (rule "list.extend.makes-room" >>= fun _ => Builtin.List.listTouch (.ref s.heap.objs.size) >>= fun _ =>
    again (.builtin "list.extend.loop" ⟨[.ref s.heap.objs.size, .ref z, .none], []⟩)) _ _ _
  refine wpAny_bind (wpAny_rule ?_)
  refine wpAny_bind ?_
  show wpAny _ _ (updateSeq s.heap.objs.size (·.push .none) >>= fun _ =>
    updateSeq s.heap.objs.size (·.pop)) _ _ _
  refine wpAny_bind (wpAny_updateSeq hS1 rfl ?_)
  have hS2 := Heap.get?_update_self (Obj.mapSeq (·.push Value.none)) hS1 rfl
  refine wpAny_updateSeq (hz := by seq_fits) hS2 rfl ?_
  have hS3 := Heap.get?_update_self (Obj.mapSeq (·.pop)) hS2 rfl
  have k3 := stay _ (Obj.mapSeq (·.pop)) (stay _ (Obj.mapSeq (·.push Value.none)) k1)
  have grown : ∀ (h : Heap) (f : Obj → Obj) (o : Obj), (∃ b, h.get? s.heap.objs.size = some b) → s.heap.objs.size + 1 ≤ h.objs.size := fun h f o ⟨b, e⟩ => Heap.lt_size e
  refine wpAny_pure ⟨plainId_quiet F.plain_extend_loop _, ?_⟩
  refine zip_loop (A := A.in1) (s := s) (h0 := s.heap) (n := n) Z D1 D2 (s.heap.objs.size + 1) ⟨Nat.lt_succ_of_lt below.1, Nat.lt_succ_of_lt below.2.1, Nat.lt_succ_of_lt below.2.2.1, Nat.lt_succ_of_lt below.2.2.2.1, Nat.lt_succ_of_lt below.2.2.2.2, Nat.lt_succ_self _⟩
    ⟨Ne.symm zS, Nat.ne_of_gt below.2.1, Nat.ne_of_gt below.2.2.1, fun m => Nat.lt_irrefl _ (b1 _ m), fun m => Nat.lt_irrefl _ (b2 _ m)⟩ few some1 .none
    (fun h' tk acc c as kept hS' hl pairs hacc => ⟨rfl, k h' tk acc c as (fun b o n1 n2 n3 n4 e => kept b o (Nat.ne_of_lt (Heap.lt_size e)) n1 n2 n3 n4 e) hS' hl pairs hacc⟩)
    n 0 _ _ _ _ [] (Nat.sub_zero _) (Nat.zero_le _) ⟨k3 _ _ hTI, D1.frame _ _ _ st1 fun b _ o e => k3 b o e, D2.frame _ _ _ st2 fun b _ o e => k3 b o e, .inl ⟨rfl, k3 _ _ hz, k3 _ _ hTO⟩⟩
    (fun b o _ _ _ _ _ e => k3 b o e) hS3 rfl rfl ⟨fun _ m => (nomatch m), fun j a e => by simp at e, List.Pairwise.nil⟩ (grown _ id default ⟨_, hS3⟩)
end
/-- many new objects are laid at once -/
theorem laidAll {X : Cx} {pins : List (Addr × Obj)} {σ : L2.St} {H H' : Hp} {s : Shared} {h' : Heap} {tk : Nat} (I : Inv X pins σ H s) (kept : ∀ b o, s.heap.get? b = some o → h'.get? b = some o)
    (same : Same H H') (off : ∀ b o, s.heap.get? b = some o → H b = none → H' b = none) (new : ∀ b u, H' b = some u → H b = none → ObjOk X.prog X.w H' h' b u) :
    Inv X pins σ H' { s with heap := h', toks := tk } := by
  refine I.call' (ch := []) rfl ⟨fun b o q _ _ _ => kept b o q, fun b o q _ _ _ => ⟨o.slots, kept b o q⟩, fun b o q n _ => off b o q n, fun b o q _ => ⟨o, kept b o q⟩,
    fun b xs q => same b _ q, fun b o u q => same b _ q, fun b ps q => ⟨#[], by rw [same b _ q]; simp⟩⟩ (fun b u q => ?_) I.bare fun b z => by simp at z
  cases e : H b with
  | none => exact new b u q e
  | some o =>
    have e2 := same b o e
    rw [q] at e2
    cases e2
    exact (I.hok b u e).stay (fun d v _ y => kept d v y) (fun d y => same d _ y) fun d xs y => same d _ y
def putP : Hp → List Addr → List (V × V) → Hp
  | H, a :: as, p :: ps => putP (upd H a (.tup [p.1, p.2])) as ps
  | H, _, _ => H
theorem putP_off {b : Addr} : ∀ (as : List Addr) (ps : List (V × V)) (H : Hp), b ∉ as → putP H as ps b = H b
  | [], _, _, _ => rfl
  | _ :: _, [], _, _ => rfl
  | a :: as, p :: ps, H, h => by
    show putP (upd H a (.tup [p.1, p.2])) as ps b = H b
    rw [putP_off as ps _ (fun z => h (List.mem_cons_of_mem _ z)), upd_ne (fun z => h (by rw [z]; exact List.mem_cons_self))]
theorem putP_at : ∀ (as : List Addr) (ps : List (V × V)) (H : Hp), as.length = ps.length → as.Nodup → ∀ (j : Nat) (a : Addr) (p : V × V), as[j]? = some a → ps[j]? = some p → putP H as ps a = some (.tup [p.1, p.2])
  | [], _, _, _, _, j, a, p, e, _ => by simp at e
  | _ :: _, [], _, l, _, _, _, _, _, _ => by simp at l
  | c :: as, q :: ps, H, l, nd, 0, a, p, e1, e2 => by
    have e1 : c = a := Option.some.inj e1
    have e2 : q = p := Option.some.inj e2
    subst e1 e2
    show putP (upd H c (.tup [q.1, q.2])) as ps c = _
    rw [putP_off as ps _ (List.nodup_cons.mp nd).1, upd_same]
  | c :: as, q :: ps, H, l, nd, j + 1, a, p, e1, e2 =>
    putP_at as ps _ (Nat.succ.inj l) (List.nodup_cons.mp nd).2 j a p e1 e2
def rListZip (K : PySem.W.Frag) : List V → Hp → VK → Prop := fun vs H Q => ∃ (a b : Addr) (xs ys : List V), vs = [.ref a, .ref b] ∧ SqL K H a xs ∧ SqT K H b ys ∧ xs.length = ys.length ∧ 1 ≤ xs.length ∧ xs.length ≤ 100000 ∧
  ∀ (H' : Hp) (D : Addr) (ts : List Addr), Same H H' → H D = none → H' D = some (.lst (ts.map V.ref)) → ts.length = xs.length →
    (∀ (j : Nat) (t : Addr), ts[j]? = some t → ∃ x y, xs[j]? = some x ∧ ys[j]? = some y ∧ H' t = some (.tup [x, y])) → Q (.ref D) H'
theorem refs_vals : ∀ as : List Addr, Vals (as.map V.ref) (as.map Value.ref)
  | [] => .nil
  | _ :: as => .cons rfl (refs_vals as)
/-- list(zip(a list, a tuple)) -/
theorem pe_listZip {X : Cx} {e1 e2 : Expr} {ta : TA} {p1 p2 pos pos2 : Pos} (calm : X.calm = true) (hg : Gl X "list") (hm : X.mg "list" = none) (hg2 : Gl X "zip") (hm2 : X.mg "zip" = none) (ha : PA X [e1, e2] ta)
    (plain2 : starEach [e1, e2] X.env = (false, eval e1 X.env) :: starEach [e2] X.env := by rfl) (rest2 : (backTo pos2 (starEach [e2] X.env)).any (·.1) = false := by rfl)
    (plain : starEach [.Call (.Name "zip" p2) [e1, e2] [] pos2] X.env = (false, eval (.Call (.Name "zip" p2) [e1, e2] [] pos2) X.env) :: starEach [] X.env := by rfl) :
    PE X (.Call (.Name "list" p1) [.Call (.Name "zip" p2) [e1, e2] [] pos2] [] pos) (tCB (rListZip X.K) ta) := by
  refine ⟨fun pins s σ H Q I want => ?_⟩
  refine wpAny_Call_Name_kw (ld_blt (u := .type "list") I hg hm (by decide +kernel) ?_)
  refine PyProof.Rows.callWith_type1 ?_ plain rfl
  rw [plain]
  show wpAny _ _ (spliced ((false, eval (.Call (.Name "zip" p2) [e1, e2] [] pos2) X.env) ::
    backTo pos (starEach [] X.env))) _ _ s
  refine Calls.spliced_cons ?_
  refine Call_ (ld_blt I hg2 hm2 boot_zip (PyProof.Rows.callWith_type1 (thn (ha.run pos2 pins s σ H _ I want) fun us s1 got => ?_) plain2 rest2))
  obtain ⟨vs, H1, I1, rel, a, b, xs, ys, rfl, hx, hy, leq, some1, few, k⟩ := got
  cases rel with | cons r1 rel => cases rel with | cons r2 rel =>
  cases rel
  cases r1
  cases r2
  obtain ⟨its, rv, lst, _⟩ := I1.list hx
  obtain ⟨its2, rv2, tup, _⟩ := I1.tuple hy
  have len1 := rv.length
  have len2 := rv2.length
  have lowA : a < s1.heap.objs.size := lst.lt
  have lowB : b < s1.heap.objs.size := by
    obtain ⟨o, z, _⟩ := tup
    exact Heap.lt_size z
  refine zip_begins2 (begins_list a its.toArray) (begins_tuple b its2.toArray) lst.isList tup fun h1 hz hTI hTO g1 g2 size1 kept1 => ?_
  refine Calls.spliced_nil ?_
  have hot := I1.ok.hd calm
  have Z := zip_sep2 (N := s1.heap.objs.size) (fp1 := [a]) (fp2 := [b]) (fun c hc => by rw [List.mem_singleton.mp hc]; exact lowA) (fun c hc => by rw [List.mem_singleton.mp hc]; exact lowB)
  have D1 := Draws.list (prog := X.prog) (w := X.w) (A := X.A.in1.in1.in1) hot s1.heap.objs.size a (Nat.ne_of_lt lowA) its.toArray
  have D2 := Draws.tuple (prog := X.prog) (w := X.w) (A := X.A.in1.in1.in1) hot (s1.heap.objs.size + 1) b (Nat.ne_of_lt (Nat.lt_succ_of_lt lowB)) its2.toArray
  have sz1 : its.toArray.size = xs.length := by rw [List.size_toArray, len1]
  have sz2 : its2.toArray.size = xs.length := by rw [List.size_toArray, leq, len2]
  rw [sz1] at D1
  rw [sz2] at D2
  refine list_of_zip (s := { s1 with heap := h1 }) (A := X.A) Z D1 D2 ?_ ?_ ?_ (le_line few) some1 hz hTI hTO ⟨⟨_, g1, rfl, rfl⟩, lst.isList.at fun o q => kept1 _ o q⟩ ⟨⟨_, g2, rfl, rfl⟩, ?_⟩ ?_
  · show _ < h1.objs.size ∧ _ < h1.objs.size ∧ _ < h1.objs.size ∧ _ < h1.objs.size ∧ _ < h1.objs.size
    rw [size1]
    exact ⟨by omega, by omega, by omega, by omega, by omega⟩
  · intro c hc
    show c < h1.objs.size
    rw [size1]
    rcases List.mem_cons.mp hc with e | hc
    · rw [e]; exact Nat.lt_add_of_pos_right (by decide)
    · rw [List.mem_singleton.mp hc]; exact Nat.lt_add_right 5 lowA
  · intro c hc
    show c < h1.objs.size
    rw [size1]
    rcases List.mem_cons.mp hc with e | hc
    · rw [e]; exact Nat.add_lt_add_left (by decide) _
    · rw [List.mem_singleton.mp hc]; exact Nat.lt_add_right 5 lowB
  · obtain ⟨o, q1, q2⟩ := tup
    exact ⟨o, kept1 _ _ q1, q2⟩
  · intro h' tk acc c as kept hD hl pairs hacc
    replace kept : ∀ (b : Addr) o, b ≠ s1.heap.objs.size + 4 → b ≠ s1.heap.objs.size + 3 → b ≠ s1.heap.objs.size → b ≠ s1.heap.objs.size + 1 → h1.get? b = some o → h'.get? b = some o := kept
    replace hD : h'.get? h1.objs.size = _ := hD
    have pairs : PairsAt _ _ (h1.objs.size + 1) h' as := pairs
    have keptAll : ∀ b o, s1.heap.get? b = some o → h'.get? b = some o := fun b o q => by
      have low := Heap.lt_size q
      exact kept b o (Nat.ne_of_lt (Nat.lt_add_right 4 low)) (Nat.ne_of_lt (Nat.lt_add_right 3 low)) (Nat.ne_of_lt low) (Nat.ne_of_lt (Nat.lt_succ_of_lt low)) (kept1 b o q)
    have high : ∀ t ∈ as, s1.heap.objs.size ≤ t ∧ h1.objs.size < t := fun t ht => by
      have q := pairs.above t ht
      exact ⟨Nat.le_trans (by rw [size1]; exact Nat.le_trans (Nat.le_add_right _ 5) (Nat.le_succ _)) q, q⟩
    have nd : as.Nodup := List.Pairwise.imp (fun {a b} (h : a < b) => Nat.ne_of_lt h) pairs.rise
    have newD : H1 h1.objs.size = none := I1.hok.fresh (by rw [size1]; exact Nat.le_add_right _ _)
    have newT : ∀ t ∈ as, H1 t = none := fun t ht => I1.hok.fresh (high t ht).1
    have offD : h1.objs.size ∉ as := fun z => Nat.lt_irrefl _ (high _ z).2
    have lz : (xs.zip ys).length = xs.length := by rw [List.length_zip, leq, Nat.min_self]
    have at_ := putP_at as (xs.zip ys) (upd H1 h1.objs.size (.lst (as.map V.ref))) (by rw [hl, lz]) nd
    have off : ∀ b, b ∉ as → b ≠ h1.objs.size → putP (upd H1 h1.objs.size (.lst (as.map V.ref))) as (xs.zip ys) b = H1 b := fun b q1 q2 => by rw [putP_off as _ _ q1, upd_ne q2]
    have onD : putP (upd H1 h1.objs.size (.lst (as.map V.ref))) as (xs.zip ys) h1.objs.size = some (.lst (as.map V.ref)) := by rw [putP_off as _ _ offD, upd_same]
    have same : Same H1 (putP (upd H1 h1.objs.size (.lst (as.map V.ref))) as (xs.zip ys)) := fun b o q => by
      rw [off b (fun z => by rw [newT b z] at q; cases q) (fun z => by rw [z, newD] at q; cases q)]
      exact q
    have tell : ∀ (j : Nat) (t : Addr), as[j]? = some t → ∃ x y u v, xs[j]? = some x ∧ ys[j]? = some y ∧ RelV x u ∧ RelV y v ∧ h'.get? t = some { cls := .type "tuple", data := .seq #[u, v] } := fun j t q => by
      obtain ⟨u, v, hu, hv, ht⟩ := pairs.pair j t q
      have lt : j < xs.length := by
        have := (List.getElem?_eq_some_iff.mp q).1
        omega
      have gx : xs[j]? = some xs[j] := List.getElem?_eq_getElem lt
      have gy : ys[j]? = some ys[j] := List.getElem?_eq_getElem (by omega)
      obtain ⟨u', hu', ru⟩ := rv.get gx
      obtain ⟨v', hv', rv'⟩ := rv2.get gy
      rw [List.getElem?_toArray, hu'] at hu
      rw [List.getElem?_toArray, hv'] at hv
      cases hu
      cases hv
      exact ⟨_, _, _, _, gx, gy, ru, rv', ht⟩
    have zipAt : ∀ (j : Nat) (x y : V), xs[j]? = some x → ys[j]? = some y → (xs.zip ys)[j]? = some (x, y) := fun j x y q1 q2 => by
      rw [List.getElem?_zip_eq_some]
      exact ⟨q1, q2⟩
    have J := laidAll (tk := tk) I1 keptAll same (fun b o q n => by
        have low := Heap.lt_size q
        rw [off b (fun z => Nat.lt_irrefl _ (Nat.lt_of_lt_of_le low (high b z).1)) (Nat.ne_of_lt (by rw [size1]; exact Nat.lt_add_right 5 low))]
        exact n)
      fun b u q n => by
        by_cases hb : b ∈ as
        · obtain ⟨j, hj⟩ := List.mem_iff_getElem?.mp hb
          obtain ⟨x, y, u', v', q1, q2, r1, r2, q3⟩ := tell j b hj
          have e := at_ j b (x, y) hj (zipAt j x y q1 q2)
          rw [e] at q
          cases q
          exact ⟨Nat.le_of_ble_eq_true rfl, [u', v'], .cons r1 (.cons r2 .nil), ⟨_, q3, rfl, _, rfl⟩⟩
        · by_cases hb2 : b = h1.objs.size
          · subst hb2
            rw [onD] at q
            cases q
            refine ⟨by rw [List.length_map, hl]; exact le_line few, acc.toList, c, by rw [hacc]; exact refs_vals as, ?_⟩
            rw [Array.toArray_toList]
            exact hD
          · rw [off b hb hb2, n] at q
            cases q
    refine ⟨.ref h1.objs.size, _, J, rfl, k _ _ as same newD onD hl fun j t q => ?_⟩
    obtain ⟨x, y, u, v, q1, q2, _, _, _⟩ := tell j t q
    exact ⟨x, y, q1, q2, at_ j t (x, y) q (zipAt j x y q1 q2)⟩

/-! ### a constant of the module -/
def KT (K : PySem.W.Frag) (a : Addr) (xs : List V) : Prop := ∃ (o : Obj) (its : Array Value) (n : Nat), K.lookup a = some o ∧ o.cls = .type "tuple" ∧ o.data = .seq its n ∧ its.size ≤ sizeLine ∧ Vals xs its.toList
theorem KT.sq {K : PySem.W.Frag} {a : Addr} {xs : List V} (H : Hp) (h : KT K a xs) : SqT K H a xs := .inr h
theorem side_in {n : Nat} (h : Side n) : inV (.int n) [.int 1, .int 2, .int 4, .int 8] = true := by
  unfold Side at h
  rcases h with h | h | h | h <;> subst h <;> decide +kernel
/-- a dict of the module: its words, each with a pair -/
structure LeastK (K : PySem.W.Frag) (w : World) (a : Addr) : Prop where
  dict : ∃ es n, KDict K w a es n
  du : ∀ x : Du, ∃ p, PySem.W.nsIn K a x.s = some (some (.ref p)) ∧ KT K p [.int (match x with | .party => 2 | .cut => 1 | .quartered => 2), .int (match x with | .party => 1 | .cut => 2 | .quartered => 2)]
  pi : ∀ x : Pi, ∃ p, PySem.W.nsIn K a x.s = some (some (.ref p)) ∧ KT K p [.int (match x with | .pillar => 4 | .band => 1 | .head => 1 | .edge => 4), .int (match x with | .pillar => 1 | .band => 4 | .head => 4 | .edge => 4)]
def Kw.fits (w h : Nat) : Kw → Bool
  | .c _ => true | .d x => x.fits w h | .p x => x.fits w h
theorem inV_cols (c : Co) : inV (.str c.s) [.str "white", .str "yellow", .str "black", .str "blue", .str "green", .str "red"] = true := by cases c <;> decide +kernel
theorem inV_cols_du (c : Du) : inV (.str c.s) [.str "white", .str "yellow", .str "black", .str "blue", .str "green", .str "red"] = false := by cases c <;> decide +kernel
theorem inV_cols_pi (c : Pi) : inV (.str c.s) [.str "white", .str "yellow", .str "black", .str "blue", .str "green", .str "red"] = false := by cases c <;> decide +kernel
theorem rIxD_ {K : PySem.W.Frag} {w : World} {H : Hp} {Q : VK} {p : Addr} {z : Str} {v : V} (h : KDct K w p z v) (q : Q v H) : rIxD K w (.ref p) (.str z) H Q := ⟨p, z, v, rfl, rfl, h, q⟩
theorem KDict.gives {K : PySem.W.Frag} {w : World} {d a : Addr} {es : Array DictEntry} {n : Nat} {z : Str} (D : KDict K w d es n) (e : PySem.W.nsIn K d z = some (some (.ref a))) : KDct K w d z (.ref a) := ⟨es, n, _, D.at_, D.lit, e, rfl⟩
theorem KDict.item {K : PySem.W.Frag} {w : World} {d a : Addr} {es : Array DictEntry} {n : Nat} {z : Str} (D : KDict K w d es n) (e : PySem.W.nsIn K d z = some (some (.ref a))) : KDct K w d z (.ref a) := ⟨es, n, _, D.at_, D.lit, e, rfl⟩
section
variable {H : Hp} {Q : VK}
theorem rRep_ {l : Addr} {k : Int} {xs : List V} (h : H l = some (.lst xs)) (k0 : -(2 ^ 63) ≤ k) (k1 : k < 2 ^ 63) (few : xs.length * k.toNat ≤ 100000) (q : ∀ p H2, H p = none → Same H H2 → H2 p = some (.lst (List.replicate k.toNat xs).flatten) → Q (.ref p) H2) : rRep (.ref l) (.int k) H Q :=
  ⟨l, k, xs, rfl, rfl, h, k0, k1, le_line few, fun p n => q p _ n (same_new n) upd_same⟩
theorem rCatL_ {l b : Addr} {xs zs : List V} (h : H l = some (.lst xs)) (h2 : H b = some (.lst zs)) (few : xs.length + zs.length ≤ 100000) (q : ∀ p H2, H p = none → Same H H2 → H2 p = some (.lst (xs ++ zs)) → Q (.ref p) H2) : L2.rCat (.ref l) (.ref b) H Q :=
  ⟨l, b, xs, zs, rfl, rfl, h, h2, le_line few, fun p n => q p _ n (same_new n) upd_same⟩
theorem rSlL_ {K : PySem.W.Frag} {a : Addr} {xs : List V} {lo hi : Option Int} (h : SqL K H a xs) (q : ∀ p H2, H p = none → Same H H2 → H2 p = some (.lst (cutV xs lo hi)) → Q (.ref p) H2) : rSlL K (.ref a) lo hi H Q :=
  ⟨a, xs, rfl, h, fun p n => q p _ n (same_new n) upd_same⟩
end
def TruQ (K : PySem.W.Frag) (QB : Bool → Hp → Prop) : VK := fun x H' => ∃ k, TruV K x H' k ∧ QB k H'
def tTr (K : PySem.W.Frag) (ta : TE) : TT := fun σ H QB => ta σ H (TruQ K QB)
theorem z_truth {X : Cx} {a : Expr} {ta : TE} (ha : PE X a ta) (he : ∀ whole, isTrue a X.env whole = (do let v ← whole; standAt a.pos; holding [v] (truthy v))) : PT X a (tTr X.K ta) := pt_truth ha he
section
variable {σ : L2.St} {H : Hp} {K : PySem.W.Frag} {QB : Bool → Hp → Prop}
theorem rTr {ta : TE} (h : ta σ H (TruQ K QB)) : tTr K ta σ H QB := h
theorem rTruL {p : Addr} {xs : List V} (h : SqL K H p xs) (q : QB (!xs.isEmpty) H) : TruQ K QB (.ref p) H := ⟨_, (show TruV K (.ref p) H (!xs.isEmpty) from .inl ⟨xs, h, rfl⟩), q⟩
theorem rTruT {p : Addr} {xs : List V} (h : SqT K H p xs) (q : QB (!xs.isEmpty) H) : TruQ K QB (.ref p) H := ⟨_, (show TruV K (.ref p) H (!xs.isEmpty) from .inr (.inl ⟨xs, h, rfl⟩)), q⟩
end
theorem side_le {n : Nat} (h : Side n) : 1 ≤ n ∧ n ≤ 8 := by unfold Side at h; omega
theorem side_half {n : Nat} (h : Side n) (h2 : 2 ≤ n) : Side (n / 2) := by
  unfold Side at *
  omega
theorem side_part {x : Du} {w h : Nat} (f : x.fits w h = true) (sw : Side w) (sh : Side h) : Side (x.pw w) ∧ Side (x.ph h) := by
  cases x
  · exact ⟨side_half sw (of_decide_eq_true f), sh⟩
  · exact ⟨sw, side_half sh (of_decide_eq_true f)⟩
  · have f' : (decide (2 ≤ w) && decide (2 ≤ h)) = true := f
    rw [Bool.and_eq_true] at f'
    exact ⟨side_half sw (of_decide_eq_true f'.1), side_half sh (of_decide_eq_true f'.2)⟩
theorem range_snoc {α : Type} (f : Nat → α) (i : Nat) : (List.range (i + 1)).map f = (List.range i).map f ++ [f i] := by
  rw [List.range_succ, List.map_append]; rfl
theorem wds_pos (t : Tr) : 0 < t.wds.length := by
  cases t <;> (simp only [Tr.wds, List.length_cons, List.length_nil]; omega)
theorem atI_zero {x : V} {xs : List V} : atI (x :: xs) 0 = some x := atI_nat (j := 0) rfl
def Kw.behind (w h : Nat) : Kw → List (Nat × Nat)
  | .c _ => [] | .d x => [(x.pw w, x.ph h), (x.pw w, x.ph h)] | .p _ => [(1, 1), (w, h)]
def SizeAt (K : PySem.W.Frag) (H : Hp) (a : Addr) (s : Nat × Nat) : Prop := SqT K H a [.int s.1, .int s.2]
def Tr.szs : Nat → Nat → Tr → List (Nat × Nat)
  | w, h, .col _ => [(w, h)]
  | w, h, .two d a b => (w, h) :: (a.szs (d.pw w) (d.ph h) ++ b.szs (d.pw w) (d.ph h))
  | w, h, .pc _ _ b => (w, h) :: (1, 1) :: b.szs w h
abbrev Pd := (Nat × Nat) × Tr
def Tr.kw : Tr → Kw
  | .col c => .c c | .two d _ _ => .d d | .pc p _ _ => .p p
def pok (p : Pd) : Prop := p.2.ok p.1.1 p.1.2 ∧ 1 ≤ p.1.1 ∧ 1 ≤ p.1.2
def pwds : List Pd → List Str
  | [] => [] | p :: r => p.2.wds ++ pwds r
def pszs : List Pd → List (Nat × Nat)
  | [] => [] | p :: r => p.2.szs p.1.1 p.1.2 ++ pszs r
def psz : List Pd → List (Nat × Nat)
  | [] => [] | p :: r => p.1 :: psz r
def pstep : List Pd → List Pd
  | [] => []
  | (_, .col _) :: r => r
  | ((w, h), .two d a b) :: r => ((d.pw w, d.ph h), a) :: ((d.pw w, d.ph h), b) :: r
  | ((w, h), .pc _ c b) :: r => ((1, 1), .col c) :: ((w, h), b) :: r
theorem pstep_wds (x : Pd) (r : List Pd) : pwds (x :: r) = x.2.kw.s :: pwds (pstep (x :: r)) := by
  obtain ⟨⟨w, h⟩, t⟩ := x
  cases t <;> simp [pwds, pstep, Tr.wds, Tr.kw, Kw.s]
theorem pstep_szs (x : Pd) (r : List Pd) : pszs (x :: r) = x.1 :: pszs (pstep (x :: r)) := by
  obtain ⟨⟨w, h⟩, t⟩ := x
  cases t <;> simp [pszs, pstep, Tr.szs]
theorem pstep_sz (x : Pd) (r : List Pd) : psz (pstep (x :: r)) = x.2.kw.behind x.1.1 x.1.2 ++ psz r := by
  obtain ⟨⟨w, h⟩, t⟩ := x
  cases t <;> simp [psz, pstep, Tr.kw, Kw.behind]
theorem pok_fits {x : Pd} (h : pok x) : x.2.kw.fits x.1.1 x.1.2 = true := by
  obtain ⟨⟨w, hh⟩, t⟩ := x
  cases t with
  | col c => rfl
  | two d a b => exact h.1.1
  | pc p c b => exact h.1.1
theorem du_part_pos {d : Du} {w h : Nat} (f : d.fits w h = true) (hw : 1 ≤ w) (hh : 1 ≤ h) : 1 ≤ d.pw w ∧ 1 ≤ d.ph h := by
  cases d <;> simp [Du.fits, Du.pw, Du.ph] at * <;> omega
theorem pstep_ok {x : Pd} {r : List Pd} (hx : pok x) (hr : ∀ p ∈ r, pok p) : ∀ p ∈ pstep (x :: r), pok p := by
  obtain ⟨⟨w, h⟩, t⟩ := x
  obtain ⟨ok, hw, hh⟩ := hx
  cases t with
  | col c => exact hr
  | two d a b =>
    have := du_part_pos ok.1 hw hh
    intro p hp
    rcases List.mem_cons.mp hp with e | hp
    · rw [e]; exact ⟨ok.2.1, this.1, this.2⟩
    · rcases List.mem_cons.mp hp with e | hp
      · rw [e]; exact ⟨ok.2.2, this.1, this.2⟩
      · exact hr p hp
  | pc p0 c b =>
    intro p hp
    rcases List.mem_cons.mp hp with e | hp
    · rw [e]; exact ⟨trivial, Nat.le_refl _, Nat.le_refl _⟩
    · rcases List.mem_cons.mp hp with e | hp
      · rw [e]; exact ⟨ok.2, hw, hh⟩
      · exact hr p hp
theorem kw_white {k : Kw} (h : k.s = Co.white.s) : k = .c .white := Kw.inj (b := .c .white) h
theorem white_end : ∀ l : List Pd, (∀ x ∈ pwds l, x = Co.white.s) → pszs l = psz l
  | [], _ => rfl
  | x :: r, h => by
    have hk : x.2.kw = .c .white := kw_white (h _ (by rw [pstep_wds]; exact List.mem_cons_self))
    obtain ⟨⟨w, hh⟩, t⟩ := x
    cases t with
    | col c =>
      have ih := white_end r fun y hy => h y (by simp [pwds, hy])
      simp [pszs, psz, Tr.szs, ih]
    | two d a b => cases hk
    | pc p c b => cases hk
/-- a full saying of which white words at the end are left out -/
def Short (F l : List Str) : Prop := ∃ m, m ≤ F.length ∧ l = F.take m ∧ ∀ i, m ≤ i → i < F.length → F[i]? = some Co.white.s
theorem paired_app {α β : Type} {F : α → β → Prop} : ∀ {l l' : List α} {m m' : List β}, Paired F l m → Paired F l' m' → Paired F (l ++ l') (m ++ m')
  | _, _, _, _, .nil, h => h
  | _, _, _, _, .cons r t, h => .cons r (paired_app t h)
theorem szs_len : ∀ (t : Tr) (w h : Nat), (t.szs w h).length = t.wds.length
  | .col _, _, _ => rfl
  | .two d a b, w, h => by simp [Tr.szs, Tr.wds, szs_len a, szs_len b]
  | .pc p c b, w, h => by simp [Tr.szs, Tr.wds, szs_len b]
/-! ### a tuple times 0, 1, more -/
set_option maxHeartbeats 4000000 in
theorem times0 (l : Addr) (items : Array Value) (n : Nat) (dd : Option Addr) (sl : Array (Option Value)) (u : Tok) (full : items.isEmpty = false) :
    Meets (Builtin.«tuple.__mul__» ⟨[.ref l, .int 0 u], []⟩) (fun _ R s => s.heap.get? l = some { cls := .type "tuple", dict := dd, data := .seq items n, slots := sl } ∧
      R (.ok (.ret (Value.ref s.heap.objs.size))) { s with heap := s.heap.push { cls := Value.type "tuple", data := Data.seq #[] } }) :=
  .of_wp fun prog w A R s both => by
    obtain ⟨hp, gs, dr, tk, os⟩ := s
    obtain ⟨there, both⟩ := both
    have ix := AutoSeq1.idx_int
    have e1 : (items.isEmpty || (0 : Int) == 1) = false := by rw [full]; rfl
    wp_walk using wpAny_loadPart' there
    repeat (first
      | (refine wpAny_ite_false (decide_eq_false (by rw [e1]; exact Bool.false_ne_true)) ?_
         wp_walk using wpAny_loadPart' there))
    exact ⟨_, rfl, both⟩
set_option maxHeartbeats 4000000 in
theorem times1 (l : Addr) (items : Array Value) (n : Nat) (dd : Option Addr) (sl : Array (Option Value)) (u : Tok) :
    Meets (Builtin.«tuple.__mul__» ⟨[.ref l, .int 1 u], []⟩) (fun _ R s => s.heap.get? l = some { cls := .type "tuple", dict := dd, data := .seq items n, slots := sl } ∧
      R (.ok (.ret (Value.ref l))) s) :=
  .of_wp fun prog w A R s both => by
    obtain ⟨hp, gs, dr, tk, os⟩ := s
    obtain ⟨there, both⟩ := both
    have ix := AutoSeq1.idx_int
    have ty : Shared.TypeIs ⟨hp, gs, dr, tk, os⟩ (.ref l) "tuple" := ⟨_, there, rfl⟩
    have e1 : (items.isEmpty || (1 : Int) == 1) = true := by rw [Bool.or_eq_true]; exact .inr rfl
    wp_walk using wpAny_loadPart' there
    repeat (first
      | (refine wpAny_ite_true (decide_eq_true e1) ?_
         wp_walk using wpAny_loadPart' there, wpAny_typeOf ty))
    exact ⟨_, rfl, both⟩
/-- a tuple that isn't empty, times a small number -/
def rRepA (K : PySem.W.Frag) : R2 := fun x y H Q => ∃ (l : Addr) (k : Int) (xs : List V), x = .ref l ∧ y = .int k ∧ SqT K H l xs ∧ xs ≠ [] ∧ 0 ≤ k ∧ k ≤ 1000 ∧ xs.length ≤ 1000 ∧
  ∀ (p : Addr) (H' : Hp), Same H H' → SqT K H' p (List.replicate k.toNat xs).flatten → Q (.ref p) H'
theorem op_repA {X : Cx} : OpR X (binaryOp .Mult) (rRepA X.K) := by
  intro pins s σ H x y v u Q I rx ry want
  obtain ⟨l, k, xs, rfl, rfl, hT, some1, k0, k1, few, q⟩ := want
  by_cases big : 2 ≤ k
  · exact op_repT pins s σ H _ _ v u Q I rx ry ⟨l, k, xs, rfl, rfl, hT, some1, big, k1, few, fun p n => q p _ (same_new n) (SqT.of upd_same)⟩
  cases rx
  obtain ⟨t, rfl⟩ := ry
  obtain ⟨its, rel, ⟨⟨cls, dd, data, sl⟩, there, hc, n, hd⟩, _⟩ := I.tuple hT
  simp only at hc hd
  subst hc hd
  have len := rel.length
  have full : its.toArray.isEmpty = false := by
    cases its with
    | nil => exact absurd (List.eq_nil_of_length_eq_zero len) some1
    | cons a b => rfl
  have two : k = 0 ∨ k = 1 := by omega
  refine wpAny_binaryOp_repeat_ref (T := "tuple")
    (U := "int") (by decide) ⟨_, there, rfl⟩ (fun s' => typeIs_int s' k t) noFill_tuple_mul F.fills_int_mul F.slot_int_rmul repeat_tuple F.slot_int_index.lookup ?_
  refine call_meets F.slot_int_rmul (typeIs_int s k t) F.entry_int_rmul (F.args_int_rmul_2 _ _) (int_rmul_tuple k t l its.toArray n dd sl) ⟨there, rfl, ⟨_, there, rfl⟩, ?_⟩
  rcases two with e | e
  · subst e
    refine call_meets F.slot_tuple_mul ⟨_, there, rfl⟩ F.entry_tuple_mul (F.args_tuple_mul_2 _ _) (times0 l its.toArray n dd sl t full) ⟨there, ?_⟩
    refine ⟨.ref s.heap.objs.size, _, I.laid (t' := s.toks) (o := .tup []) (fun b ob z => Heap.get?_push_of_some _ z) (Nat.le_refl _) ?_, rfl, q _ _ (same_new (I.hok.fresh (Nat.le_refl _))) (SqT.of upd_same)⟩
    exact ⟨Nat.zero_le _, [], .nil, IsTup.new _ _⟩
  · subst e
    refine call_meets F.slot_tuple_mul ⟨_, there, rfl⟩ F.entry_tuple_mul (F.args_tuple_mul_2 _ _) (times1 l its.toArray n dd sl t) ⟨there, ?_⟩
    refine ⟨.ref l, H, I, rfl, q l H (Same.refl H) ?_⟩
    rw [show (1 : Int).toNat = 1 from rfl, List.replicate_one, List.flatten_cons, List.flatten_nil, List.append_nil]
    exact hT
theorem rRepA_ {K : PySem.W.Frag} {H : Hp} {Q : VK} {l : Addr} {k : Int} {xs : List V} (h : SqT K H l xs) (n0 : xs ≠ []) (k0 : 0 ≤ k) (k1 : k ≤ 1000) (few : xs.length ≤ 1000) (q : ∀ p H', Same H H' → SqT K H' p (List.replicate k.toNat xs).flatten → Q (.ref p) H') : rRepA K (.ref l) (.int k) H Q :=
  ⟨l, k, xs, rfl, rfl, h, n0, k0, k1, few, q⟩
theorem rep_one {α : Type} (x : α) : ∀ n : Nat, (List.replicate n [x]).flatten = List.replicate n x
  | 0 => rfl
  | n + 1 => by rw [List.replicate_succ, List.flatten_cons, rep_one x n, List.replicate_succ]; rfl
theorem short_full {F l : List Str} (h : Short F l) : l ++ List.replicate (F.length - l.length) Co.white.s = F := by
  obtain ⟨m, hm, rfl, hw⟩ := h
  rw [List.length_take, Nat.min_eq_left hm]
  refine List.ext_getElem? fun i => ?_
  by_cases hi : i < m
  · rw [List.getElem?_append_left (by rw [List.length_take, Nat.min_eq_left hm]; exact hi), List.getElem?_take, if_pos hi]
  · rw [List.getElem?_append_right (by rw [List.length_take, Nat.min_eq_left hm]; omega), List.length_take, Nat.min_eq_left hm, List.getElem?_replicate]
    by_cases h2 : i < F.length
    · rw [if_pos (by omega), hw i (by omega) h2]
    · rw [if_neg (by omega), List.getElem?_eq_none (by omega)]
theorem Short.seen {F l : List Str} (h : Short F l) : Seen F l := by
  intro i
  rw [← short_full h]
  rw [List.getD_eq_getElem?_getD, List.getD_eq_getElem?_getD]
  by_cases hi : i < l.length
  · rw [List.getElem?_append_left hi]
  · rw [List.getElem?_eq_none (by omega), List.getElem?_append_right (by omega), List.getElem?_replicate]
    split <;> rfl
section
variable {σ : L2.St} {H : Hp} {K : PySem.W.Frag}
def IZipQ (K : PySem.W.Frag) (R : It → Hp → Prop) : List V → Hp → Prop := fun vs H1 => ∃ a b xs ys, vs = [.ref a, .ref b] ∧ ((SqL K H1 a xs ∧ SqL K H1 b ys ∧ R (Itz K a b) H1) ∨ (SqT K H1 a xs ∧ SqT K H1 b ys ∧ R (RZ.ItzT K a b) H1))
theorem riZip {ta : TA} {R : It → Hp → Prop} (h : ta σ H (IZipQ K R)) : RZ.iZipA K ta σ H R := h
theorem rIZipT {R : It → Hp → Prop} {a b : Addr} {xs ys : List V} (ha : SqT K H a xs) (hb : SqT K H b ys) (q : R (RZ.ItzT K a b) H) : IZipQ K R [.ref a, .ref b] H := ⟨a, b, xs, ys, rfl, .inr ⟨ha, hb, q⟩⟩
/-- [.. for x, y in zip(two tuples of one length)] -/
theorem lc_zipT {a b : Addr} {xs ys : List V} {g : TG} {tt : TT} {te : TE} {vs : List Nat} {H1 : Hp} {D : Addr} {Qd : Hp → Prop} (leq : xs.length = ys.length) (Pv : Nat → Hp → Prop) (h0 : Pv 0 (upd H1 D (.lst []))) (hl : ∀ i H, i ≤ xs.length → Pv i H → SqT K H a xs ∧ SqT K H b ys)
    (hs : ∀ i x y H T H', xs[i]? = some x → ys[i]? = some y → Pv i H → H T = none → Same H H' → H' T = some (.tup [x, y]) → g (.ref T) (wipe σ vs) H' fun σ2 H2 => wipe σ2 vs = wipe σ vs ∧ tt σ2 H2 fun b H3 =>
      if b = true then te σ2 H3 fun y H4 => ∃ acc, H4 D = some (.lst acc) ∧ acc.length < sizeLine ∧ Pv (i + 1) (upd H4 D (.lst (acc ++ [y]))) else Pv (i + 1) H3) (hd : ∀ H, Pv xs.length H → Qd H) :
    ∃ W : Nat → Nat → Hp → Prop, (∃ m, W 0 m (upd H1 D (.lst []))) ∧ ∀ i m H, W i m H →
      (((RZ.ItzT K a b).stop i H ∧ Qd H) ∨ ((RZ.ItzT K a b).go i H ∧ ∃ Nx : Hp → Prop, (∀ H', Nx H' → ∃ m', m' < m ∧ W (i + 1) m' H') ∧ ∀ x H', (RZ.ItzT K a b).yld i H x H' → g x (wipe σ vs) H' fun σ2 H2 => wipe σ2 vs = wipe σ vs ∧ tt σ2 H2 fun b H3 =>
        if b = true then te σ2 H3 fun y H4 => ∃ acc, H4 D = some (.lst acc) ∧ acc.length < sizeLine ∧ Nx (upd H4 D (.lst (acc ++ [y]))) else Nx H3)) := by
  refine ⟨fun i m H => m = xs.length - i ∧ i ≤ xs.length ∧ Pv i H, ⟨xs.length, by simp, Nat.zero_le _, h0⟩, ?_⟩
  rintro i m H ⟨rfl, hi, p⟩
  obtain ⟨q1, q2⟩ := hl i H hi p
  rcases Nat.lt_or_ge i xs.length with lt | ge
  · refine .inr ⟨⟨xs, ys, xs[i], ys[i], q1, q2, List.getElem?_eq_getElem lt, List.getElem?_eq_getElem (by omega)⟩, Pv (i + 1), fun H' p' => ⟨xs.length - (i + 1), by omega, rfl, lt, p'⟩, ?_⟩
    rintro v H' ⟨T, x, y, rfl, nT, rfl, y1, y2⟩
    exact hs i x y H T _ (y1 xs q1) (y2 ys q2) p nT (same_new nT) upd_same
  · have e : i = xs.length := by omega
    subst e
    exact .inl ⟨⟨xs, ys, q1, q2, .inl (Nat.le_refl _)⟩, hd H p⟩
def IRevQ (K : PySem.W.Frag) (R : It → Hp → Prop) : VK := fun v H1 => ∃ (a : Addr) (xs : List V), v = .ref a ∧ ((SqL K H1 a xs ∧ R (Itv K a xs.length) H1) ∨ (SqT K H1 a xs ∧ R (RT.ItvT K a xs.length) H1))
theorem riRev {te : TE} {R : It → Hp → Prop} (h : te σ H (IRevQ K R)) : RT.iRevA K te σ H R := h
theorem rIRevL {R : It → Hp → Prop} {a : Addr} {xs : List V} (h : SqL K H a xs) (q : R (Itv K a xs.length) H) : IRevQ K R (.ref a) H := ⟨a, xs, rfl, .inl ⟨h, q⟩⟩
theorem rIRevT {R : It → Hp → Prop} {a : Addr} {xs : List V} (h : SqT K H a xs) (q : R (RT.ItvT K a xs.length) H) : IRevQ K R (.ref a) H := ⟨a, xs, rfl, .inr ⟨h, q⟩⟩
/-- for x in reversed(a list that stands), reversed(a tuple) -/
theorem for_revL {a : Addr} {xs : List V} {g : TG} {tb : TS} {D : Ends} (Pv : Nat → L2.St → Hp → Prop) (h0 : Pv 0 σ H) (hl : ∀ i σ H, i ≤ xs.length → Pv i σ H → SqL K H a xs)
    (hs : ∀ i x σ H, i < xs.length → xs[xs.length - 1 - i]? = some x → Pv i σ H → g x σ H fun σ2 H2 => tb { D with nx := Pv (i + 1), ct := Pv (i + 1), bk := D.nx } σ2 H2)
    (hd : ∀ σ H, Pv xs.length σ H → D.nx σ H) : ∃ W : Nat → Nat → L2.St → Hp → Prop, (∃ m, W 0 m σ H) ∧ ∀ i m σ H, W i m σ H → (((Itv K a xs.length).stop i H ∧ D.nx σ H) ∨
      ((Itv K a xs.length).go i H ∧ ∃ N : L2.St → Hp → Prop, (∀ σ' H', N σ' H' → ∃ m', m' < m ∧ W (i + 1) m' σ' H') ∧ ∀ x H', (Itv K a xs.length).yld i H x H' → g x σ H' fun σ2 H2 => tb { D with nx := N, ct := N, bk := D.nx } σ2 H2)) := by
  refine ⟨fun i m σ H => m = xs.length - i ∧ i ≤ xs.length ∧ Pv i σ H, ⟨xs.length, by simp, Nat.zero_le _, h0⟩, ?_⟩
  rintro i m σ H ⟨rfl, hi, p⟩
  have q := hl i σ H hi p
  rcases Nat.lt_or_ge i xs.length with lt | ge
  · refine .inr ⟨⟨lt, xs, xs[xs.length - 1 - i], q, List.getElem?_eq_getElem (by omega)⟩, Pv (i + 1), fun σ' H' p' => ⟨xs.length - (i + 1), by omega, rfl, lt, p'⟩, ?_⟩
    rintro v H' ⟨rfl, y⟩
    exact hs i v σ _ lt (y xs q) p
  · have e : i = xs.length := by omega
    subst e
    exact .inl ⟨Nat.le_refl _, hd σ H p⟩
theorem for_revT {a : Addr} {xs : List V} {g : TG} {tb : TS} {D : Ends} (Pv : Nat → L2.St → Hp → Prop) (h0 : Pv 0 σ H) (hl : ∀ i σ H, i ≤ xs.length → Pv i σ H → SqT K H a xs)
    (hs : ∀ i x σ H, i < xs.length → xs[xs.length - 1 - i]? = some x → Pv i σ H → g x σ H fun σ2 H2 => tb { D with nx := Pv (i + 1), ct := Pv (i + 1), bk := D.nx } σ2 H2)
    (hd : ∀ σ H, Pv xs.length σ H → D.nx σ H) : ∃ W : Nat → Nat → L2.St → Hp → Prop, (∃ m, W 0 m σ H) ∧ ∀ i m σ H, W i m σ H → (((RT.ItvT K a xs.length).stop i H ∧ D.nx σ H) ∨
      ((RT.ItvT K a xs.length).go i H ∧ ∃ N : L2.St → Hp → Prop, (∀ σ' H', N σ' H' → ∃ m', m' < m ∧ W (i + 1) m' σ' H') ∧ ∀ x H', (RT.ItvT K a xs.length).yld i H x H' → g x σ H' fun σ2 H2 => tb { D with nx := N, ct := N, bk := D.nx } σ2 H2)) := by
  refine ⟨fun i m σ H => m = xs.length - i ∧ i ≤ xs.length ∧ Pv i σ H, ⟨xs.length, by simp, Nat.zero_le _, h0⟩, ?_⟩
  rintro i m σ H ⟨rfl, hi, p⟩
  have q := hl i σ H hi p
  rcases Nat.lt_or_ge i xs.length with lt | ge
  · refine .inr ⟨⟨lt, xs, xs[xs.length - 1 - i], q, List.getElem?_eq_getElem (by omega)⟩, Pv (i + 1), fun σ' H' p' => ⟨xs.length - (i + 1), by omega, rfl, lt, p'⟩, ?_⟩
    rintro v H' ⟨rfl, y⟩
    exact hs i v σ _ lt (y xs q) p
  · have e : i = xs.length := by omega
    subst e
    exact .inl ⟨Nat.le_refl _, hd σ H p⟩
end
theorem paired_get {α β : Type} {F : α → β → Prop} : ∀ {l : List α} {m : List β} {i : Nat} {x : α}, Paired F l m → l[i]? = some x → ∃ y, m[i]? = some y ∧ F x y
  | _, _, 0, _, .cons r _, e => by
    cases Option.some.inj e
    exact ⟨_, rfl, r⟩
  | _, _, i + 1, _, .cons _ t, e => paired_get (i := i) t e
  | _, _, _, _, .nil, e => by simp at e
theorem ref_get {as : List Addr} {i : Nat} {v : V} (h : (as.map V.ref)[i]? = some v) : ∃ a, as[i]? = some a ∧ v = .ref a := get_map h

/-! ### the rules with the written part by its name (a comprehension's block wants it so) -/
section
variable {X : Cx} (K : PySem.W.Frag) (hK : X.K = K := by rfl)
include hK
theorem k_ixL : IxR X (rIxL K) := hK ▸ ix_list
theorem k_ixT : IxR X (rIxT K) := hK ▸ ix_tup
theorem k_cat : OpR X (binaryOp .Add) (rCatA K) := hK ▸ op_catA
theorem k_rep : OpR X (binaryOp .Mult) (rRepA K) := hK ▸ op_repA
theorem k_in : OpR X (compareOp .In) (rIn K false) := hK ▸ op_in_seq
theorem k_notIn : OpR X (compareOp .NotIn) (rIn K true) := hK ▸ op_notIn_seq
theorem k_eqD (hu : X.A.units + 64 < cLine) : OpR X (compareOp .Eq) (rEqD K) := hK ▸ op_eqD hu
theorem k_neD (hu : X.A.units + 64 < cLine) : OpR X (compareOp .NotEq) (rNeD K) := hK ▸ op_neD hu
theorem k_len : CallR X (.builtin "len") (rLn K) := hK ▸ z_len
theorem k_tuple : CallR X (.type "tuple") (rTupOf K) := hK ▸ z_tuple
theorem k_list : CallR X (.type "list") (rLstOf K) := hK ▸ z_list
theorem k_all (calm : X.calm = true) : CallR X (.builtin "all") (rAll K) := hK ▸ cr_all calm
theorem k_any (calm : X.calm = true) : CallR X (.builtin "any") (rAny K) := hK ▸ cr_any calm
theorem k_slT : SlR X (rSlA K) := hK ▸ sl_tupA
theorem k_slL : SlR X (rSlL K) := hK ▸ sl_list
end
theorem k_ixD {X : Cx} (K : PySem.W.Frag) (w : World) (hK : X.K = K := by rfl) (hw : X.w = w := by rfl) : IxR X (rIxD K w) := by
  subst hK hw
  exact ix_kdict
theorem k_gtup {X : Cx} (K : PySem.W.Frag) (n : Nat) {es : List Expr} {k : Nat} {t : TGs} {pos : Pos} (calm : X.calm = true) (h : PGs X es t) (hK : X.K = K := by rfl)
    (hn : (assignEach es X.env).length = n := by rfl) (hst : (assignEach es X.env).findIdx? (·.1) = none := by rfl) : PG X (.Tuple es k pos) (gTup K n t) := by
  subst hK
  exact pg_tup calm h hn hst
theorem k_iterT {X : Cx} (K : PySem.W.Frag) {tg l : Expr} {tl : TE} (hl : PE X l tl) (hK : X.K = K := by rfl) : PI X tg l (iTup K tl) := by
  subst hK
  exact pi_tup hl
theorem k_iterL {X : Cx} (K : PySem.W.Frag) {tg l : Expr} {tl : TE} (hl : PE X l tl) (hK : X.K = K := by rfl) : PI X tg l (iList K tl) := by
  subst hK
  exact pi_list hl
theorem k_enumT {X : Cx} (K : PySem.W.Frag) {e : Expr} {ta : TA} {p pos tpos : Pos} {elts : List Expr} {kk : Nat} (hg : Gl X "enumerate") (hm : X.mg "enumerate" = none) (ha : PA X [e] ta)
    (hK : X.K = K := by rfl) (plain : starEach [e] X.env = [(false, eval e X.env)] := by rfl) : PI X (.Tuple elts kk tpos) (.Call (.Name "enumerate" p) [e] [] pos) (iEnumT K ta) := by
  subst hK
  exact pi_enumT hg hm ha plain
theorem k_zip {X : Cx} (K : PySem.W.Frag) {e e2 : Expr} {ta : TA} {p pos tpos : Pos} {elts : List Expr} {kk : Nat} (hg : Gl X "zip") (hm : X.mg "zip" = none) (ha : PA X [e, e2] ta) (hK : X.K = K := by rfl)
    (plain : starEach [e, e2] X.env = (false, eval e X.env) :: starEach [e2] X.env := by rfl) (rest : (backTo pos (starEach [e2] X.env)).any (·.1) = false := by rfl) :
    PI X (.Tuple elts kk tpos) (.Call (.Name "zip" p) [e, e2] [] pos) (RZ.iZipA K ta) := by
  subst hK
  exact RZ.pi_zipA hg hm ha plain rest
theorem k_rev {X : Cx} (K : PySem.W.Frag) {tg e : Expr} {te : TE} {p pos : Pos} (hg : Gl X "reversed") (hm : X.mg "reversed" = none) (he : PE X e te) (hK : X.K = K := by rfl)
    (plain : starEach [e] X.env = (false, eval e X.env) :: starEach [] X.env := by rfl) : PI X tg (.Call (.Name "reversed" p) [e] [] pos) (RT.iRevA K te) := by
  subst hK
  exact RT.pi_revA hg hm he plain
theorem k_truth {X : Cx} (K : PySem.W.Frag) {a : Expr} {ta : TE} (ha : PE X a ta) (he : ∀ whole, isTrue a X.env whole = (do let v ← whole; standAt a.pos; holding [v] (truthy v))) (hK : X.K = K := by rfl) : PT X a (tTr K ta) := by
  subst hK
  exact z_truth ha he
theorem k_bm0 {X : Cx} (K : PySem.W.Frag) {T id : String} {name : Str} {o : Expr} {apos cpos : Pos} {r : V → List V → Hp → VK → Prop} {to : TE} (pa : PlainAttrs T) (slot : Slot T name id)
    (hty : typeOf (.builtin id) = pure (.type "method_descriptor")) (hm : MtR X id r) (ho : PE X o to) (hK : X.K = K := by rfl)
    (hbase : attributeBase o name X.env (eval o X.env) = eval o X.env := by rfl)
    (hline : (apos.endLine == cpos.line) = true := by rfl) : PE X (.Call (.Attribute o name apos) [] [] cpos) (tBM0 K T r to) := by
  subst hK
  exact pe_bm0 pa slot hty hm ho hbase hline
theorem k_bm {X : Cx} (K : PySem.W.Frag) {T id : String} {name : Str} {o e : Expr} {es : List Expr} {apos cpos : Pos} {r : V → List V → Hp → VK → Prop} {to : TE} {t : TA} (pa : PlainAttrs T) (slot : Slot T name id)
    (hty : typeOf (.builtin id) = pure (.type "method_descriptor")) (hm : MtR X id r) (ho : PE X o to) (ha : PA X (e :: es) t) (hK : X.K = K := by rfl)
    (hbase : attributeBase o name X.env (eval o X.env) = eval o X.env := by
      rfl)
    (hfew : ((backTo cpos (starEach (e :: es) X.env)).all (fun x => !x.1) && (backToKw cpos (keywordEach [] X.env)).all (fun x => x.1.isSome) && decide ((e :: es).length + ([] : List Keyword).length + (if ([] : List Keyword).isEmpty then 0 else 1) < 30)) = true := by rfl)
    (hline : (apos.endLine == cpos.line) = true := by rfl)
    (hs : starEach (e :: es) X.env = (false, eval e X.env) :: starEach es X.env := by rfl)
    (hplain : (backTo cpos (starEach es X.env)).any (·.1) = false := by rfl) : PE X (.Call (.Attribute o name apos) (e :: es) [] cpos) (tBM K T r to t) := by
  subst hK
  exact pe_bm pa slot hty hm ho ha hbase hfew hline hs hplain
theorem k_listZip {X : Cx} (K : PySem.W.Frag) {e1 e2 : Expr} {ta : TA} {p1 p2 pos pos2 : Pos} (calm : X.calm = true) (hg : Gl X "list") (hm : X.mg "list" = none) (hg2 : Gl X "zip") (hm2 : X.mg "zip" = none) (ha : PA X [e1, e2] ta) (hK : X.K = K := by rfl)
    (plain2 : starEach [e1, e2] X.env = (false, eval e1 X.env) :: starEach [e2] X.env := by rfl) (rest2 : (backTo pos2 (starEach [e2] X.env)).any (·.1) = false := by rfl)
    (plain : starEach [.Call (.Name "zip" p2) [e1, e2] [] pos2] X.env = (false, eval (.Call (.Name "zip" p2) [e1, e2] [] pos2) X.env) :: starEach [] X.env := by rfl) :
    PE X (.Call (.Name "list" p1) [.Call (.Name "zip" p2) [e1, e2] [] pos2] [] pos) (tCB (rListZip K) ta) := by
  subst hK
  exact pe_listZip calm hg hm hg2 hm2 ha plain2 rest2 plain
theorem rChain {σ : L2.St} {H : Hp} {Q : VK} {r r' : R2} {ta tb tc : TE} (h : ta σ H fun x H1 => tb σ H1 fun y H2 => r x y H2 fun z H3 => ∃ k, z = .bl k ∧ (if k = true then tc σ H3 fun w' H4 => r' y w' H4 Q else Q (.bl false) H3)) : tChain r r' ta tb tc σ H Q := h
/-! ### drawings of parts -/
def cell2 (d : Du) (w h : Nat) (f1 f2 : Nat → Nat → Co) (r c : Nat) : Co :=
  if (c / d.pw w + r / d.ph h) % 2 = 0 then f1 (r % d.ph h) (c % d.pw w) else f2 (r % d.ph h) (c % d.pw w)
theorem range_two {α : Type} (f : Nat → α) (n : Nat) : (List.range (n + n)).map f = (List.range n).map f ++ (List.range n).map fun i => f (n + i) := by
  rw [List.range_add, List.map_append, List.map_map]
  rfl
theorem map_range_congr {α : Type} {f g : Nat → α} {n : Nat} (h : ∀ i, i < n → f i = g i) : (List.range n).map f = (List.range n).map g :=
  List.map_congr_left fun i hi => h i (List.mem_range.mp hi)
theorem zip_range {α β γ : Type} (f : α → β → γ) (a : Nat → α) (b : Nat → β) (n : Nat) : List.zipWith f ((List.range n).map a) ((List.range n).map b) = (List.range n).map fun i => f (a i) (b i) := by
  rw [List.zipWith_map, List.zipWith_self]
theorem row_two {f1 f2 : Nat → Co} (n : Nat) : (List.range n).map f1 ++ (List.range n).map f2 = (List.range (n + n)).map fun c => if c / n = 0 then f1 (c % n) else f2 (c % n) := by
  rw [range_two]
  congr 1
  · refine map_range_congr fun i hi => ?_
    rw [Nat.div_eq_of_lt hi, if_pos rfl, Nat.mod_eq_of_lt hi]
  · refine map_range_congr fun i hi => ?_
    have e : (n + i) / n = 1 := by
      rw [Nat.add_div_left _ (by omega), Nat.div_eq_of_lt hi]
    rw [e, if_neg (by decide), Nat.add_mod_left, Nat.mod_eq_of_lt hi]
theorem side_even {n : Nat} (s : Side n) (h : 2 ≤ n) : n / 2 + n / 2 = n := by
  unfold Side at s
  omega
theorem grid_party {w h : Nat} (sw : Side w) (f : 2 ≤ w) (f1 f2 : Nat → Nat → Co) : List.zipWith (· ++ ·) (grid (w / 2) h f1) (grid (w / 2) h f2) = grid w h (cell2 .party w h f1 f2) := by
  unfold grid
  rw [zip_range]
  refine map_range_congr fun r hr => ?_
  rw [row_two, side_even sw f]
  refine map_range_congr fun c hc => ?_
  show _ = (if (c / (w / 2) + r / h) % 2 = 0 then f1 (r % h) (c % (w / 2)) else f2 (r % h) (c % (w / 2)))
  rw [Nat.div_eq_of_lt hr, Nat.mod_eq_of_lt hr, Nat.add_zero]
  have e2 := side_even sw f
  have : c / (w / 2) < 2 := Nat.div_lt_of_lt_mul (by omega)
  rw [Nat.mod_eq_of_lt this]
theorem grid_cut {w h : Nat} (sh : Side h) (f : 2 ≤ h) (f1 f2 : Nat → Nat → Co) : grid w (h / 2) f1 ++ grid w (h / 2) f2 = grid w h (cell2 .cut w h f1 f2) := by
  have e2 := side_even sh f
  unfold grid
  rw [show (List.range h) = List.range (h / 2 + h / 2) by rw [e2], range_two]
  congr 1
  · refine map_range_congr fun r hr => map_range_congr fun c hc => ?_
    show _ = (if (c / w + r / (h / 2)) % 2 = 0 then f1 (r % (h / 2)) (c % w) else _)
    rw [Nat.div_eq_of_lt hr, Nat.div_eq_of_lt hc, if_pos rfl, Nat.mod_eq_of_lt hr, Nat.mod_eq_of_lt hc]
  · refine map_range_congr fun r hr => map_range_congr fun c hc => ?_
    show _ = (if (c / w + (h / 2 + r) / (h / 2)) % 2 = 0 then _ else f2 ((h / 2 + r) % (h / 2)) (c % w))
    have e : (h / 2 + r) / (h / 2) = 1 := by
      rw [Nat.add_div_left _ (by omega), Nat.div_eq_of_lt hr]
    rw [e, Nat.div_eq_of_lt hc, if_neg (by decide), Nat.add_mod_left, Nat.mod_eq_of_lt hr, Nat.mod_eq_of_lt hc]
theorem grid_quart {w h : Nat} (sw : Side w) (sh : Side h) (fw : 2 ≤ w) (fh : 2 ≤ h) (f1 f2 : Nat → Nat → Co) :
    List.zipWith (· ++ ·) (grid (w / 2) (h / 2) f1) (grid (w / 2) (h / 2) f2) ++ List.zipWith (· ++ ·) (grid (w / 2) (h / 2) f2) (grid (w / 2) (h / 2) f1) = grid w h (cell2 .quartered w h f1 f2) := by
  rw [grid_party sw fw, grid_party sw fw]
  have e2 := side_even sh fh
  have e1 := side_even sw fw
  unfold grid
  rw [show (List.range h) = List.range (h / 2 + h / 2) by rw [e2], range_two]
  congr 1
  · refine map_range_congr fun r hr => map_range_congr fun c hc => ?_
    show (if (c / (w / 2) + r / (h / 2)) % 2 = 0 then f2 (r % (h / 2)) (c % (w / 2)) else f1 (r % (h / 2)) (c % (w / 2))) =
      (if (c / (w / 2) + (h / 2 + r) / (h / 2)) % 2 = 0 then f1 ((h / 2 + r) % (h / 2)) (c % (w / 2)) else f2 ((h / 2 + r) % (h / 2)) (c % (w / 2)))
    have e : (h / 2 + r) / (h / 2) = 1 := by
      rw [Nat.add_div_left _ (by omega), Nat.div_eq_of_lt hr]
    rw [e, Nat.div_eq_of_lt hr, Nat.add_mod_left, Nat.add_zero]
    have lt : c / (w / 2) < 2 := Nat.div_lt_of_lt_mul (by omega)
    have two : ∀ n : Nat, n < 2 → n = 0 ∨ n = 1 := fun n h => by omega
    rcases two _ lt with z | z <;> rw [z] <;> simp
theorem grid_len (w h : Nat) (f : Nat → Nat → Co) : (grid w h f).length = h := by
  unfold grid
  rw [List.length_map, List.length_range]
theorem grid_row {w h : Nat} {f : Nat → Nat → Co} {r : List Co} (m : r ∈ grid w h f) : r.length = w := by
  unfold grid at m
  obtain ⟨i, _, rfl⟩ := List.mem_map.mp m
  rw [List.length_map, List.length_range]
theorem grid_get {w h : Nat} {f : Nat → Nat → Co} {i : Nat} (hi : i < h) : (grid w h f)[i]? = some ((List.range w).map fun c => f i c) := by
  unfold grid
  rw [List.getElem?_map, List.getElem?_range hi]
  rfl
theorem Drw.same {K : PySem.W.Frag} {H H' : Hp} {p : Addr} {rows : List (List Co)} (s : Same H H') (h : Drw K H p rows) : Drw K H' p rows := (imm_of_same s).drw h
/-! ### isinstance -/
theorem tyT {K : PySem.W.Frag} {H : Hp} {a : Addr} {xs : List V} (h : SqT K H a xs) : TyX K H (.ref a) (.type "tuple") := by
  rcases h with (h | ⟨o, h⟩) | ⟨o, its, n, h, c, _⟩
  · exact .base (.tup h)
  · exact .fTuple h
  · exact .kTuple h c
theorem tyL {K : PySem.W.Frag} {H : Hp} {a : Addr} {xs : List V} (h : SqL K H a xs) : TyX K H (.ref a) (.type "list") := by
  rcases h with (h | ⟨o, h⟩) | ⟨o, its, n, h, c, _⟩
  · exact .base (.lst h)
  · exact .base (.frz h)
  · exact .kList h c
theorem k_isi {X : Cx} (K : PySem.W.Frag) (hK : X.K = K := by rfl) : CallR X (.builtin "isinstance") (rIsi K) := hK ▸ call_isi
theorem k_isiT {X : Cx} (K : PySem.W.Frag) (hK : X.K = K := by rfl) : CallR X (.builtin "isinstance") (rIsiT K) := hK ▸ call_isiT
theorem rIsi_ {K : PySem.W.Frag} {H : Hp} {Q : VK} {x : V} {n t : String} {b : Bool} (ty : TyX K H x (.type t)) (e : kitB t n = some b) (q : Q (.bl b) H) : rIsi K [x, .ty n] H Q :=
  ⟨x, .ty n, .type t, .type n, b, rfl, .ty n, ty, kit_ty e, q⟩
theorem rIsiT_ {K : PySem.W.Frag} {H : Hp} {Q : VK} {x : V} {tp : Addr} {n m t : String} {b c : Bool} (h : H tp = some (.tup [.ty n, .ty m])) (ty : TyX K H x (.type t)) (e : kitB t n = some b) (e2 : kitB t m = some c) (q : Q (.bl (b || c)) H) : rIsiT K [x, .ref tp] H Q :=
  ⟨x, tp, _, .type t, [.type n, .type m], b || c, rfl, h, .cons (.ty n) (.cons (.ty m) .nil), ty, kitAny_cons (kit_ty e) (fun hb => by subst hb; exact kitAny_cons (kit_ty e2) (fun hc => by subst hc; exact kitAny_nil) (fun hc => by subst hc; rfl)) (fun hb => by subst hb; rfl), q⟩
mutual
def fewD : PyData → Prop
  | .list xs => xs.length ≤ 100000 ∧ fewDs xs
  | .tuple xs => xs.length ≤ 100000 ∧ fewDs xs
  | _ => True
def fewDs : List PyData → Prop
  | [] => True
  | x :: xs => fewD x ∧ fewDs xs
end
theorem dpAll_get {K : PySem.W.Frag} {H : Hp} : ∀ {vs : List V} {ds : List PyData} {i : Nat} {d : PyData}, DpAll K H vs ds → ds[i]? = some d → ∃ v, vs[i]? = some v ∧ Dp K H v d
  | _, _, 0, _, .cons h _, e => by
    cases Option.some.inj e
    exact ⟨_, rfl, h⟩
  | _, _, i + 1, _, .cons _ t, e => dpAll_get (i := i) t e
  | _, _, _, _, .nil, e => by simp at e
theorem dpAll_len {K : PySem.W.Frag} {H : Hp} : ∀ {vs : List V} {ds : List PyData}, DpAll K H vs ds → vs.length = ds.length
  | _, _, .nil => rfl
  | _, _, .cons _ t => congrArg (· + 1) (dpAll_len t)
theorem fewDs_get : ∀ {ds : List PyData} {i : Nat} {d : PyData}, fewDs ds → ds[i]? = some d → fewD d
  | _ :: _, 0, _, h, e => by
    cases Option.some.inj e
    exact h.1
  | _ :: ds, i + 1, _, h, e => fewDs_get (ds := ds) (i := i) h.2 e
  | [], _, _, _, e => by simp at e
theorem depth_get : ∀ {ds : List PyData} {i : Nat} {d : PyData}, ds[i]? = some d → d.depth ≤ PyData.depthAll ds
  | x :: ds, 0, _, e => by
    cases Option.some.inj e
    rw [PyData.depthAll]
    exact Nat.le_max_left _ _
  | x :: ds, i + 1, _, e => by
    rw [PyData.depthAll]
    exact Nat.le_trans (depth_get (ds := ds) (i := i) e) (Nat.le_max_right _ _)
  | [], _, _, e => by simp at e
mutual
theorem Dp.imm {K : PySem.W.Frag} {H H' : Hp} (s : Same H H') : ∀ {v : V} {d : PyData}, Dp K H v d → Dp K H' v d
  | _, _, .non => .non
  | _, _, .bl b => .bl b
  | _, _, .int i => .int i
  | _, _, .str x => .str x
  | _, _, .lst h t => .lst (s.seq h) (DpAll.imm s t)
  | _, _, .tup h t => .tup ((imm_of_same s).sqT h) (DpAll.imm s t)
theorem DpAll.imm {K : PySem.W.Frag} {H H' : Hp} (s : Same H H') : ∀ {vs : List V} {ds : List PyData}, DpAll K H vs ds → DpAll K H' vs ds
  | _, _, .nil => .nil
  | _, _, .cons h t => .cons (Dp.imm s h) (DpAll.imm s t)
end
theorem rEqNil {K : PySem.W.Frag} {H : Hp} {Q : VK} {p q : Addr} (ha : SqL K H p []) (hb : SqL K H q []) (k : Q (.bl true) H) : rEqD K (.ref p) (.ref q) H Q :=
  ⟨.list [], .list [], .lst ha .nil, .lst hb .nil, by decide, by decide, by rw [PyData.eqv, PyData.eqvAll]; exact k⟩
/-- an item of a list or of a tuple -/
def rIxA (K : PySem.W.Frag) : R2 := fun x y H Q => rIxL K x y H Q ∨ rIxT K x y H Q
theorem k_ixA {X : Cx} (K : PySem.W.Frag) (hK : X.K = K := by rfl) : IxR X (rIxA K) := hK ▸ IxR.or ix_list ix_tup
def rIsN1 : R2 := fun x y H Q => y = .non ∧ Q (.bl (decide (x = .non))) H
def rNotN1 : R2 := fun x y H Q => y = .non ∧ Q (.bl (!decide (x = .non))) H
theorem z_isN {X : Cx} : OpR X (compareOp .Is) rIsN1 := op_isN
theorem z_notN {X : Cx} : OpR X (compareOp .IsNot) rNotN1 := op_notN
theorem rIsN_ {x : V} {H : Hp} {Q : VK} (q : Q (.bl (decide (x = .non))) H) : rIsN1 x .non H Q := ⟨rfl, q⟩
theorem rNotN_ {x : V} {H : Hp} {Q : VK} (q : Q (.bl (!decide (x = .non))) H) : rNotN1 x .non H Q := ⟨rfl, q⟩
theorem rIsB_ {a b : Bool} {H : Hp} {Q : VK} (q : Q (.bl (decide (a = b))) H) : rIsB (.bl a) (.bl b) H Q := ⟨a, b, rfl, rfl, q⟩
theorem rNotB_ {a b : Bool} {H : Hp} {Q : VK} (q : Q (.bl (!decide (a = b))) H) : rNotB (.bl a) (.bl b) H Q := ⟨a, b, rfl, rfl, q⟩
theorem rNeKws {K : PySem.W.Frag} {H : Hp} {Q : VK} {p q : Addr} {a b : List Kw} (ha : SqL K H p (a.map fun k => V.str k.s)) (hb : SqL K H q (b.map fun k => V.str k.s)) (k : Q (.bl (!decide (a = b))) H) : rNeD K (.ref p) (.ref q) H Q :=
  ⟨_, _, dp_kws ha, dp_kws hb, dKws_shaped a, dKws_shaped b, by rw [PyData.eqv, show PyData.eqvAll (dKws a) (dKws b) = decide (a = b) from eqvAll_map Kw.eqv a b]; exact k⟩

/-! ### t[::-1] of a tuple -/
theorem rev_places (n : Nat) : Builtin.Slice.slicePlaces ((n : Int) - 1) (-1) (-1) = n := by
  unfold Builtin.Slice.slicePlaces
  have h1 : ¬ ((-1 : Int) > 0) := by decide
  simp only [h1, if_false]
  by_cases h : (n : Int) - 1 > -1
  · rw [if_pos h, show (- -1 : Int) = 1 by decide, Int.ediv_one]
    omega
  · rw [if_neg h]
    omega
theorem rev_adjust (n : Nat) : Builtin.Slice.sliceAdjust none none (-1) (n : Int) = ((n : Int) - 1, -1) := by
  unfold Builtin.Slice.sliceAdjust
  rfl
theorem fm_congr {α β : Type} {f g : α → Option β} : ∀ {l : List α}, (∀ x ∈ l, f x = g x) → l.filterMap f = l.filterMap g
  | [], _ => rfl
  | x :: l, h => by rw [List.filterMap_cons, List.filterMap_cons, h x List.mem_cons_self, fm_congr fun y hy => h y (List.mem_cons_of_mem _ hy)]
theorem rev_pick (xs : Array Value) : ((List.range xs.size).filterMap fun (m : Nat) => xs[((xs.size : Int) - 1 + (m : Int) * -1).toNat]?).toArray = xs.toList.reverse.toArray := by
  have e : (List.range xs.size).filterMap (fun (m : Nat) => xs[((xs.size : Int) - 1 + (m : Int) * -1).toNat]?) = ((List.range xs.size).map fun k => xs.size - 1 - k).filterMap (xs[·]?) := by
    rw [List.filterMap_map]
    refine fm_congr fun m hm => ?_
    have := List.mem_range.mp hm
    show _ = xs[xs.size - 1 - m]?
    rw [show ((xs.size : Int) - 1 + (m : Int) * -1).toNat = xs.size - 1 - m by omega]
  rw [e, PySem.W.krv_range, List.filterMap_reverse, PySem.W.krv_all]
section
variable {prog : Program} {w : World} {A : Around} {E : Value → Shared → Prop} {s : Shared}
theorem sliceApplied_back {sl : Addr} {vl vu vs : Value} {n : Nat} {Q : Int × Int × Nat → Shared → Prop} (hs : s.heap.IsSliceOf sl vl vu vs) (pl : IsPart vl none) (pu : IsPart vu none) (ps : IsPart vs (some (-1)))
    (h : Q ((n : Int) - 1, -1, n) s) : wpAny (model prog w) A (Builtin.Slice.sliceApplied (.ref sl) (pure (n : Int))) Q E s := by
  obtain ⟨os, hos, hcs, hds⟩ := id hs
  unfold Builtin.Slice.sliceApplied Builtin.Slice.sliceFields
  refine wpAny_bind (wpAny_bind (wpAny_field hos hds (x := vl) rfl (wpAny_bind (wpAny_field hos hds (x := vu) rfl (wpAny_bind (wpAny_field hos hds (x := vs) rfl (wpAny_pure ?_)))))))
  refine wpAny_bind (HT.slicePart_ ps ?_)
  show wpAny _ _ (if ((-1 : Int) == 0) = true then _ else _) _ _ s
  rw [if_neg (by decide)]
  refine wpAny_bind (HT.slicePart_ pl (wpAny_bind (HT.slicePart_ pu (wpAny_bind (wpAny_pure ?_)))))
  show wpAny _ _ (match Builtin.Slice.sliceAdjust none none (-1) (n : Int) with | (lo, hi) => pure (lo, (-1 : Int), Builtin.Slice.slicePlaces lo hi (-1))) _ _ s
  rw [rev_adjust n]
  show wpAny _ _ (pure ((n : Int) - 1, (-1 : Int), Builtin.Slice.slicePlaces ((n : Int) - 1) (-1) (-1))) _ _ s
  rw [rev_places]
  exact wpAny_pure h
theorem getItem_tuple_back {t sl : Addr} {items : Array Value} {vl vu vs : Value} {Q : Value → Shared → Prop} (ht : IsTup s.heap t items) (hs : s.heap.IsSliceOf sl vl vu vs) (pl : IsPart vl none) (pu : IsPart vu none) (ps : IsPart vs (some (-1)))
    (h : Q (.ref s.heap.objs.size) { s with heap := s.heap.push { cls := .type "tuple", data := .seq items.toList.reverse.toArray } })
    (hsz : items.size ≤ sizeLine) : wpAny (model prog w) A (getItem (.ref t) (.ref sl)) Q E s := by
  have htake : sizeOk (.seq items.toList.reverse.toArray) := by
    show items.toList.reverse.toArray.size ≤ sizeLine
    rw [List.size_toArray, List.length_reverse, Array.length_toList]
    exact hsz
  obtain ⟨os, hos, hcs, hds⟩ := id hs
  have hTs : s.TypeIs (.ref sl) "slice" := ⟨os, hos, hcs⟩
  unfold getItem
  try with_reducible refine wpAny_holding ?_
  first | refine wpAny_bind (wpAny_pure ?_) | skip
  refine wpAny_bind (wpAny_sequenceKey ht.typeIs (by decide) ?_)
  refine wpAny_bind (wpAny_callSpecial?_slot (name := Str.ofString "__getitem__") ht.typeIs PyProof.Rows.slot_tuple_getitem
    (wpAny_call_entry PyProof.Rows.slot_tuple_getitem ht.typeIs entry_tuple_getitem ?_ (args_tuple_getitem _ _)))
  show wpAny _ _ (Builtin.Tuple.tupleItemsOf (.ref t) >>= _) _ _ s
  refine wpAny_bind (tupleItemsOf_ ht ?_)
  refine wpAny_bind (wpAny_typeOf hTs ?_)
  rw [if_pos (by decide)]
  refine wpAny_bind (sliceApplied_back hs pl pu ps ?_)
  have hno : ¬ (((((items.size : Int) - 1)) == 0 && (-1 : Int) == 1 && items.size == items.size) = true) := by
    intro q
    rw [Bool.and_eq_true, Bool.and_eq_true] at q
    exact absurd q.1.2 (by decide)
  show wpAny _ _ (if ((((items.size : Int) - 1)) == 0 && (-1 : Int) == 1 && items.size == items.size) = true then _ else _) _ _ s
  rw [if_neg hno, rev_pick]
  first
    | exact wpAny_bind (m := Builtin.Tuple.tupleExact _) (wpAny_newObj_type (wpAny_pure ⟨_, rfl, wpAny_pure h⟩) htake)
    | exact wpAny_bind (m := Builtin.Tuple.tupleExact _) (wpAny_newObj_type (wpAny_bind (wpAny_pure (wpAny_pure ⟨_, rfl, wpAny_pure h⟩))) htake)
    | exact wpAny_bind (wpAny_bind (m := Builtin.Tuple.tupleExact _) (wpAny_newObj_type (wpAny_pure (wpAny_pure ⟨_, rfl, wpAny_pure h⟩)) htake))
    | exact wpAny_bind (wpAny_bind (m := Builtin.Tuple.tupleExact _) (wpAny_newObj_type (wpAny_pure ⟨_, rfl, wpAny_pure h⟩) htake))
end
/-- te is a tuple: its items the other way round, in a new one -/
def tBackT (K : PySem.W.Frag) (te : TE) : TE := fun σ H Q => te σ H fun x H1 => ∃ a xs, x = .ref a ∧ SqT K H1 a xs ∧ ∀ p H2, H1 p = none → Same H1 H2 → H2 p = some (.tup xs.reverse) → Q (.ref p) H2
section
variable {X : Cx}
theorem pe_revT {e : Expr} {te : TE} {k : Nat} {p1 p2 p3 pos : Pos} (he : PE X e te) : PE X (.Subscript e (.Slice none none (some (.UnaryOp .USub (.Constant (.int 1) k p1) p2)) p3) pos) (tBackT X.K te) := by
  refine ⟨fun pins s σ H Q I h => ?_⟩
  refine Subscript_ (thn (he.run pins s σ H _ I h) fun v s1 ⟨x, H1, I1, r1, q1⟩ => ?_)
  obtain ⟨a, xs, ex, hx, q⟩ := q1
  subst ex
  cases r1
  have hst : PO X (some (.UnaryOp .USub (.Constant (.int 1) k p1) p2)) (tPart (tUn (rU fun i => .int (-i)) (tC (.int 1)))) := po_some (pe_un un_neg pe_int)
  refine wpAny_Slice (thn (po_none.run pins s1 σ H1 (fun o H2 => o = none ∧ H2 = H1) I1 ⟨rfl, rfl⟩) fun vl s2 ⟨l, H2, I2, pl, el, e2⟩ => ?_)
  subst el e2
  refine thn (po_none.run pins s2 σ H2 (fun o H3 => o = none ∧ H3 = H2) I2 ⟨rfl, rfl⟩) fun vu s3 ⟨u, H3, I3, pu, eu, e3⟩ => ?_
  subst eu e3
  refine thn (hst.run pins s3 σ H3 (fun o H4 => o = some (-1) ∧ H4 = H3) I3 ⟨1, rfl, -1, rfl, rfl, rfl⟩) fun vs s4 ⟨o, H4, I4, ps, eo, e4⟩ => ?_
  subst eo e4
  have I5 : Inv X pins σ H4 { s4 with heap := s4.heap.push { cls := .type "slice", data := .fields #[vl, vu, vs] } } := I4.kept (t' := s4.toks) fun b ob q => Heap.get?_push_of_some _ q
  obtain ⟨its, r, ht, hz⟩ := I5.tuple hx
  have hlen := r.length
  show wpAny (model X.prog X.w) X.A (subscriptTail e (.Slice none none (some (.UnaryOp .USub (.Constant (.int 1) k p1) p2)) p3) (.ref a) (.ref s4.heap.objs.size)) (EP X pins σ Q) X.xe { s4 with heap := s4.heap.push { cls := .type "slice", data := .fields #[vl, vu, vs] } }
  refine tail_any (ops := [.ref a, .ref s4.heap.objs.size]) ht.typeIs (PyProof.Rows.slot_tuple_getitem.lookup) ?_ (by with_unfolding_all rfl)
  refine getItem_tuple_back ht (Heap.IsSliceOf.new _ vl vu vs) pl pu ps ?_ (by rw [List.size_toArray]; omega)
  have fr := I5.hok.fresh (Nat.le_refl _)
  refine ⟨.ref _, _, I5.laid (t' := s4.toks) (o := .tup xs.reverse) (fun b ob q => Heap.get?_push_of_some _ q) (Nat.le_refl _) ?_, rfl, q _ _ fr (same_new fr) upd_same⟩
  exact ⟨by rw [List.length_reverse]; exact hz, _, r.reverse, IsTup.new _ _⟩
variable (K : PySem.W.Frag) (hK : X.K = K := by rfl)
include hK
theorem k_revT {e : Expr} {te : TE} {k : Nat} {p1 p2 p3 pos : Pos} (he : PE X e te) : PE X (.Subscript e (.Slice none none (some (.UnaryOp .USub (.Constant (.int 1) k p1) p2)) p3) pos) (tBackT K te) := hK ▸ pe_revT he
end
theorem rBackT {K : PySem.W.Frag} {σ : L2.St} {H : Hp} {Q : VK} {te : TE} (h : te σ H fun x H1 => ∃ a xs, x = .ref a ∧ SqT K H1 a xs ∧ ∀ p H2, H1 p = none → Same H1 H2 → H2 p = some (.tup xs.reverse) → Q (.ref p) H2) : tBackT K te σ H Q := h
/-! ### sorted(t) of a tuple of texts -/
section
open PyProof.Rows
variable {prog : Program} {w : World} {A : Around} {E : Value → Shared → Prop} {s : Shared}
theorem collect_tup {l : Addr} {vs : List Value} {Q : List Value → Shared → Prop} (hl : IsTup s.heap l vs.toArray)
    (h : Q vs { s with heap := (s.heap.push (seqObj "list" #[] 0)).update s.heap.objs.size (Obj.mapSeq (· ++ vs.toArray)) }) (hsz : vs.length ≤ sizeLine) :
    wpAny (model prog w) A (collect (.ref l)) Q E s := by
  obtain ⟨o, ho, hc, n, hd⟩ := id hl
  unfold collect
  refine wpAny_bind (wpAny_runValue (codeAny_builtin entry_proto_collect' ?_))
  show wpAny _ _ (do again (.builtin "list.__iadd__" ⟨[← newList [], .ref l], []⟩)) _ _ s
  refine wpAny_bind (wpAny_newList (wpAny_pure ⟨Code.quiet_builtin _ (by decide +kernel), codeAny_builtin entry_list_iadd' ?_⟩))
  show wpAny _ _ (Builtin.List.listExtendWith (.ref s.heap.objs.size) (.ref l) (.ref s.heap.objs.size)) _ _ { s with heap := s.heap.push (seqObj "list" #[] 0) }
  unfold Builtin.List.listExtendWith
  have ho' : (s.heap.push (seqObj "list" #[] 0)).get? l = some o := Heap.get?_push_of_some _ ho
  refine wpAny_bind (wpAny_typeOf (T := "tuple") ⟨o, ho', hc⟩ ?_)
  have ht : (Value.type "tuple" == Value.type "tuple") = true := by rfl
  rw [if_pos (by rw [ht]; simp)]
  refine wpAny_bind (listItems_at ho' hd ?_)
  refine wpAny_bind (listItems_at (xs := #[]) (n := 0) (Heap.get?_push_size _ rfl) rfl ?_)
  rw [if_neg (by simp)]
  refine wpAny_bind (listUpdate_at (xs := #[]) (n := 0) (Heap.get?_push_size _ rfl) rfl ?_ (Nat.zero_le _) (by show (#[] ++ vs.toArray).size ≤ sizeLine + 1; simp only [Array.size_append, List.size_toArray, List.length_nil]; omega))
  refine wpAny_pure ?_
  show wpAny (model prog w) A (do
      let o ← load s.heap.objs.size
      match o.data with
      | .seq xs _ => pure xs.toList
      | _ => unsupported "internal:collect") Q E { s with heap := (s.heap.push (seqObj "list" #[] 0)).update s.heap.objs.size (Obj.mapSeq (· ++ vs.toArray)) }
  refine wpAny_bind (wpAny_load (get?_update_seq (Heap.get?_push_size _ rfl) _) ?_)
  show wpAny _ _ (pure ((#[] : Array Value) ++ vs.toArray).toList) Q E _
  rw [show ((#[] : Array Value) ++ vs.toArray).toList = vs by simp]
  exact wpAny_pure h
theorem sorted_strsTup {l : Addr} {vs : List Value} {ss : List Str} {Q : Value → Shared → Prop} (hl : IsTup s.heap l vs.toArray) (hS : StrsAre vs ss) (hL : vs.length ≤ sizeLine)
    (h : ∀ (out : Array Value) (ss' : List Str), StrsAre out.toList ss' → ss'.Perm ss → sortedS ss' = true → Q (.ref (s.heap.objs.size + 1)) { s with heap := sortedAll s.heap vs out }) :
    wpAny (model prog w) A (call (.builtin "sorted") [.ref l]) Q E s := by
  refine Calls.call_function_entry kind_sorted plain_sorted entry_sorted (args_sorted1 _) ?_
  unfold Builtin.«sorted»
  refine wpAny_bind (m := checkCount "sorted" 1 1 _) (wpAny_pure ?_)
  refine wpAny_bind (collect_tup hl ?_ hL)
  refine wpAny_bind (wpAny_newList ?_)
  have hsz : ((s.heap.push (seqObj "list" #[] 0)).update s.heap.objs.size (Obj.mapSeq (· ++ vs.toArray))).objs.size = s.heap.objs.size + 1 := by
    rw [Heap.size_update, size_push']
  have hoL : (((s.heap.push (seqObj "list" #[] 0)).update s.heap.objs.size (Obj.mapSeq (· ++ vs.toArray))).push (seqObj "list" vs.toArray 0)).get? (s.heap.objs.size + 1) = some (seqObj "list" vs.toArray 0) := by
    rw [← hsz]; exact Heap.get?_push_size _ rfl
  show wpAny _ _ _ _ _ { s with heap := ((s.heap.push (seqObj "list" #[] 0)).update s.heap.objs.size (Obj.mapSeq (· ++ vs.toArray))).push (seqObj "list" vs.toArray 0) }
  rw [hsz]
  refine wpAny_bind (wpAny_holding (wpAny_call_entry slot_list_sort ⟨_, hoL, rfl⟩ entry_list_sort (list_sort_treeKAny strKind_oneLt hoL hS.keysOf (fun v₁ v₂ rest e => keyKind_strs (by rw [← e]; exact hS)) hL fun st' a1 a2 => ⟨_, rfl, ?_⟩) (args_list_sort _)))
  obtain ⟨ss', h1, h2, h3⟩ := sorted_out_str hS a1 a2
  exact wpAny_pure ⟨_, rfl, h _ ss' h1 h2 h3⟩
end
theorem pair_of_rising : ∀ (p : Str) (l : List Str), PyProof.Rows.risingS p l = true → (p :: l).Pairwise fun a b => a.cps.toList ≤ b.cps.toList
  | p, [], _ => by simp
  | p, x :: r, h => by
    simp only [PyProof.Rows.risingS, Bool.and_eq_true, Bool.not_eq_true', PyProof.Rows.ltCps_eq, decide_eq_false_iff_not] at h
    have ih := pair_of_rising x r h.2
    have h1 : p.cps.toList ≤ x.cps.toList := List.not_lt.mp h.1
    rw [List.pairwise_cons]
    refine ⟨fun y hy => ?_, ih⟩
    rcases List.mem_cons.mp hy with e | m
    · rw [e]; exact h1
    · exact List.le_trans h1 ((List.pairwise_cons.mp ih).1 y m)
theorem pair_of_sorted : ∀ (l : List Str), PyProof.Rows.sortedS l = true → l.Pairwise fun a b => a.cps.toList ≤ b.cps.toList
  | [], _ => .nil
  | x :: r, h => pair_of_rising x r h
theorem sorted_same {a b : List Str} (h : a.Perm b) (ha : PyProof.Rows.sortedS a = true) (hb : PyProof.Rows.sortedS b = true) : a = b := by
  refine List.Perm.eq_of_pairwise (le := fun a b => a.cps.toList ≤ b.cps.toList) (fun x y _ _ h1 h2 => ?_) (pair_of_sorted a ha) (pair_of_sorted b hb) h
  have e := List.le_antisymm h1 h2
  cases x
  cases y
  simp only [Str.mk.injEq]
  exact Array.toList_inj.mp e
/-- sorted(t): any order of the words that is rising -/
def rSortT (K : PySem.W.Frag) : List V → Hp → VK → Prop := fun vs H Q => ∃ (a : Addr) (xs : List Str), vs = [V.ref a] ∧ SqT K H a (ws xs) ∧
  ∀ (ys : List Str) (p : Addr) (H2 : Hp), ys.Perm xs → PyProof.Rows.sortedS ys = true → H p = none → Same H H2 → H2 p = some (.lst (ws ys)) → Q (.ref p) H2
theorem cr_sortT {X : Cx} : CallR X (.builtin "sorted") (rSortT X.K) := by
  intro pins s σ H vs us Q I r h
  obtain ⟨a, xs, rfl, hs, q⟩ := h
  obtain ⟨its, rv, hl, hz⟩ := I.tuple hs
  rw [Vals.ref1 r]
  have hlen0 := rv.length
  rw [ws_len] at hlen0 hz
  refine sorted_strsTup hl rv.strs (by rw [← hlen0]; exact hz) fun out ys h1 h2 h3 => ?_
  obtain ⟨ep, he'⟩ := PyProof.Rows.sortedAll_at s.heap its out
  have hlen : (ws ys).length ≤ sizeLine := by rw [ws_len, h2.length_eq]; exact hz
  have fr := I.hok.fresh (Nat.le_succ _)
  exact ⟨.ref _, upd H (s.heap.objs.size + 1) (.lst (ws ys)), I.laid (t' := s.toks) (fun _ _ => PyProof.Rows.sortedAll_old) (Nat.le_succ _) ⟨hlen, out.toList, ep, vals_of_strs h1, he'⟩, rfl, q ys _ _ h2 h3 fr (same_new fr) upd_same⟩
section
variable {X : Cx} (K : PySem.W.Frag) (hK : X.K = K := by rfl)
include hK
theorem k_sortT : CallR X (.builtin "sorted") (rSortT K) := hK ▸ cr_sortT
end
/-! ### tuples of which it is known that they have no attributes of their own (a method is called on them) -/
def Tob (its : List Value) : Obj := { cls := .type "tuple", data := .seq its.toArray }
def TD (H : Hp) (a : Addr) (xs : List V) : Prop := ∃ its, H a = some (.frz (Tob its) (.tup xs))
theorem TD.sq {K : PySem.W.Frag} {H : Hp} {a : Addr} {xs : List V} (h : TD H a xs) : SqT K H a xs := by
  obtain ⟨its, h⟩ := h
  exact .inl (.inr ⟨_, h⟩)
theorem Imm.td {H H' : Hp} {a : Addr} {xs : List V} (e : Imm H H') (h : TD H a xs) : TD H' a xs := by
  obtain ⟨its, h⟩ := h
  exact ⟨its, e.2 _ _ _ h⟩
def NewD (Q : VK) (xs : List V) (H : Hp) : Prop := xs.length ≤ sizeLine ∧ ∀ p H2, H p = none → Same H H2 → TD H2 p xs → Q (.ref p) H2
def tTupD (t : TA) : TE := fun σ H Q => t σ H (NewD Q)
section
variable {X : Cx}
theorem pe_tupD {es : List Expr} {t : TA} {x1 : Nat} {pos : Pos} (h : PA X es t) : PE X (.Tuple es x1 pos) (tTupD t) := by
  refine ⟨fun pins s σ H Q I hq => ?_⟩
  refine wpAny_Tuple_spliced (thn (h.run pos pins s σ H _ I hq) fun us s1 ⟨xs, H1, I1, r, z, q⟩ => ⟨by rw [← r.length]; exact z, ?_⟩)
  have hf : H1 s1.heap.objs.size = none := I1.hok.fresh (Nat.le_refl _)
  refine ⟨.ref s1.heap.objs.size, upd H1 s1.heap.objs.size (.frz (Tob us) (.tup xs)), I1.laid (t' := s1.toks) (fun b u e => Heap.get?_push_of_some _ e) (Nat.le_refl _) ?_, rfl, q _ _ hf (same_new hf) ⟨us, upd_same⟩⟩
  exact ⟨Heap.get?_push_size _ rfl, z, us, r, ⟨_, Heap.get?_push_size _ rfl, rfl, _, rfl⟩⟩
end
def rCatD (K : PySem.W.Frag) : R2 := fun x y H Q => ∃ a b xs ys, x = .ref a ∧ y = .ref b ∧ SqT K H a xs ∧ SqT K H b ys ∧ xs.length + ys.length ≤ sizeLine ∧
  (xs = [] → Q (.ref b) H) ∧ (xs ≠ [] → ys = [] → Q (.ref a) H) ∧ (xs ≠ [] → ys ≠ [] → ∀ p H2, H p = none → Same H H2 → TD H2 p (xs ++ ys) → Q (.ref p) H2)
section
variable {X : Cx}
theorem op_catD : OpR X (binaryOp .Add) (rCatD X.K) := by
  intro pins s σ H x y v u Q I rx ry h
  obtain ⟨a, b, xs, ys, rfl, rfl, ha, hb, hz, q0, q1, q2⟩ := h
  cases rx
  cases ry
  obtain ⟨its, r1, p1, _⟩ := I.tuple ha
  obtain ⟨its2, r2, p2, _⟩ := I.tuple hb
  by_cases hx : xs = []
  · subst hx
    cases r1
    exact cat_tup0 p1 p2 ⟨.ref b, H, I, rfl, q0 rfl⟩
  · refine HT.cat_tup p1 p2 (fun z => hx (r1.nil_iff.mp z)) (fun z => ⟨.ref a, H, I, rfl, q1 hx (r2.nil_iff.mp z)⟩) (fun z => ?_) (by rw [← r1.length, ← r2.length]; exact hz)
    have hf := I.hok.fresh (Nat.le_refl s.heap.objs.size)
    refine ⟨.ref s.heap.objs.size, _, I.laid (t' := s.toks) (o := .frz (Tob (its ++ its2)) (.tup (xs ++ ys))) (fun b ob q => Heap.get?_push_of_some _ q) (Nat.le_refl _) ?_, rfl, q2 hx (fun w => z (r2.nil_iff.mpr w)) _ _ hf (same_new hf) ⟨_, upd_same⟩⟩
    exact ⟨Heap.get?_push_size _ rfl, by rw [List.length_append]; exact hz, _, r1.append r2, IsTup.new _ _⟩
end
def rSlD (K : PySem.W.Frag) : V → Option Int → Option Int → Hp → VK → Prop := fun x lo hi H Q => ∃ a xs, x = .ref a ∧ SqT K H a xs ∧
  (HT.sIx xs.length 0 lo = 0 ∧ HT.sIx xs.length xs.length hi = xs.length → Q (.ref a) H) ∧ (¬ (HT.sIx xs.length 0 lo = 0 ∧ HT.sIx xs.length xs.length hi = xs.length) → ∀ p H2, H p = none → Same H H2 → TD H2 p (cutV xs lo hi) → Q (.ref p) H2)
section
variable {X : Cx}
theorem sl_tupD : SlR X (rSlD X.K) := by
  intro pins s σ H x v vl vu lo hi sl Q I rx hs pl pu h
  obtain ⟨a, xs, rfl, hx, q1, q2⟩ := h
  cases rx
  obtain ⟨its, r, ht, hz⟩ := I.tuple hx
  have hlen : its.toArray.size = xs.length := by rw [List.size_toArray]; exact r.length.symm
  refine ⟨"tuple", _, PyProof.Rows.slot_tuple_getitem.lookup, ht.typeIs, ?_⟩
  by_cases hw : HT.sIx xs.length 0 lo = 0 ∧ HT.sIx xs.length xs.length hi = xs.length
  · exact getItem_tuple_whole ht hs pl pu (by rw [hlen]; exact hw) ⟨.ref a, H, I, rfl, q1 hw⟩
  · refine HT.getItem_tuple_cut ht hs pl pu (by rw [hlen]; exact hw) ?_ (by rw [hlen]; exact hz)
    rw [hlen]
    have hf := I.hok.fresh (Nat.le_refl s.heap.objs.size)
    refine ⟨.ref s.heap.objs.size, _, I.laid (t' := s.toks) (o := .frz (Tob ((its.drop (HT.sIx xs.length 0 lo)).take (HT.sIx xs.length xs.length hi - HT.sIx xs.length 0 lo))) (.tup (cutV xs lo hi))) (fun b ob q => Heap.get?_push_of_some _ q) (Nat.le_refl _) ?_, rfl, q2 hw _ _ hf (same_new hf) ⟨_, upd_same⟩⟩
    exact ⟨Heap.get?_push_size _ rfl, Nat.le_trans (cutV_length xs lo hi) hz, _, (r.drop (HT.sIx xs.length 0 lo)).take (HT.sIx xs.length xs.length hi - HT.sIx xs.length 0 lo), IsTup.new _ _⟩
end
/-- a method of such a tuple -/
def tBMD (r : V → List V → Hp → VK → Prop) (to : TE) (t : TA) : TE := fun σ H Q => to σ H fun x H1 => (∃ a xs, x = .ref a ∧ TD H1 a xs) ∧ t σ H1 fun xs H2 => r x xs H2 Q
section
variable {X : Cx} {o e : Expr} {es : List Expr} {to : TE} {t : TA} {name : Str} {apos cpos : Pos} {id : String} {r : V → List V → Hp → VK → Prop}
theorem pe_bmD (pa : PlainAttrs "tuple") (slot : Slot "tuple" name id) (hty : typeOf (.builtin id) = pure (.type "method_descriptor")) (hm : MtR X id r) (ho : PE X o to) (ha : PA X (e :: es) t)
    (hbase : attributeBase o name X.env (eval o X.env) = eval o X.env := by rfl)
    (hfew : ((backTo cpos (starEach (e :: es) X.env)).all (fun x => !x.1) && (backToKw cpos (keywordEach [] X.env)).all (fun x => x.1.isSome)
      && decide ((e :: es).length + ([] : List Keyword).length + (if ([] : List Keyword).isEmpty then 0 else 1) < 30)) = true := by rfl)
    (hline : (apos.endLine == cpos.line) = true := by rfl) (hs : starEach (e :: es) X.env = (false, eval e X.env) :: starEach es X.env := by rfl) (hplain : (backTo cpos (starEach es X.env)).any (·.1) = false := by rfl) :
    PE X (.Call (.Attribute o name apos) (e :: es) [] cpos) (tBMD r to t) := by
  refine ⟨fun pins s σ H Q I h => ?_⟩
  refine wpAny_Call_method_late hbase hfew hline rfl (thn (ho.run pins s σ H _ I h) fun v s1 ⟨x, H1, I1, r1, ty, q1⟩ => ?_)
  obtain ⟨a, xs, rfl, its, hT⟩ := ty
  obtain rfl : v = .ref a := by cases r1; rfl
  obtain ⟨e1, _⟩ := I1.hok a _ hT
  refine ⟨"tuple", id, pa, slot, hty, ⟨_, e1, rfl⟩, fun b eb => by cases eb; exact ⟨_, e1, rfl⟩, ?_⟩
  have hA := ha.run cpos pins s1 σ H1 _ I1 q1
  rw [hs] at hA ⊢
  refine Calls.callWith_builtin (by show (false || (backTo cpos (starEach es X.env)).any (·.1)) = false; rw [hplain] <;> rfl) (Calls.evalArgs_plain ?_)
  exact thn hA fun us s2 ⟨vs, H2, I2, r2, q2⟩ => hm pins s2 σ H2 _ vs _ us Q I2 r1 r2 q2
end
section
variable {X : Cx} (K : PySem.W.Frag) (hK : X.K = K := by rfl)
include hK
theorem k_catD : OpR X (binaryOp .Add) (rCatD K) := hK ▸ op_catD
theorem k_slD : SlR X (rSlD K) := hK ▸ sl_tupD
end
section
variable {K : PySem.W.Frag} {H : Hp} {Q : VK} {σ : L2.St}
theorem rTupD {t : TA} (h : t σ H (NewD Q)) : tTupD t σ H Q := h
theorem rNewD {xs : List V} (l : xs.length ≤ sizeLine) (q : ∀ p H2, H p = none → Same H H2 → TD H2 p xs → Q (.ref p) H2) : NewD Q xs H := ⟨l, q⟩
theorem rCatDd {a b : Addr} {xs ys : List V} (ha : TD H a xs) (hb : TD H b ys) (l : xs.length + ys.length ≤ sizeLine) (q : ∀ p H2, Same H H2 → TD H2 p (xs ++ ys) → Q (.ref p) H2) : rCatD K (.ref a) (.ref b) H Q :=
  ⟨a, b, xs, ys, rfl, rfl, ha.sq, hb.sq, l, fun e => q b H (Same.refl H) (by rw [e]; exact hb), fun _ e => q a H (Same.refl H) (by rw [e, List.append_nil]; exact ha), fun _ _ p H2 n s e => q p H2 s e⟩
theorem rSlDd {a : Addr} {xs : List V} {lo hi : Option Int} (ha : TD H a xs) (q : ∀ p H2, Same H H2 → TD H2 p (cutV xs lo hi) → Q (.ref p) H2) : rSlD K (.ref a) lo hi H Q := by
  refine ⟨a, xs, rfl, ha.sq, fun e => q a H (Same.refl H) ?_, fun _ p H2 n s e => q p H2 s e⟩
  have : cutV xs lo hi = xs := by
    unfold cutV
    rw [e.1, e.2, List.drop_zero, Nat.sub_zero, List.take_length]
  rw [this]
  exact ha
theorem rBMD {r : V → List V → Hp → VK → Prop} {to : TE} {t : TA} (h : to σ H fun x H1 => (∃ a xs, x = .ref a ∧ TD H1 a xs) ∧ t σ H1 fun xs H2 => r x xs H2 Q) : tBMD r to t σ H Q := h
end
/-! ### what more than one def wants -/
theorem Short.whole (F : List Str) : Short F F := ⟨F.length, Nat.le_refl _, List.take_length.symm, fun i h1 h2 => by omega⟩
theorem rPar2_ {σ : L2.St} {H : Hp} {i j : Nat} {t : TA} {D : Ends} (h : t σ H fun xs H1 => ∃ x y, xs = [x, y] ∧ D.nx ((σ.set i (some x)).set j (some y)) H1) : tPar i j t D σ H := h
theorem dKwT_shaped (l : List Kw) : SeqAt.shaped (.tuple (dKws l)) = true := by
  unfold SeqAt.shaped dKws
  rw [PyData.canLay0, can_map Kw.can, PyData.depth]
  have := depth_map (n := 0) (f := fun k : Kw => PyData.str k.s) (fun x => by rw [PyData.depth]; exact Nat.le_refl _) l
  simp; omega
theorem rNeKwT {K : PySem.W.Frag} {H : Hp} {Q : VK} {p q : Addr} {a b : List Kw} (ha : SqT K H p (a.map fun k => V.str k.s)) (hb : SqT K H q (b.map fun k => V.str k.s)) (k : Q (.bl (!decide (a = b))) H) : rNeD K (.ref p) (.ref q) H Q :=
  ⟨.tuple (dKws a), .tuple (dKws b), .tup ha (dpAll_map (f := fun k : Kw => V.str k.s) (fun k => .str _) a), .tup hb (dpAll_map (f := fun k : Kw => V.str k.s) (fun k => .str _) b), dKwT_shaped a, dKwT_shaped b, by rw [PyData.eqv, show PyData.eqvAll (dKws a) (dKws b) = decide (a = b) from eqvAll_map Kw.eqv a b]; exact k⟩
theorem paired_rev {α β : Type} {F : α → β → Prop} : ∀ {l : List α} {m : List β}, Paired F l m → Paired F l.reverse m.reverse
  | _, _, .nil => .nil
  | _, _, .cons r t => by rw [List.reverse_cons, List.reverse_cons]; exact paired_snoc r (paired_rev t)

def topS (i : Nat) : Stmt := PySem.Challenge.pw_blazonry_k03_sayings_drawn.main.body.getD i (.Pass ⟨0, 0, 0, 0⟩)
local macro_rules | `(tactic| walk_at "ty") => `(tactic| first
  | exact tyT (by walk_at "lk")
  | exact tyL (by walk_at "lk")
  | exact TyX.base (TyOf.str _)
  | exact TyX.base (TyOf.int _)
  | exact TyX.base (TyOf.bl _)
  | exact TyX.base TyOf.non)
local macro_rules | `(tactic| walk_at "lk") => `(tactic| first
  | assumption
  | exact SqT.of (by assumption)
  | exact SqL.of (by assumption)
  | exact KT.sq _ (by assumption)
  | (refine' Imm.sqT (imm_of_same (by assumption)) ?gk; (case gk => walk_at "lk"))
  | (refine' Imm.sqT (Chg.imm (by assumption)) ?gk; (case gk => walk_at "lk"))
  | (refine' L2.Same.seq (by assumption) ?gk; (case gk => walk_at "lk"))
  | (refine' same_at (by assumption) ?gk; (case gk => walk_at "lk"))
  | (refine' Row.same (by assumption) ?gk; (case gk => walk_at "lk")))
local macro_rules | `(tactic| walk_at "cond") => `(tactic| first
  | assumption
  | decide
  | (show (0 : Int) < _; first | assumption | decide | omega)
  | (refine (⟨?_, ?_⟩ : CDiv _ _) <;> first | assumption | decide | omega)
  | exact Or.inr ⟨by decide, by decide⟩
  | exact Or.inl ⟨by omega, by omega⟩
  | exact ⟨by decide, by decide, by decide⟩)
local macro_rules | `(tactic| walk_at "rd1") => `(tactic| first
  | ((with_reducible refine' rVar ?hv ?_); (case hv => exact rfl))
  | with_reducible refine rC ?_
  | with_reducible refine rOp ?_
  | with_reducible refine rCons ?_
  | with_reducible refine rNil ?_
  | with_reducible refine rSeq ?_
  | with_reducible refine rAsg ?_
  | with_reducible refine rName ?_
  | with_reducible refine rSub ?_
  | with_reducible refine rRet ?_
  | with_reducible refine rDrop ?_
  | with_reducible refine rIfS ?_
  | with_reducible refine rNext ?_
  | with_reducible refine rTest ?_
  | with_reducible refine rB ?_
  | with_reducible refine rBl ?_
  | with_reducible refine rCall ?_
  | with_reducible refine rCB ?_
  | with_reducible refine rTup ?_
  | with_reducible refine rLst ?_
  | with_reducible refine rUn ?_
  | with_reducible refine rI0_ ?_
  | ((with_reducible refine' rEq_ ?hs ?_); (case hs => rfl))
  | ((with_reducible refine' rNe_ ?hs ?_); (case hs => rfl))
  | ((with_reducible refine' rIxL_ ?hl ?he ?_); (case hl => walk_at "lk"); (case he => first | exact rfl | exact atI_zero))
  | ((with_reducible refine' rIxT_ ?hl ?he ?_); (case hl => walk_at "lk"); (case he => first | exact rfl | exact atI_zero))
  | ((with_reducible refine' rInT ?hl ?h1 ?h2 ?_); (case hl => walk_at "lk"); (case h1 => exact rfl); (case h2 => exact rfl))
  | ((with_reducible refine' rNotInT ?hl ?h1 ?h2 ?_); (case hl => walk_at "lk"); (case h1 => exact rfl); (case h2 => exact rfl))
  | ((with_reducible refine' rSetL2 ?hl ?he ?_); (case hl => assumption); (case he => exact rfl); intro _ _ _)
  | ((with_reducible refine' rLnT ?hl ?_); (case hl => walk_at "lk"))
  | ((with_reducible refine' rNewT ?hl ?_); (case hl => exact Nat.le_of_ble_eq_true rfl); intro _ _ _ _ _)
  | ((with_reducible refine' rNewL ?hl ?_); (case hl => exact Nat.le_of_ble_eq_true rfl); intro _ _ _ _ _)
  | with_reducible refine rBM ?_
  | with_reducible refine rTupD ?_
  | ((with_reducible refine' rNewD ?hl ?_); (case hl => exact Nat.le_of_ble_eq_true rfl); intro _ _ _ _ _)
  | ((with_reducible refine' rSlDd ?hl ?_); (case hl => assumption); intro _ _ _ _)
  | with_reducible refine rTr ?_
  | with_reducible refine rIsN_ ?_
  | with_reducible refine rNotN_ ?_
  | with_reducible refine rIsB_ ?_
  | with_reducible refine rNotB_ ?_
  | ((with_reducible refine' rIsi_ ?ht ?he ?_); (case ht => walk_at "ty"); (case he => rfl))
  | ((with_reducible refine' rIsiT_ ?hh ?ht ?he ?hf ?_); (case hh => walk_at "lk"); (case ht => walk_at "ty"); (case he => rfl); (case hf => rfl))
  | with_reducible refine rChain ?_
  | with_reducible refine riEnumT ?_
  | with_reducible refine riZip ?_
  | with_reducible refine riRev ?_
  | ((with_reducible refine' rIEnumT ?hl ?_); (case hl => walk_at "lk"))
  | with_reducible refine rBM0 ?_
  | ((with_reducible refine' rTyL ?hl ?_); (case hl => walk_at "lk"))
  | ((with_reducible refine' rIRng1 ?hl ?_); (case hl => first | assumption | omega | decide))
  | ((with_reducible refine' rMin4_ ?_); intro _ _ _ _ _ _)
  | with_reducible refine iteT ?_
  | with_reducible refine iteF ?_
  | with_reducible refine rIfE ?_
  | with_reducible refine rAnd ?_
  | with_reducible refine rOr ?_
  | with_reducible refine rNot ?_
  | with_reducible refine rAndV ?_
  | with_reducible refine rOrV ?_
  | with_reducible refine rNotV ?_
  | with_reducible refine rIntI ?_
  | with_reducible refine rIntB ?_
  | with_reducible refine rAbsI ?_
  | with_reducible refine rLc ?_
  | with_reducible refine rYes ?_
  | with_reducible refine rFor ?_
  | with_reducible refine riTup ?_
  | with_reducible refine riList ?_
  | with_reducible refine riRng1 ?_
  | with_reducible refine rSlice ?_
  | with_reducible refine rNoPart ?_
  | with_reducible refine rPart ?_
  | with_reducible refine rPairs0 ?_
  | with_reducible refine rPairsS ?_
  | ((with_reducible refine rDisp ?_); intro _ _ _ _ _)
  | ((with_reducible refine' rGTup ?hl ?he ?_); (case hl => walk_at "lk"); (case he => exact rfl))
  | with_reducible refine rDGet2 ?_
  | with_reducible refine rGCons ?_
  | with_reducible refine rGNil ?_
  | with_reducible refine rPart_ ?_
  | ((with_reducible refine' rITup ?hl ?_); (case hl => walk_at "lk"))
  | ((with_reducible refine' rIList ?hl ?_); (case hl => walk_at "lk"))
  | ((with_reducible refine' rSl ?hl ?_); (case hl => walk_at "lk"); intro _ _ _ _)
  | ((with_reducible refine' rTupL ?hl ?_); (case hl => walk_at "lk"); intro _ _ _ _ _)
  | ((with_reducible refine' rTupT ?hl ?_); (case hl => walk_at "lk"))
  | ((with_reducible refine' rI_ ?hc ?_); (case hc => walk_at "cond"))
  | ((with_reducible refine' rT ?hb ?_); (case hb => first | rfl | decide +kernel))
  | ((with_reducible refine' rF ?hb ?_); (case hb => first | rfl | decide +kernel)))
local macro_rules | `(tactic| walk_at "rd") => `(tactic| repeat (walk_at "rd1"))

section
variable {P : Program} {w : World} {K : PySem.W.Frag} {mg : Str → Option Value} {base : Heap}
/-! ### _law_taken -/
abbrev s__law_taken : Stmt := topS 27
theorem sc__law_taken : FnScope ["_law_row", "_law_many", "_law_found", "_law_cell_here"] ["_law_row", "_law_many"] (defScope s__law_taken) := ⟨rfl, rfl, rfl, by decide +kernel, rfl, by decide +kernel, by decide +kernel⟩
def spTaken (K : PySem.W.Frag) : Sp := fun vs H Q _ => ∃ (r : Addr) (n : Int), vs = [.ref r, .int n] ∧ Row K H r ∧ 0 < n ∧ n < 1073741824 ∧
  ∀ (k : Int) (H' : Hp), 0 ≤ k → k < n → Chg r H H' → Row K H' r → Q (.int k) H'

theorem ok__law_taken {f : Addr} {fd : FuncData} {k : Nat} (F : Fun K "_law_taken" "_law_taken" s__law_taken f fd) (m_len : mg "len" = none) : FnOk P w K mg base CX0 (k + 1) f fd ["_law_row", "_law_many"] (spTaken K) := by
  refine F.ok sc__law_taken (fun vs H Q E h => ?_) (fun cdv A outer s H vs Q E hr h => ?_)
  · obtain ⟨r, n, rfl, _⟩ := h; rfl
  refine ⟨_, (pss_cons (ps_if (pt_cmpR op_gt (pe_ix (k_ixL K) (pv 0) pe_int (fun _ _ => rfl)) pe_int (nomark _))
    (pss_cons (ps_set (i := 2) sc__law_taken.nd rfl (.inl rfl) (pe_op op_mod (pe_ix (k_ixL K) (pv 0) pe_int (fun _ _ => rfl)) (pv 1)))
      (pss_cons (ps_asg (pe_op op_fdiv (pe_ix (k_ixL K) (pv 0) pe_int (fun _ _ => rfl)) (pv 1)) (pg_sub (pv 0) pe_int set_list))
      (pss_one (ps_ret (pv 2)))))
    pss_nil)
  (pss_cons (ps_asg (pe_op op_add (pe_ix (k_ixL K) (pv 0) pe_int (fun _ _ => rfl)) pe_int) (pg_sub (pv 0) pe_int set_list))
  (pss_cons (ps_if (pt_cmpR op_gt (pe_ix (k_ixL K) (pv 0) pe_int (fun _ _ => rfl)) (pe_callB (k_len K) (by rfl) m_len (by decide +kernel) (pa_cons (pe_ix (k_ixL K) (pv 0) pe_int (fun _ _ => rfl)) pa_nil)) (nomark _))
    (pss_cons (ps_asg (pe_op op_mod (pe_op op_add (pe_op op_mul (pe_ix (k_ixL K) (pv 0) pe_int (fun _ _ => rfl)) pe_int) pe_int) pe_int) (pg_sub (pv 0) pe_int set_list))
      (pss_one (ps_ret (pe_op op_mod (pe_op op_fdiv (pe_ix (k_ixL K) (pv 0) pe_int (fun _ _ => rfl)) pe_int) (pv 1)))))
    pss_nil)
  (pss_cons (ps_set (i := 3) sc__law_taken.nd rfl (.inl rfl) (pe_ix (k_ixL K) (pe_ix (k_ixL K) (pv 0) pe_int (fun _ _ => rfl)) (pe_op op_sub (pe_ix (k_ixL K) (pv 0) pe_int (fun _ _ => rfl)) pe_int) (fun _ _ => rfl)))
  (pss_cons (ps_asg (pe_op op_mod (pe_op op_add (pe_op op_add (pe_op op_mul (pe_ix (k_ixL K) (pv 0) pe_int (fun _ _ => rfl)) pe_int) (pv 3)) pe_int) pe_int) (pg_sub (pv 0) pe_int set_list))
  (pss_cons (ps_if (pt_cmpR op_ge (pv 3) (pe_op op_pow pe_int pe_int) (nomark _))
    (pss_one (ps_asg (pe_op op_fdiv (pv 3) (pv 1)) (pg_sub (pv 0) pe_int set_list)))
    pss_nil)
  (pss_one (ps_ret (pe_op op_mod (pv 3) (pv 1)))))))))), ?_⟩
  obtain ⟨r, n, rfl, hR, h0, h1, q⟩ := h
  obtain ⟨a, ns, i, m, g, eR, hS, i0, m0, m1, g0, hl⟩ := hR
  walk_at "rd"
  refine rIte (fun c => ?_) (fun c => ?_)
  · walk_at "rd"
    rename_i H2 c2 e2
    exact q _ _ (Int.emod_nonneg _ (by omega)) (Int.emod_lt_of_pos _ h0) c2 ⟨a, ns, i, m, g / n, e2, hS.chg c2, i0, m0, m1, Int.ediv_nonneg g0 (by omega), hl⟩
  · walk_at "rd"
    rename_i H2 c2 e2
    have hS2 := (hS.chg c2).seq
    refine rLnL hS2 ?_
    walk_at "rd"
    refine rIte (fun c => ?_) (fun c => ?_)
    · walk_at "rd"
      rename_i H3 c3 e3
      have c4 := c2.trans c3
      exact q _ _ (Int.emod_nonneg _ (by omega)) (Int.emod_lt_of_pos _ h0) c4 ⟨a, ns, i + 1, _, g, e3, hS.chg c4, by omega, Int.emod_nonneg _ (by decide), Int.emod_lt_of_pos _ (by decide), g0, hl⟩
    · rw [List.length_map] at c
      have gi : atI (ns.map V.int) (i + 1 - 1) = some (.int (ns.getD i.toNat 0)) := by
        have hlt : i.toNat < ns.length := by omega
        rw [show i + 1 - 1 = ((i.toNat : Nat) : Int) by omega]
        refine atI_nat ?_
        rw [List.getElem?_map, List.getElem?_eq_getElem hlt, List.getD_eq_getElem?_getD, List.getElem?_eq_getElem hlt]
        rfl
      generalize ns.getD i.toNat 0 = z at gi
      walk_at "rd"
      refine rIxL_ hS2 gi ?_
      walk_at "rd"
      rename_i H3 c3 e3
      have c4 := c2.trans c3
      refine rIte (fun d => ?_) (fun d => ?_)
      · walk_at "rd"
        rename_i H4 c5 e5
        have c6 := c4.trans c5
        have hz : 0 ≤ z := Int.le_trans (by decide) d
        exact q _ _ (Int.emod_nonneg _ (by omega)) (Int.emod_lt_of_pos _ h0) c6 ⟨a, ns, i + 1, _, z / n, e5, hS.chg c6, by omega, Int.emod_nonneg _ (by decide), Int.emod_lt_of_pos _ (by decide), Int.ediv_nonneg hz (by omega), hl⟩
      · walk_at "rd"
        exact q _ _ (Int.emod_nonneg _ (by omega)) (Int.emod_lt_of_pos _ h0) c4 ⟨a, ns, i + 1, _, g, e3, hS.chg c4, by omega, Int.emod_nonneg _ (by decide), Int.emod_lt_of_pos _ (by decide), g0, hl⟩

/-! ### _law_size -/
abbrev s__law_size : Stmt := topS 29
theorem sc__law_size : FnScope ["_law_row", "_law_most", "_law_sides", "_law_side"] ["_law_row", "_law_most"] (defScope s__law_size) := ⟨rfl, rfl, rfl, by decide +kernel, rfl, by decide +kernel, by decide +kernel⟩
def spSize (K : PySem.W.Frag) : Sp := fun vs H Q _ => ∃ (r : Addr) (m : Int), vs = [.ref r, .int m] ∧ Row K H r ∧ 1 ≤ m ∧
  ∀ (w h : Nat) (p : Addr) (H' : Hp), Side w → Side h → (w : Int) ≤ m → (h : Int) ≤ m → Chg r H H' → Row K H' r → SqT K H' p [.int w, .int h] → Q (.ref p) H'
theorem side_of {m : Int} {v : V} (h : v ∈ (([4, 8, 4, 2, 8, 1] : List Int).filter (fun z => decide (z ≤ m))).map V.int) : ∃ w : Nat, v = .int w ∧ Side w ∧ (w : Int) ≤ m := by
  obtain ⟨z, hz, rfl⟩ := List.mem_map.mp h
  obtain ⟨h1, h2⟩ := List.mem_filter.mp hz
  have h3 : z ≤ m := of_decide_eq_true h2
  simp only [List.mem_cons, List.not_mem_nil, or_false] at h1
  unfold Side
  rcases h1 with h | h | h | h | h | h <;> subst h
  · exact ⟨4, rfl, by decide, h3⟩
  · exact ⟨8, rfl, by decide, h3⟩
  · exact ⟨4, rfl, by decide, h3⟩
  · exact ⟨2, rfl, by decide, h3⟩
  · exact ⟨8, rfl, by decide, h3⟩
  · exact ⟨1, rfl, by decide, h3⟩

theorem ok__law_size {f : Addr} {fd : FuncData} {k : Nat} (F : Fun K "_law_size" "_law_size" s__law_size f fd) (m_len : mg "len" = none) {a__law_taken : Addr} {fd__law_taken : FuncData} (G__law_taken : FnOk P w K mg base CX0 k a__law_taken fd__law_taken ["_law_row", "_law_many"] (spTaken K)) (m__law_taken : mg "_law_taken" = some (.ref a__law_taken)) (k__law_taken : PySem.W.keepIn K (.ref a__law_taken) = true) (b__law_taken : Binds K fd__law_taken ["_law_row", "_law_many"] []) : FnOk P w K mg base CX0 (k + 1) f fd ["_law_row", "_law_most"] (spSize K) := by
  refine F.ok sc__law_size (fun vs H Q E h => ?_) (fun cdv A outer s H vs Q E hr h => ?_)
  · obtain ⟨r, n, rfl, _⟩ := h; rfl
  refine ⟨_, (pss_cons (ps_setLc (i := 2) (own := [("_law_side", 3)]) rfl sc__law_size.nd rfl rfl (sw_true rfl rfl rfl (by decide +kernel)) (k_iterT K (pe_tup (pa_cons pe_int (pa_cons pe_int (pa_cons pe_int (pa_cons pe_int (pa_cons pe_int (pa_cons pe_int pa_nil)))))))) (blkOk_by (N := ["_law_row", "_law_most", "_law_sides", "_law_side"]) (sc := defScope s__law_size) (by decide +kernel)) (fun _ _ _ _ _ => (pg_name (i := 3) sc__law_size.nd rfl (.inl rfl))) (fun _ _ _ _ _ => (pts_one (pt_cmpR op_le (pv 3) (pv 1) (nomark _)))) (fun _ _ _ _ _ => (pv 3)))
  (pss_one (ps_ret (pe_tup (pa_cons (pe_ix (k_ixL K) (pv 2) (pe_call G__law_taken hr (by rfl) m__law_taken k__law_taken b__law_taken .nil pass0 (pa_cons (pv 0) (pa_cons (pe_callB (k_len K) (by rfl) m_len (by decide +kernel) (pa_cons (pv 2) pa_nil)) pa_nil))) (fun _ _ => rfl)) (pa_cons (pe_ix (k_ixL K) (pv 2) (pe_call G__law_taken hr (by rfl) m__law_taken k__law_taken b__law_taken .nil pass0 (pa_cons (pv 0) (pa_cons (pe_callB (k_len K) (by rfl) m_len (by decide +kernel) (pa_cons (pv 2) pa_nil)) pa_nil))) (fun _ _ => rfl)) pa_nil)))))), ?_⟩
  obtain ⟨r, m, rfl, hR, h0, q⟩ := h
  walk_at "rd"
  rename_i p H2 np s2 e2
  intro D nD
  refine lc_tup (xs := ([4, 8, 4, 2, 8, 1] : List Int).map V.int) (Made D fun i acc H' => Same H2 H' ∧ acc = ((([4, 8, 4, 2, 8, 1] : List Int).take i).filter (fun z => decide (z ≤ m))).map V.int) ?_ ?_ ?_ ?_
  · exact made0 ⟨same_new nD, rfl⟩
  · rintro i H' _ ⟨acc, _, _, sm, _⟩
    exact SqT.of (sm _ _ e2)
  · rintro i x H' hx ⟨acc, eD, la, sm, rfl⟩
    obtain ⟨z, hz, rfl⟩ : ∃ z, ([4, 8, 4, 2, 8, 1] : List Int)[i]? = some z ∧ x = .int z := by
      rw [List.getElem?_map] at hx
      cases hq : ([4, 8, 4, 2, 8, 1] : List Int)[i]? with
      | none => rw [hq] at hx; cases hx
      | some z => rw [hq] at hx; exact ⟨z, rfl, (Option.some.inj hx).symm⟩
    have hi : i < 6 := (List.getElem?_eq_some_iff.mp hz).1
    have ht : ([4, 8, 4, 2, 8, 1] : List Int).take (i + 1) = ([4, 8, 4, 2, 8, 1] : List Int).take i ++ [z] := by
      rw [List.take_add_one, hz]; rfl
    walk_at "rd"
    refine ⟨rfl, ?_⟩
    walk_at "rd"
    refine rIte (fun c => ?_) (fun c => ?_)
    · walk_at "rd"
      refine madeS eD la (by omega) ⟨same_upd sm nD, ?_⟩
      rw [ht, List.filter_append, List.map_append]
      simp only [List.filter_cons, List.filter_nil, decide_eq_true c, if_true, List.map_cons, List.map_nil]
    · refine ⟨_, eD, Nat.le_trans la (Nat.le_succ _), sm, ?_⟩
      rw [ht, List.filter_append]
      simp only [List.filter_cons, List.filter_nil, decide_eq_false c, if_false, List.append_nil, Bool.false_eq_true]
  · rintro H3 ⟨acc, eD, _, s3, rfl⟩
    have hm : ∀ v ∈ (([4, 8, 4, 2, 8, 1] : List Int).filter (fun z => decide (z ≤ m))).map V.int, ∃ w : Nat, v = .int w ∧ Side w ∧ (w : Int) ≤ m := fun v => side_of
    have h1 : 0 < ((([4, 8, 4, 2, 8, 1] : List Int).filter (fun z => decide (z ≤ m))).map V.int).length := by
      refine List.length_pos_of_mem (List.mem_map.mpr ⟨1, List.mem_filter.mpr ⟨by decide, decide_eq_true h0⟩, rfl⟩)
    have h2 : ((([4, 8, 4, 2, 8, 1] : List Int).filter (fun z => decide (z ≤ m))).map V.int).length ≤ 6 := by
      rw [List.length_map]; exact List.length_filter_le _ _
    have eD' : H3 D = some (.lst ((([4, 8, 4, 2, 8, 1] : List Int).filter (fun z => decide (z ≤ m))).map V.int)) := eD
    clear eD
    generalize ((([4, 8, 4, 2, 8, 1] : List Int).filter (fun z => decide (z ≤ m))).map V.int) = sides at *
    have R3 : Row K H3 r := (hR.same s2).same s3
    have nr : D ≠ r := (hR.same s2).ne nD
    walk_at "rd"
    refine rLnL (SqL.of eD') ?_
    walk_at "rd"
    refine ⟨r, sides.length, rfl, R3, by omega, by omega, fun k H4 k0 k1 c4 R4 => ?_⟩
    have eD4 := c4.2 _ _ nr eD'
    obtain ⟨v, hv, mv⟩ := atI_lt k0 k1
    obtain ⟨w1, rfl, sw, lw⟩ := hm v mv
    refine rIxL_ (SqL.of eD4) hv ?_
    walk_at "rd"
    refine rLnL (SqL.of eD4) ?_
    walk_at "rd"
    refine ⟨r, sides.length, rfl, R4, by omega, by omega, fun k' H5 k0' k1' c5 R5 => ?_⟩
    have eD5 := c5.2 _ _ nr eD4
    obtain ⟨v', hv', mv'⟩ := atI_lt k0' k1'
    obtain ⟨w2, rfl, sw', lw'⟩ := hm v' mv'
    refine rIxL_ (SqL.of eD5) hv' ?_
    walk_at "rd"
    rename_i p5 H6 n6 s6 e6
    exact q w1 w2 p5 H6 sw sw' lw lw' ((chg_of_same s2).trans ((chg_of_same s3).trans (c4.trans (c5.trans (chg_of_same s6))))) (R5.same s6) (SqT.of e6)

/-! ### _law_cut -/
abbrev s__law_cut : Stmt := topS 34
theorem sc__law_cut : FnScope ["_law_row", "_law_words", "_law_many"] ["_law_row", "_law_words"] (defScope s__law_cut) := ⟨rfl, rfl, rfl, by decide +kernel, rfl, by decide +kernel, by decide +kernel⟩
def spCut (K : PySem.W.Frag) : Sp := fun vs H Q _ => ∃ (r p : Addr) (l : List Str), vs = [.ref r, .ref p] ∧ Row K H r ∧ SqT K H p (ws l) ∧ l.length ≤ 100000 ∧
  ∀ (m : Nat) (a : Addr) (H' : Hp), m ≤ l.length → (∀ i, m ≤ i → i < l.length → l[i]? = some Co.white.s) → Chg r H H' → Row K H' r → SqT K H' a (ws (l.take m)) → Q (.ref a) H'

theorem ok__law_cut {f : Addr} {fd : FuncData} {k : Nat} (F : Fun K "_law_cut" "_law_cut" s__law_cut f fd) (m_len : mg "len" = none) {a__law_taken : Addr} {fd__law_taken : FuncData} (G__law_taken : FnOk P w K mg base CX0 k a__law_taken fd__law_taken ["_law_row", "_law_many"] (spTaken K)) (m__law_taken : mg "_law_taken" = some (.ref a__law_taken)) (k__law_taken : PySem.W.keepIn K (.ref a__law_taken) = true) (b__law_taken : Binds K fd__law_taken ["_law_row", "_law_many"] []) : FnOk P w K mg base CX0 (k + 1) f fd ["_law_row", "_law_words"] (spCut K) := by
  refine F.ok sc__law_cut (fun vs H Q E h => ?_) (fun cdv A outer s H vs Q E hr h => ?_)
  · obtain ⟨r, p, l, rfl, _⟩ := h; rfl
  refine ⟨_, (pss_cons (ps_set (i := 2) sc__law_cut.nd rfl (.inl rfl) (pe_callB (k_len K) (by rfl) m_len (by decide +kernel) (pa_cons (pv 1) pa_nil)))
  (pss_cons (ps_while PassesOwn.never (PW.pt (pw_and (pt_cmpR op_gt (pv 2) pe_int (nomark _)) (pw_and1 (pt_cmpR op_eq (pe_ix (k_ixT K) (pv 1) (pe_op op_sub (pv 2) pe_int) (fun _ _ => rfl)) pe_str (nomark _)))))
    (pss_one (ps_set (i := 2) sc__law_cut.nd rfl (.inl rfl) (pe_op op_sub (pv 2) pe_int))))
  (pss_one (ps_ret (pe_slice (k_slT K) (pv 1) po_none (po_some (pe_op op_add (pv 2) (pe_call G__law_taken hr (by rfl) m__law_taken k__law_taken b__law_taken .nil pass0 (pa_cons (pv 0) (pa_cons (pe_op op_add (pe_op op_sub (pe_callB (k_len K) (by rfl) m_len (by decide +kernel) (pa_cons (pv 1) pa_nil)) (pv 2)) pe_int) pa_nil)))))))))), ?_⟩
  obtain ⟨r, p, l, rfl, hR, hp, hl, q⟩ := h
  walk_at "rd"
  rw [ws_len]
  walk_at "rd"
  have tail : ∀ n, n ≤ l.length → (∀ i, n ≤ i → i < l.length → l[i]? = some Co.white.s) → spTaken K [.ref r, .int (((ws l).length : Int) - (n : Int) + 1)] H
      (fun y H2 => rI0 (fun i j => V.int (i + j)) (.int (n : Nat)) y H2 fun x H1 => ∃ i, x = .int i ∧ rSlA K (.ref p) none (some i) H1 Q) E0 := by
    intro n hn hw
    refine ⟨r, _, rfl, hR, by rw [ws_len]; omega, by rw [ws_len]; omega, fun k H2 k0 k1 c2 R2 => ?_⟩
    rw [ws_len] at k1
    refine rI0_ ⟨_, rfl, ?_⟩
    refine rSl (c2.1.sqT hp) fun a H3 s3 h3 => ?_
    obtain ⟨k, rfl⟩ := Int.eq_ofNat_of_zero_le k0
    rw [show ((n : Int) + ((k : Nat) : Int)) = ((n + k : Nat) : Int) from rfl, cut_to] at h3
    refine q (n + k) a H3 (by omega) (fun i h1 h2 => hw i (by omega) h2) (c2.trans (chg_of_same s3)) (R2.same s3) ?_
    rw [show ws (l.take (n + k)) = (ws l).take (n + k) from List.map_take]
    exact h3
  refine rWhile (fun n σ' H' => n ≤ l.length ∧ σ' = [some (.ref r), some (.ref p), some (.int (n : Nat))] ∧ H = H' ∧ ∀ i, n ≤ i → i < l.length → l[i]? = some Co.white.s) ⟨l.length, Nat.le_refl _, rfl, rfl, fun i h1 h2 => by omega⟩ ?_
  rintro n _ _ ⟨hn, rfl, rfl, hw⟩
  walk_at "rd"
  refine rIte (fun c => ?_) (fun c => ?_)
  · obtain ⟨n, rfl⟩ : ∃ n', n = n' + 1 := ⟨n - 1, by omega⟩
    have hlt : n < l.length := by omega
    have gi : atI (ws l) ((n + 1 : Nat) - 1 : Int) = some (.str l[n]) := by
      rw [show ((n + 1 : Nat) - 1 : Int) = ((n : Nat) : Int) by omega]
      refine atI_nat ?_
      unfold ws
      rw [List.getElem?_map, List.getElem?_eq_getElem hlt]; rfl
    walk_at "rd"
    refine rIxT_ hp gi ?_
    walk_at "rd"
    refine rIte (fun c1 => ?_) (fun c1 => ?_)
    · refine ⟨fun σ' H' => ∃ m', m' < n + 1 ∧ (m' ≤ l.length ∧ σ' = [some (.ref r), some (.ref p), some (.int (m' : Nat))] ∧ H = H' ∧ ∀ i, m' ≤ i → i < l.length → l[i]? = some Co.white.s), fun _ _ h => h, ?_⟩
      walk_at "rd"
      refine ⟨n, Nat.lt_succ_self _, by omega, ?_, rfl, fun i h1 h2 => ?_⟩
      · rw [show ((n + 1 : Nat) - 1 : Int) = ((n : Nat) : Int) by omega]
        rfl
      · by_cases e : i = n
        · subst e
          rw [List.getElem?_eq_getElem hlt]
          exact congrArg some (V.str.inj c1)
        · exact hw i (by omega) h2
    · walk_at "rd"
      exact tail (n + 1) hn hw
  · walk_at "rd"
    exact tail n hn hw

/-! ### _law_fits -/
abbrev s__law_fits : Stmt := topS 31
theorem sc__law_fits : FnScope ["_law_size_here", "_law_word", "_law_least", "_law_width", "_law_height"] ["_law_size_here", "_law_word"] (defScope s__law_fits) := ⟨rfl, rfl, rfl, by decide +kernel, rfl, by decide +kernel, by decide +kernel⟩
inductive Nw | d (d : Du) | p (p : Pi)
  deriving DecidableEq
def Nw.s : Nw → Str
  | .d x => x.s | .p x => x.s
def Nw.fits (w h : Nat) : Nw → Bool
  | .d x => x.fits w h | .p x => x.fits w h
def Nw.k : Nw → Kw
  | .d x => .d x | .p x => .p x
theorem Nw.ks (x : Nw) : x.k.s = x.s := by cases x <;> rfl
theorem nw_kws (l : List Nw) : (l.map fun x => V.str x.s) = (l.map Nw.k).map fun k => V.str k.s := by
  rw [List.map_map]
  exact List.map_congr_left fun x _ => by show V.str x.s = V.str x.k.s; rw [Nw.ks]
def nws : List Nw := [.d .party, .d .cut, .d .quartered, .p .pillar, .p .band, .p .head, .p .edge]
def spFits (K : PySem.W.Frag) : Sp := fun vs H Q _ => ∃ (p : Addr) (x : Nw) (w h : Nat), vs = [.ref p, .str x.s] ∧ SqT K H p [.int w, .int h] ∧ Side w ∧ Side h ∧ ∀ (b : Bool) (H' : Hp), b = x.fits w h → Same H H' → Q (.bl b) H'

theorem ok__law_fits {f : Addr} {fd : FuncData} {k : Nat} (F : Fun K "_law_fits" "_law_fits" s__law_fits f fd)  : FnOk P w K mg base CX0 (k + 1) f fd ["_law_size_here", "_law_word"] (spFits K) := by
  refine F.ok sc__law_fits (fun vs H Q E h => ?_) (fun cdv A outer s H vs Q E hr h => ?_)
  · obtain ⟨p, x, w, h, rfl, _⟩ := h; rfl
  refine ⟨_, (pss_cons (ps_set (i := 2) sc__law_fits.nd rfl (.inl rfl) (pe_disp (pps_cons pe_str (pe_tup (pa_cons pe_int (pa_cons pe_int pa_nil))) (pps_cons pe_str (pe_tup (pa_cons pe_int (pa_cons pe_int pa_nil))) (pps_cons pe_str (pe_tup (pa_cons pe_int (pa_cons pe_int pa_nil))) (pps_cons pe_str (pe_tup (pa_cons pe_int (pa_cons pe_int pa_nil))) (pps_cons pe_str (pe_tup (pa_cons pe_int (pa_cons pe_int pa_nil))) (pps_cons pe_str (pe_tup (pa_cons pe_int (pa_cons pe_int pa_nil))) pps_nil)))))) (by rfl) (by rfl) (by simp) (by decide)))
  (pss_cons (ps_asg (pe_dget2 (hu_of hr) (pv 2) (pv 1) (pe_tup (pa_cons pe_int (pa_cons pe_int pa_nil))) ⟨rfl, rfl, rfl, rfl⟩) (k_gtup K 2 rfl (pgs_cons (pg_name (i := 3) sc__law_fits.nd rfl (.inl rfl)) (pgs_cons (pg_name (i := 4) sc__law_fits.nd rfl (.inl rfl)) pgs_nil))))
  (pss_one (ps_ret (pe_and (pe_cmpR op_ge (pe_ix (k_ixT K) (pv 0) pe_int (fun _ _ => rfl)) (pv 3) (nomark _)) (pe_one (pe_cmpR op_ge (pe_ix (k_ixT K) (pv 0) pe_int (fun _ _ => rfl)) (pv 4) (nomark _)))))))), ?_⟩
  obtain ⟨p, x, w, h, rfl, hp, sw, sh, q⟩ := h
  walk_at "rd"
  rename_i pd H1 nd s1 ed p1 H2 n2 s2 e2 p2 H3 n3 s3 e3 p3 H4 n4 s4 e4 p4 H5 n5 s5 e5 p5 H6 n6 s6 e6 p6 H7 n7 s7 e7
  refine rDispEnd [(.inr "party", .ref p1), (.inr "cut", .ref p2), (.inr "quartered", .ref p3), (.inr "pillar", .ref p4), (.inr "band", .ref p5), (.inr "head", .ref p6)] (by walk_at "lk") rfl (Nat.le_of_ble_eq_true rfl) fun H8 c8 e8 => ?_
  have t1 : SqT K H8 p1 [.int 2, .int 1] := by walk_at "lk"
  have t2 : SqT K H8 p2 [.int 1, .int 2] := by walk_at "lk"
  have t3 : SqT K H8 p3 [.int 2, .int 2] := by walk_at "lk"
  have t4 : SqT K H8 p4 [.int 4, .int 1] := by walk_at "lk"
  have t5 : SqT K H8 p5 [.int 1, .int 4] := by walk_at "lk"
  have t6 : SqT K H8 p6 [.int 1, .int 4] := by walk_at "lk"
  have hp8 : SqT K H8 p [.int w, .int h] := by walk_at "lk"
  have sB : Same H H8 := same_chg (s1.trans (s2.trans (s3.trans (s4.trans (s5.trans (s6.trans s7)))))) c8 nd
  clear e2 e3 e4 e5 e6 e7 ed n2 n3 n4 n5 n6 n7 s1 s2 s3 s4 s5 s6 s7 c8
  walk_at "rd"
  refine ⟨pd, rfl, .inl ⟨_, .inl e8⟩, ?_⟩
  walk_at "rd"
  rename_i p9 H9 n9 s9 e9
  refine ⟨_, DGet.k (k := .inr x.s) (s9 _ _ e8), ?_⟩
  have hp9 : SqT K H9 p [.int w, .int h] := by walk_at "lk"
  have hw : 1 ≤ w ∧ 1 ≤ h := by
    unfold Side at sw sh
    omega
  have tk : ∃ (a : Addr) (u v : Nat), (valV (mergeK [] [((.inr "party" : Key), V.ref p1), (.inr "cut", .ref p2), (.inr "quartered", .ref p3), (.inr "pillar", .ref p4), (.inr "band", .ref p5), (.inr "head", .ref p6)]) (.inr x.s)).getD (.ref p9) = .ref a ∧
      SqT K H9 a [.int u, .int v] ∧ x.fits w h = (decide (u ≤ w) && decide (v ≤ h)) := by
    rcases x with d | d <;> cases d
    · exact ⟨p1, 2, 1, rfl, by walk_at "lk", by simp [Nw.fits, Du.fits, hw]⟩
    · exact ⟨p2, 1, 2, rfl, by walk_at "lk", by simp [Nw.fits, Du.fits, hw]⟩
    · exact ⟨p3, 2, 2, rfl, by walk_at "lk", by simp [Nw.fits, Du.fits, hw]⟩
    · exact ⟨p4, 4, 1, rfl, by walk_at "lk", by simp [Nw.fits, Pi.fits, hw]⟩
    · exact ⟨p5, 1, 4, rfl, by walk_at "lk", by simp [Nw.fits, Pi.fits, hw]⟩
    · exact ⟨p6, 1, 4, rfl, by walk_at "lk", by simp [Nw.fits, Pi.fits, hw]⟩
    · exact ⟨p9, 4, 4, rfl, by walk_at "lk", by simp [Nw.fits, Pi.fits, hw]⟩
  obtain ⟨a, u, v, ea, ha, ef⟩ := tk
  have sC : Same H H9 := sB.trans s9
  refine rGTupE ea ha rfl ?_
  walk_at "rd"
  refine rIte (fun c => ?_) (fun c => ?_)
  · walk_at "rd"
    refine q _ _ ?_ sC
    rw [ef]
    have c' : u ≤ w := by omega
    by_cases d : v ≤ h
    · rw [decide_eq_true c', decide_eq_true d, decide_eq_true (by omega)]; rfl
    · rw [decide_eq_true c', decide_eq_false d, decide_eq_false (by omega)]; rfl
  · refine q _ _ ?_ sC
    have c' : ¬ u ≤ w := by omega
    rw [ef, decide_eq_false c']; rfl

/-! ### _law_colour -/
abbrev s__law_colour : Stmt := topS 30
theorem sc__law_colour : FnScope ["_law_row"] ["_law_row"] (defScope s__law_colour) := ⟨rfl, rfl, rfl, by decide +kernel, rfl, by decide +kernel, by decide +kernel⟩
def spColour (K : PySem.W.Frag) : Sp := fun vs H Q _ => ∃ (r : Addr), vs = [.ref r] ∧ Row K H r ∧ ∀ (c : Co) (H' : Hp), Chg r H H' → Row K H' r → Q (.str c.s) H'
theorem colour_of {v : V} (h : v ∈ ([.str "white", .str "red", .str "yellow", .str "white", .str "blue", .str "black", .str "green", .str "red"] : List V)) : ∃ c : Co, v = .str c.s := by
  simp only [List.mem_cons, List.not_mem_nil, or_false] at h
  rcases h with h | h | h | h | h | h | h | h <;> subst h
  · exact ⟨.white, rfl⟩
  · exact ⟨.red, rfl⟩
  · exact ⟨.yellow, rfl⟩
  · exact ⟨.white, rfl⟩
  · exact ⟨.blue, rfl⟩
  · exact ⟨.black, rfl⟩
  · exact ⟨.green, rfl⟩
  · exact ⟨.red, rfl⟩

theorem ok__law_colour {f : Addr} {fd : FuncData} {k : Nat} (F : Fun K "_law_colour" "_law_colour" s__law_colour f fd) {a__law_taken : Addr} {fd__law_taken : FuncData} (G__law_taken : FnOk P w K mg base CX0 k a__law_taken fd__law_taken ["_law_row", "_law_many"] (spTaken K)) (m__law_taken : mg "_law_taken" = some (.ref a__law_taken)) (k__law_taken : PySem.W.keepIn K (.ref a__law_taken) = true) (b__law_taken : Binds K fd__law_taken ["_law_row", "_law_many"] []) : FnOk P w K mg base CX0 (k + 1) f fd ["_law_row"] (spColour K) := by
  refine F.ok sc__law_colour (fun vs H Q E h => ?_) (fun cdv A outer s H vs Q E hr h => ?_)
  · obtain ⟨r, rfl, _⟩ := h; rfl
  refine ⟨_, (pss_one (ps_ret (pe_ix (k_ixL K) (pe_lst (pa_cons pe_str (pa_cons pe_str (pa_cons pe_str (pa_cons pe_str (pa_cons pe_str (pa_cons pe_str (pa_cons pe_str (pa_cons pe_str pa_nil))))))))) (pe_call G__law_taken hr (by rfl) m__law_taken k__law_taken b__law_taken .nil pass0 (pa_cons (pv 0) (pa_cons pe_int pa_nil))) (fun _ _ => rfl)))), ?_⟩
  obtain ⟨r, rfl, hR, q⟩ := h
  walk_at "rd"
  rename_i p H2 np s2 e2
  refine ⟨r, 8, rfl, hR.same s2, by decide, by decide, fun k H3 k0 k1 c3 R3 => ?_⟩
  have n2 : p ≠ r := hR.ne np
  obtain ⟨v, hv, mv⟩ := atI_lt (xs := [.str "white", .str "red", .str "yellow", .str "white", .str "blue", .str "black", .str "green", .str "red"]) k0 k1
  obtain ⟨c, rfl⟩ := colour_of mv
  refine rIxL_ (SqL.of (c3.2 _ _ n2 e2)) hv ?_
  exact q c H3 ((chg_of_same s2).trans c3) R3

/-! ### _law_part -/
abbrev s__law_part : Stmt := topS 32
theorem sc__law_part : FnScope ["_law_size_here", "_law_word"] ["_law_size_here", "_law_word"] (defScope s__law_part) := ⟨rfl, rfl, rfl, by decide +kernel, rfl, by decide +kernel, by decide +kernel⟩
def spPart (K : PySem.W.Frag) : Sp := fun vs H Q _ => ∃ (p : Addr) (x : Du) (w h : Nat), vs = [.ref p, .str x.s] ∧ SqT K H p [.int w, .int h] ∧ ∀ (a : Addr) (H' : Hp), Same H H' → SqT K H' a [.int (x.pw w : Nat), .int (x.ph h : Nat)] → Q (.ref a) H'

theorem ok__law_part {f : Addr} {fd : FuncData} {k : Nat} (F : Fun K "_law_part" "_law_part" s__law_part f fd) (m_int : mg "int" = none) : FnOk P w K mg base CX0 (k + 1) f fd ["_law_size_here", "_law_word"] (spPart K) := by
  refine F.ok sc__law_part (fun vs H Q E h => ?_) (fun cdv A outer s H vs Q E hr h => ?_)
  · obtain ⟨p, x, w, h, rfl, _⟩ := h; rfl
  refine ⟨_, (pss_cons (ps_if (pt_cmpR (k_in K) (pv 1) (pe_tup (pa_cons pe_str (pa_cons pe_str pa_nil))) (by rfl))
    (pss_one (ps_ret (pe_ix (k_ixL K) (pe_lst (pa_cons (pe_tup (pa_cons (pe_ix (k_ixT K) (pv 0) pe_int (fun _ _ => rfl)) (pa_cons (pe_op op_fdiv (pe_ix (k_ixT K) (pv 0) pe_int (fun _ _ => rfl)) pe_int) pa_nil))) (pa_cons (pe_tup (pa_cons (pe_op op_fdiv (pe_ix (k_ixT K) (pv 0) pe_int (fun _ _ => rfl)) pe_int) (pa_cons (pe_ix (k_ixT K) (pv 0) pe_int (fun _ _ => rfl)) pa_nil))) pa_nil))) (pe_callTy z_int (by rfl) m_int (by decide +kernel) (pa_cons (pe_cmpR op_eq (pv 1) pe_str (nomark _)) pa_nil)) (fun _ _ => rfl))))
    pss_nil)
  (pss_one (ps_ret (pe_tup (pa_cons (pe_op op_fdiv (pe_ix (k_ixT K) (pv 0) pe_int (fun _ _ => rfl)) pe_int) (pa_cons (pe_op op_fdiv (pe_ix (k_ixT K) (pv 0) pe_int (fun _ _ => rfl)) pe_int) pa_nil)))))), ?_⟩
  obtain ⟨p, x, w, h, rfl, hp, q⟩ := h
  cases x
  · walk_at "rd"
    rename_i p1 H1 n1 s1 e1 p2 H2 n2 s2 e2 p3 H3 n3 s3 e3 p4 H4 n4 s4 e4
    exact q _ _ (s1.trans (s2.trans (s3.trans s4))) (SqT.of (s4 _ _ e3))
  · walk_at "rd"
    rename_i p1 H1 n1 s1 e1 p2 H2 n2 s2 e2 p3 H3 n3 s3 e3 p4 H4 n4 s4 e4
    exact q _ _ (s1.trans (s2.trans (s3.trans s4))) (SqT.of (s4 _ _ (s3 _ _ e2)))
  · walk_at "rd"
    rename_i p1 H1 n1 s1 e1 p2 H2 n2 s2 e2
    exact q _ _ (s1.trans s2) (SqT.of e2)

/-! ### _law_saying -/
abbrev s__law_saying : Stmt := topS 33
theorem sc__law_saying : FnScope ["_law_row", "_law_size_here", "_law_deep", "_law_some", "_law_way", "_law_word", "_law_part_here"] ["_law_row", "_law_size_here", "_law_deep"] (defScope s__law_saying) := ⟨rfl, rfl, rfl, by decide +kernel, rfl, by decide +kernel, by decide +kernel⟩
theorem pow512 {d n l : Nat} (hd : d < n) (hn : n ≤ 8) (h : l < 2 ^ (d + 1)) : l < 256 := Nat.lt_of_lt_of_le h (Nat.pow_le_pow_right (by decide) (by omega : d + 1 ≤ 8))
def spSaying (K : PySem.W.Frag) (n : Nat) : Sp := fun vs H Q _ => ∃ (r p : Addr) (w h deep : Nat), vs = [.ref r, .ref p, .int deep] ∧ deep < n ∧ n ≤ 9 ∧ Row K H r ∧ SqT K H p [.int w, .int h] ∧ Side w ∧ Side h ∧
  ∀ (t : Tr) (a : Addr) (H' : Hp), t.ok w h → t.wds.length < 2 ^ (deep + 1) → Chg r H H' → Row K H' r → SqT K H' a (ws t.wds) → Q (.ref a) H'

theorem ok__law_saying {f : Addr} {fd : FuncData} {k : Nat} {n : Nat} (F : Fun K "_law_saying" "_law_saying" s__law_saying f fd) (m_len : mg "len" = none) {a__law_fits : Addr} {fd__law_fits : FuncData} (G__law_fits : FnOk P w K mg base CX0 k a__law_fits fd__law_fits ["_law_size_here", "_law_word"] (spFits K)) (m__law_fits : mg "_law_fits" = some (.ref a__law_fits)) (k__law_fits : PySem.W.keepIn K (.ref a__law_fits) = true) (b__law_fits : Binds K fd__law_fits ["_law_size_here", "_law_word"] []) {a__law_taken : Addr} {fd__law_taken : FuncData} (G__law_taken : FnOk P w K mg base CX0 k a__law_taken fd__law_taken ["_law_row", "_law_many"] (spTaken K)) (m__law_taken : mg "_law_taken" = some (.ref a__law_taken)) (k__law_taken : PySem.W.keepIn K (.ref a__law_taken) = true) (b__law_taken : Binds K fd__law_taken ["_law_row", "_law_many"] []) {a__law_colour : Addr} {fd__law_colour : FuncData} (G__law_colour : FnOk P w K mg base CX0 k a__law_colour fd__law_colour ["_law_row"] (spColour K)) (m__law_colour : mg "_law_colour" = some (.ref a__law_colour)) (k__law_colour : PySem.W.keepIn K (.ref a__law_colour) = true) (b__law_colour : Binds K fd__law_colour ["_law_row"] []) {a__law_part : Addr} {fd__law_part : FuncData} (G__law_part : FnOk P w K mg base CX0 k a__law_part fd__law_part ["_law_size_here", "_law_word"] (spPart K)) (m__law_part : mg "_law_part" = some (.ref a__law_part)) (k__law_part : PySem.W.keepIn K (.ref a__law_part) = true) (b__law_part : Binds K fd__law_part ["_law_size_here", "_law_word"] []) (G__law_saying : FnOk P w K mg base CX0 k f fd ["_law_row", "_law_size_here", "_law_deep"] (spSaying K n)) (m__law_saying : mg "_law_saying" = some (.ref f)) (k__law_saying : PySem.W.keepIn K (.ref f) = true) (b__law_saying : Binds K fd ["_law_row", "_law_size_here", "_law_deep"] []) : FnOk P w K mg base CX0 (k + 1) f fd ["_law_row", "_law_size_here", "_law_deep"] (spSaying K (n + 1)) := by
  refine F.ok sc__law_saying (fun vs H Q E h => ?_) (fun cdv A outer s H vs Q E hr h => ?_)
  · obtain ⟨r, p, w, h, d, rfl, _⟩ := h; rfl
  refine ⟨_, (pss_cons (ps_setLc (i := 3) (own := [("_law_word", 5)]) rfl sc__law_saying.nd rfl rfl (sw_true rfl rfl rfl (by decide +kernel)) (k_iterT K (pe_tup (pa_cons pe_str (pa_cons pe_str (pa_cons pe_str (pa_cons pe_str (pa_cons pe_str (pa_cons pe_str (pa_cons pe_str pa_nil))))))))) (blkOk_by (N := ["_law_row", "_law_size_here", "_law_deep", "_law_some", "_law_way", "_law_word", "_law_part_here"]) (sc := defScope s__law_saying) (by decide +kernel)) (fun _ _ _ _ _ => (pg_name (i := 5) sc__law_saying.nd rfl (.inl rfl))) (fun _ _ _ _ _ => (pts_one (pt_val (pe_call G__law_fits hr (by rfl) m__law_fits k__law_fits b__law_fits .nil pass0 (pa_cons (pv 1) (pa_cons (pv 5) pa_nil)))))) (fun _ _ _ _ _ => (pv 5)))
  (pss_cons (ps_set (i := 4) sc__law_saying.nd rfl (.inl rfl) (pe_call G__law_taken hr (by rfl) m__law_taken k__law_taken b__law_taken .nil pass0 (pa_cons (pv 0) (pa_cons pe_int pa_nil))))
  (pss_cons (ps_if (PW.pt (pw_or (pt_cmpR op_eq (pv 2) pe_int (nomark _)) (pw_or (pt_cmpR (k_eqD K rfl hr.units) (pv 3) (pe_lst pa_nil) (nomark _)) (pw_or1 (pt_cmpR op_lt (pv 4) pe_int (nomark _))))))
    (pss_one (ps_ret (pe_tup (pa_cons (pe_call G__law_colour hr (by rfl) m__law_colour k__law_colour b__law_colour .nil pass0 (pa_cons (pv 0) pa_nil)) pa_nil))))
    pss_nil)
  (pss_cons (ps_set (i := 5) sc__law_saying.nd rfl (.inl rfl) (pe_ix (k_ixL K) (pv 3) (pe_call G__law_taken hr (by rfl) m__law_taken k__law_taken b__law_taken .nil pass0 (pa_cons (pv 0) (pa_cons (pe_callB (k_len K) (by rfl) m_len (by decide +kernel) (pa_cons (pv 3) pa_nil)) pa_nil))) (fun _ _ => rfl)))
  (pss_cons (ps_if (pt_cmpR (k_in K) (pv 5) (pe_tup (pa_cons pe_str (pa_cons pe_str (pa_cons pe_str pa_nil)))) (by rfl))
    (pss_cons (ps_set (i := 6) sc__law_saying.nd rfl (.inl rfl) (pe_call G__law_part hr (by rfl) m__law_part k__law_part b__law_part .nil pass0 (pa_cons (pv 1) (pa_cons (pv 5) pa_nil))))
      (pss_one (ps_ret (pe_op (k_cat K) (pe_op (k_cat K) (pe_tup (pa_cons (pv 5) pa_nil)) (pe_call G__law_saying hr (by rfl) m__law_saying k__law_saying b__law_saying .nil pass0 (pa_cons (pv 0) (pa_cons (pv 6) (pa_cons (pe_op op_sub (pv 2) pe_int) pa_nil))))) (pe_call G__law_saying hr (by rfl) m__law_saying k__law_saying b__law_saying .nil pass0 (pa_cons (pv 0) (pa_cons (pv 6) (pa_cons (pe_op op_sub (pv 2) pe_int) pa_nil))))))))
    pss_nil)
  (pss_one (ps_ret (pe_op (k_cat K) (pe_tup (pa_cons (pv 5) (pa_cons (pe_call G__law_colour hr (by rfl) m__law_colour k__law_colour b__law_colour .nil pass0 (pa_cons (pv 0) pa_nil)) pa_nil))) (pe_call G__law_saying hr (by rfl) m__law_saying k__law_saying b__law_saying .nil pass0 (pa_cons (pv 0) (pa_cons (pv 1) (pa_cons (pe_op op_sub (pv 2) pe_int) pa_nil)))))))))))), ?_⟩
  obtain ⟨r, p, w, h, d, rfl, hd, hn, hR, hp, sw, sh, q⟩ := h
  walk_at "rd"
  rename_i p2 H2 n2 s2 e2
  intro D nD
  refine lc_tup (xs := nws.map fun x => V.str x.s) (Made D fun i acc H' => Same H2 H' ∧ acc = (((nws.take i).filter fun x => x.fits w h).map fun x => V.str x.s)) ?_ ?_ ?_ ?_
  · exact made0 ⟨same_new nD, rfl⟩
  · rintro i H' _ ⟨acc, _, _, sm, _⟩
    exact SqT.of (sm _ _ e2)
  · rintro i v H' hx ⟨acc, eD, la, sm, rfl⟩
    obtain ⟨x, hz, rfl⟩ := get_map hx
    have hi : i < 7 := (List.getElem?_eq_some_iff.mp hz).1
    walk_at "rd"
    refine ⟨rfl, ?_⟩
    walk_at "rd"
    refine ⟨p, x, w, h, rfl, (imm_of_same (s2.trans sm)).sqT hp, sw, sh, fun b H5 eb s5 => ?_⟩
    subst eb
    walk_at "rd"
    have sm5 := sm.trans s5
    cases hb : x.fits w h with
    | true =>
      walk_at "rd"
      refine madeS (s5 _ _ eD) la (by omega) ⟨same_upd sm5 nD, ?_⟩
      rw [take_next hz, List.filter_append, List.map_append]
      simp only [List.filter_cons, List.filter_nil, hb, if_true, List.map_cons, List.map_nil]
    | false =>
      refine ⟨_, s5 _ _ eD, Nat.le_trans la (Nat.le_succ _), sm5, ?_⟩
      rw [take_next hz, List.filter_append]
      simp only [List.filter_cons, List.filter_nil, hb, if_false, List.append_nil, Bool.false_eq_true]
  · rintro H3 ⟨acc, eD, _, s3, rfl⟩
    rw [List.take_of_length_le (by rw [List.length_map]; exact Nat.le_refl _)] at eD
    have hm : ∀ x ∈ nws.filter (fun x => x.fits w h), x.fits w h = true := fun x hx => (List.mem_filter.mp hx).2
    have hl7 : (nws.filter (fun x => x.fits w h)).length ≤ 7 := List.length_filter_le _ nws
    generalize nws.filter (fun x => x.fits w h) = some' at *
    have R3 : Row K H3 r := (hR.same s2).same s3
    have hp3 : SqT K H3 p [.int w, .int h] := (imm_of_same (s2.trans s3)).sqT hp
    have nr : D ≠ r := (hR.same s2).ne nD
    walk_at "rd"
    refine ⟨r, 9, rfl, R3, by decide, by decide, fun k4 H4 k40 k41 c4 R4 => ?_⟩
    have eD4 := c4.2 _ _ nr eD
    have c04 : Chg r H H4 := (chg_of_same (s2.trans s3)).trans c4
    have hp4 := c4.1.sqT hp3
    clear eD R3 hp3 s2 s3 e2 n2
    -- a colour alone
    have one : ∀ H5, Chg r H H5 → Row K H5 r → spColour K [V.ref r] H5 (fun x H6 => NewT Q [x] H6) E0 := fun H5 c5 R5 => by
      refine ⟨r, rfl, R5, fun c H6 c6 R6 => rNewT (Nat.le_of_ble_eq_true rfl) fun a H7 n7 s7 e7 => ?_⟩
      exact q (.col c) a H7 trivial (by show 1 < 2 ^ (d + 1); rw [Nat.pow_succ]; have : 1 ≤ 2 ^ d := Nat.one_le_two_pow; omega) (c5.trans (c6.trans (chg_of_same s7))) (R6.same s7) (SqT.of e7)
    walk_at "rd"
    refine rIte (fun c0 => ?_) (fun c0 => ?_)
    · walk_at "rd"
      exact one _ c04 R4
    · walk_at "rd"
      rename_i pe H5 n5 s5 e5
      have eD5 := s5 _ _ eD4
      refine rEqKws (a := some'.map Nw.k) (b := []) (by rw [← nw_kws]; exact SqL.of eD5) (SqL.of e5) ?_
      have R5 := R4.same s5
      have c05 := c04.trans (chg_of_same s5)
      have hp5 := (imm_of_same s5).sqT hp4
      walk_at "rd"
      refine rIte (fun c1 => ?_) (fun c1 => ?_)
      · walk_at "rd"
        exact one _ c05 R5
      · walk_at "rd"
        refine rIte (fun c2 => ?_) (fun c2 => ?_)
        · walk_at "rd"
          exact one _ c05 R5
        · have l1 : 0 < some'.length := by
            cases some' with
            | nil => exact absurd rfl c1
            | cons a b => exact Nat.succ_pos _
          have d1 : d ≠ 0 := fun e => c0 (by rw [e]; rfl)
          clear c0 c1 c2 one
          walk_at "rd"
          refine rLnL (SqL.of eD5) ?_
          rw [List.length_map]
          walk_at "rd"
          refine ⟨r, some'.length, rfl, R5, by omega, by omega, fun k6 H6 k60 k61 c6 R6 => ?_⟩
          have eD6 := c6.2 _ _ nr eD5
          have c06 := c05.trans c6
          have hp6 := c6.1.sqT hp5
          obtain ⟨v, hv, mv⟩ := atI_lt (xs := some'.map fun x => V.str x.s) k60 (by rw [List.length_map]; exact k61)
          obtain ⟨x, mx, rfl⟩ := List.mem_map.mp mv
          have hf := hm x mx
          refine rIxL_ (SqL.of eD6) hv ?_
          clear eD6 eD5 eD4 hm mx mv hv c6 c4 c05 c04 R5 R4 hp5 hp4 e5 n5 s5
          obtain ⟨d, rfl⟩ : ∃ d', d = d' + 1 := ⟨d - 1, by omega⟩
          rcases x with x | x
          · walk_at "rd"
            refine rT (inV_du x) ?_
            walk_at "rd"
            rename_i p7 H7 n7 s7 e7
            refine ⟨p, x, w, h, rfl, (imm_of_same s7).sqT hp6, fun a8 H8 s8 h8 => ?_⟩
            walk_at "rd"
            rename_i p9 H9 n9 s9 e9
            have sides := side_part hf sw sh
            have h9 := (imm_of_same s9).sqT h8
            have s69 := s7.trans (s8.trans s9)
            have R9 := R6.same s69
            refine ⟨r, a8, x.pw w, x.ph h, d, by rw [show ((d + 1 : Nat) : Int) - 1 = (d : Int) by omega]; rfl, by omega, by omega, R9, h9, sides.1, sides.2, fun t1 b1 H10 ok1 l1 c10 R10 w1 => ?_⟩
            have lt1 := pow512 (n := n) (by omega) (by omega) l1
            have w9 := c10.1.sqT (SqT.of (K := K) e9)
            refine rCat w9 w1 (le_line (by rw [ws_len]; show 1 + _ ≤ _; omega)) fun b2 H11 s11 w11 => ?_
            walk_at "rd"
            have h11 := (imm_of_same s11).sqT (c10.1.sqT h9)
            refine ⟨r, a8, x.pw w, x.ph h, d, by rw [show ((d + 1 : Nat) : Int) - 1 = (d : Int) by omega]; rfl, by omega, by omega, R10.same s11, h11, sides.1, sides.2, fun t2 b3 H12 ok2 l2 c12 R12 w2 => ?_⟩
            have lt2 := pow512 (n := n) (by omega) (by omega) l2
            have w12 := c12.1.sqT w11
            refine rCat w12 w2 (le_line (by rw [List.length_append, ws_len, ws_len]; show 1 + _ + _ ≤ _; omega)) fun b4 H13 s13 w13 => ?_
            refine q (.two x t1 t2) b4 H13 ⟨hf, ok1, ok2⟩ ?_ (c06.trans ((chg_of_same s69).trans (c10.trans ((chg_of_same s11).trans (c12.trans (chg_of_same s13)))))) (R12.same s13) ?_
            · show (x.s :: (t1.wds ++ t2.wds)).length < _
              rw [List.length_cons, List.length_append, Nat.pow_succ]
              omega
            · show SqT K H13 b4 (ws (x.s :: (t1.wds ++ t2.wds)))
              rw [show ws (x.s :: (t1.wds ++ t2.wds)) = [V.str x.s] ++ ws t1.wds ++ ws t2.wds by rw [show x.s :: (t1.wds ++ t2.wds) = [x.s] ++ t1.wds ++ t2.wds from rfl, ws_app, ws_app]; rfl]
              exact w13
          · walk_at "rd"
            refine rF (inV_pi x) ?_
            walk_at "rd"
            rename_i p7 H7 n7 s7 e7
            refine ⟨r, rfl, R6.same s7, fun c H8 c8 R8 => ?_⟩
            walk_at "rd"
            rename_i p9 H9 n9 s9 e9
            have c69 := (chg_of_same s7).trans (c8.trans (chg_of_same s9))
            have R9 := R8.same s9
            refine ⟨r, p, w, h, d, by rw [show ((d + 1 : Nat) : Int) - 1 = (d : Int) by omega]; rfl, by omega, by omega, R9, c69.1.sqT hp6, sw, sh, fun t1 b1 H10 ok1 l1 c10 R10 w1 => ?_⟩
            have lt1 := pow512 (n := n) (by omega) (by omega) l1
            have w9 := c10.1.sqT (SqT.of (K := K) e9)
            refine rCat w9 w1 (le_line (by rw [ws_len]; show 2 + _ ≤ _; omega)) fun b2 H11 s11 w11 => ?_
            refine q (.pc x c t1) b2 H11 ⟨hf, ok1⟩ ?_ (c06.trans (c69.trans (c10.trans (chg_of_same s11)))) (R10.same s11) w11
            show (x.s :: c.s :: t1.wds).length < _
            rw [List.length_cons, List.length_cons, Nat.pow_succ]
            have : 1 ≤ 2 ^ d := Nat.one_le_two_pow
            omega

/-! ### _law_is_own -/
abbrev s__law_is_own : Stmt := topS 36
theorem sc__law_is_own : FnScope ["_law_size_here", "_law_piece", "_law_row", "_law_column", "_law_width", "_law_height"] ["_law_size_here", "_law_piece", "_law_row", "_law_column"] (defScope s__law_is_own) := ⟨rfl, rfl, rfl, by decide +kernel, rfl, by decide +kernel, by decide +kernel⟩
def spOwn (K : PySem.W.Frag) : Sp := fun vs H Q _ => ∃ (p : Addr) (x : Pi) (w h r c : Nat), vs = [.ref p, .str x.s, .int r, .int c] ∧ SqT K H p [.int w, .int h] ∧ Side w ∧ Side h ∧ x.fits w h = true ∧ r < h ∧ c < w ∧
  ∀ (b : Bool) (H' : Hp), b = x.own w h r c → Same H H' → Q (.bl b) H'

theorem ok__law_is_own {f : Addr} {fd : FuncData} {k : Nat} (F : Fun K "_law_is_own" "_law_is_own" s__law_is_own f fd) (m_abs : mg "abs" = none) (m_min : mg "min" = none) : FnOk P w K mg base CX0 (k + 1) f fd ["_law_size_here", "_law_piece", "_law_row", "_law_column"] (spOwn K) := by
  refine F.ok sc__law_is_own (fun vs H Q E h => ?_) (fun cdv A outer s H vs Q E hr h => ?_)
  · obtain ⟨p, x, w, h, r, c, rfl, _⟩ := h; rfl
  refine ⟨_, (pss_cons (ps_asg (pv 0) (k_gtup K 2 rfl (pgs_cons (pg_name (i := 4) sc__law_is_own.nd rfl (.inl rfl)) (pgs_cons (pg_name (i := 5) sc__law_is_own.nd rfl (.inl rfl)) pgs_nil))))
  (pss_cons (ps_if (pt_cmpR op_eq (pv 1) pe_str (nomark _))
    (pss_one (ps_ret (pe_cmpR op_lt (pe_op op_mul pe_int (pe_callB z_abs (by rfl) m_abs (by decide +kernel) (pa_cons (pe_op op_sub (pe_op op_add (pe_op op_mul pe_int (pv 3)) pe_int) (pv 4)) pa_nil))) (pv 4) (nomark _))))
    pss_nil)
  (pss_cons (ps_if (pt_cmpR op_eq (pv 1) pe_str (nomark _))
    (pss_one (ps_ret (pe_cmpR op_lt (pe_op op_mul pe_int (pe_callB z_abs (by rfl) m_abs (by decide +kernel) (pa_cons (pe_op op_sub (pe_op op_add (pe_op op_mul pe_int (pv 2)) pe_int) (pv 5)) pa_nil))) (pv 5) (nomark _))))
    pss_nil)
  (pss_cons (ps_if (pt_cmpR op_eq (pv 1) pe_str (nomark _))
    (pss_one (ps_ret (pe_cmpR op_lt (pe_op op_mul pe_int (pv 2)) (pv 5) (nomark _))))
    pss_nil)
  (pss_one (ps_ret (pe_cmpR op_eq (pe_callB (z_min4 rfl) (by rfl) m_min (by decide +kernel) (pa_cons (pv 2) (pa_cons (pv 3) (pa_cons (pe_op op_sub (pe_op op_sub (pv 5) pe_int) (pv 2)) (pa_cons (pe_op op_sub (pe_op op_sub (pv 4) pe_int) (pv 3)) pa_nil))))) pe_int (nomark _)))))))), ?_⟩
  obtain ⟨p, x, w, h, r, c, rfl, hp, sw, sh, hf, hr', hc', q⟩ := h
  unfold Side at sw sh
  cases x
  · walk_at "rd"
    refine q _ _ ?_ (Same.refl H)
    have f' : 4 ≤ w := of_decide_eq_true hf
    show _ = (decide (w / 4 ≤ c) && decide (c < w - w / 4))
    rw [← Bool.decide_and]
    refine decide_eq_decide.mpr ?_
    omega
  · walk_at "rd"
    refine q _ _ ?_ (Same.refl H)
    have f' : 4 ≤ h := of_decide_eq_true hf
    show _ = (decide (h / 4 ≤ r) && decide (r < h - h / 4))
    rw [← Bool.decide_and]
    refine decide_eq_decide.mpr ?_
    omega
  · walk_at "rd"
    refine q _ _ ?_ (Same.refl H)
    have f' : 4 ≤ h := of_decide_eq_true hf
    unfold Pi.own
    refine decide_eq_decide.mpr ?_
    omega
  · walk_at "rd"
    rename_i m m0 m1 m2 m3 m4
    refine q _ _ ?_ (Same.refl H)
    unfold Pi.own
    have e : (V.int m = V.int 0) ↔ (r = 0 ∨ r = h - 1 ∨ c = 0 ∨ c = w - 1) := by
      constructor
      · intro e
        have e := V.int.inj e
        omega
      · intro e
        refine congrArg V.int ?_
        omega
    have e' : decide (V.int m = V.int 0) = decide (r = 0 ∨ r = h - 1 ∨ c = 0 ∨ c = w - 1) := decide_eq_decide.mpr e
    rw [e']
    by_cases e1 : r = 0 <;> by_cases e2 : r = h - 1 <;> by_cases e3 : c = 0 <;> by_cases e4 : c = w - 1 <;> simp [e1, e2, e3, e4]

/-! ### _law_behind -/
abbrev s__law_behind : Stmt := topS 35
theorem sc__law_behind : FnScope ["_law_words", "_law_at", "_law_left", "_law_word"] ["_law_words", "_law_at"] (defScope s__law_behind) := ⟨rfl, rfl, rfl, by decide +kernel, rfl, by decide +kernel, by decide +kernel⟩
def forest : List Tr → List Str
  | [] => []
  | t :: ts => t.wds ++ forest ts
theorem forest_pos : ∀ ts : List Tr, ts.length ≤ (forest ts).length
  | [] => Nat.le_refl _
  | t :: ts => by
    have := wds_pos t
    have := forest_pos ts
    simp only [forest, List.length_cons, List.length_append]
    omega
def Tr.hd : Tr → Str
  | .col c => c.s | .two d _ _ => d.s | .pc p _ _ => p.s
theorem seen_at {F l r : List Str} {n : Nat} {x : Str} (hs : Seen F l) (h : F.drop n = x :: r) : l.getD n "white" = x := by
  have e : F[n]? = some x := by
    have := congrArg (fun z => z[0]?) h
    simpa [List.getElem?_drop] using this
  rw [show (("white" : Str)) = Co.white.s from rfl, hs n, List.getD_eq_getElem?_getD, e]
  rfl
theorem drop_more {F r : List Str} {n : Nat} {x : Str} (h : F.drop n = x :: r) : F.drop (n + 1) = r := by
  rw [← List.drop_drop, h]; rfl
def spBehind (K : PySem.W.Frag) : Sp := fun vs H Q _ => ∃ (p : Addr) (F l pre post : List Str) (t : Tr), vs = [.ref p, .int (pre.length : Nat)] ∧ SqT K H p (ws l) ∧ l.length ≤ 100000 ∧ Seen F l ∧ F = pre ++ t.wds ++ post ∧
  ∀ H', Same H H' → Q (.int ((pre.length + t.wds.length : Nat) : Int)) H'

theorem ok__law_behind {f : Addr} {fd : FuncData} {k : Nat} (F : Fun K "_law_behind" "_law_behind" s__law_behind f fd) (m_int : mg "int" = none) : FnOk P w K mg base CX0 (k + 1) f fd ["_law_words", "_law_at"] (spBehind K) := by
  refine F.ok sc__law_behind (fun vs H Q E h => ?_) (fun cdv A outer s H vs Q E hr h => ?_)
  · obtain ⟨p, F, l, pre, post, t, rfl, _⟩ := h; rfl
  refine ⟨_, (pss_cons (ps_set (i := 2) sc__law_behind.nd rfl (.inl rfl) pe_int)
  (pss_cons (ps_while PassesOwn.never (pt_cmpR op_gt (pv 2) pe_int (nomark _))
    (pss_cons (ps_set (i := 3) sc__law_behind.nd rfl (.inl rfl) (pe_ix (k_ixT K) (pe_op (k_cat K) (pe_slice (k_slT K) (pv 0) (po_some (pv 1)) (po_some (pe_op op_add (pv 1) pe_int))) (pe_tup (pa_cons pe_str pa_nil))) pe_int (fun _ _ => rfl)))
      (pss_cons (ps_set (i := 1) sc__law_behind.nd rfl (.inl rfl) (pe_op op_add (pe_op op_add (pv 1) pe_int) (pe_callTy z_int (by rfl) m_int (by decide +kernel) (pa_cons (pe_cmpR (k_in K) (pv 3) (pe_tup (pa_cons pe_str (pa_cons pe_str (pa_cons pe_str (pa_cons pe_str pa_nil))))) (by rfl)) pa_nil))))
      (pss_cons (ps_set (i := 2) sc__law_behind.nd rfl (.inl rfl) (pe_op op_add (pe_op op_sub (pv 2) pe_int) (pe_callTy z_int (by rfl) m_int (by decide +kernel) (pa_cons (pe_cmpR (k_in K) (pv 3) (pe_tup (pa_cons pe_str (pa_cons pe_str (pa_cons pe_str (pa_cons pe_str pa_nil))))) (by rfl)) pa_nil))))
      (pss_one (ps_set (i := 2) sc__law_behind.nd rfl (.inl rfl) (pe_op op_add (pv 2) (pe_op op_mul pe_int (pe_callTy z_int (by rfl) m_int (by decide +kernel) (pa_cons (pe_cmpR (k_in K) (pv 3) (pe_tup (pa_cons pe_str (pa_cons pe_str (pa_cons pe_str pa_nil)))) (by rfl)) pa_nil))))))))))
  (pss_one (ps_ret (pv 1))))), ?_⟩
  obtain ⟨p, F, l, pre, post, t, rfl, hp, hl, hs, hF, q⟩ := h
  walk_at "rd"
  refine rWhile (fun n σ' H' => ∃ (ts : List Tr) (at_ : Nat) (rest : Option V), σ' = [some (.ref p), some (.int (at_ : Nat)), some (.int (ts.length : Nat)), rest] ∧ Same H H' ∧ n = (forest ts).length ∧
    F.drop at_ = forest ts ++ post ∧ at_ + (forest ts).length = pre.length + t.wds.length) ⟨_, [t], pre.length, none, rfl, Same.refl H, rfl, ?_, ?_⟩ ?_
  · rw [hF, List.append_assoc, List.drop_left]
    simp [forest]
  · simp [forest]
  rintro n _ H1 ⟨ts, at_, rest, rfl, s1, rfl, hd, ha⟩
  walk_at "rd"
  refine rIte (fun c => ?_) (fun c => ?_)
  · refine ⟨_, fun _ _ h => h, ?_⟩
    walk_at "rd"
    rename_i p2 H2 s2 h2 p3 H3 n3 s3 e3
    rw [cut_one] at h2
    refine rCat ((imm_of_same s3).sqT h2) (SqT.of e3) (le_line ?_) fun p4 H4 s4 h4 => ?_
    · simp only [List.length_take, List.length_drop, List.length_cons, List.length_nil]
      omega
    walk_at "rd"
    refine rIxT_ h4 (atI_nat (j := 0) (one_or l at_ "white")) ?_
    have s14 := s1.trans (s2.trans (s3.trans s4))
    clear h4 e3 h2 s4 s3 s2 s1 n3
    cases ts with
    | nil => exact absurd c (by decide)
    | cons t0 ts =>
    have hw : l.getD at_ "white" = t0.hd := by
      cases t0 <;> exact seen_at hs hd
    rw [hw]
    clear hw
    walk_at "rd"
    rename_i p5 H5 n5 s5 e5 p6 H6 n6 s6 e6 p7 H7 n7 s7 e7
    have sA := s14.trans (s5.trans (s6.trans s7))
    cases t0 with
    | col c0 =>
      have hd' : F.drop at_ = c0.s :: (forest ts ++ post) := hd
      refine ⟨(forest ts).length, by simp [forest, Tr.wds], ts, at_ + 1, some (.str c0.s), ?_, sA, rfl, drop_more hd', ?_⟩
      · simp only [Tr.hd, inV_pcs_co, inV_du_co, List.length_cons]
        simp [List.set, L2.start]
      · simp only [forest, Tr.wds, List.length_append, List.length_cons, List.length_nil] at ha
        omega
    | two d a b =>
      have hd' : F.drop at_ = d.s :: (a.wds ++ b.wds ++ forest ts ++ post) := by rw [hd]; simp [forest, Tr.wds]
      refine ⟨(forest (a :: b :: ts)).length, by simp [forest, Tr.wds], a :: b :: ts, at_ + 1, some (.str d.s), ?_, sA, rfl, ?_, ?_⟩
      · simp only [Tr.hd, inV_pcs_du, inV_du, List.length_cons]
        simp [List.set, L2.start]
        omega
      · rw [drop_more hd']; simp [forest]
      · simp only [forest, Tr.wds, List.length_append, List.length_cons, List.length_nil] at ha ⊢
        omega
    | pc x c0 b =>
      have hd' : F.drop at_ = x.s :: (c0.s :: (b.wds ++ forest ts ++ post)) := by rw [hd]; simp [forest, Tr.wds]
      refine ⟨(forest (b :: ts)).length, by simp [forest, Tr.wds]; omega, b :: ts, at_ + 1 + 1, some (.str x.s), ?_, sA, rfl, ?_, ?_⟩
      · simp only [Tr.hd, inV_pcs, inV_pi, List.length_cons]
        simp [List.set, L2.start]
      · rw [drop_more (drop_more hd')]; simp [forest]
      · simp only [forest, Tr.wds, List.length_append, List.length_cons, List.length_nil] at ha ⊢
        omega
  · cases ts with
    | cons t ts => exact absurd (by show (0 : Int) < ((ts.length + 1 : Nat) : Int); omega) c
    | nil =>
      walk_at "rd"
      have e : at_ = pre.length + t.wds.length := by simpa [forest] using ha
      rw [e]
      exact q H1 s1

/-! ### _law_cell -/
abbrev s__law_cell : Stmt := topS 37
theorem sc__law_cell : FnScope ["_law_words", "_law_at", "_law_size_here", "_law_row", "_law_column", "_law_word", "_law_part_here", "_law_right", "_law_low"] ["_law_words", "_law_at", "_law_size_here", "_law_row", "_law_column"] (defScope s__law_cell) := ⟨rfl, rfl, rfl, by decide +kernel, rfl, by decide +kernel, by decide +kernel⟩
def spCell (K : PySem.W.Frag) : Sp := fun vs H Q _ => ∃ (p ps : Addr) (F l pre post : List Str) (t : Tr) (w h r c : Nat), vs = [.ref p, .int (pre.length : Nat), .ref ps, .int r, .int c] ∧ SqT K H p (ws l) ∧ l.length ≤ 100000 ∧ Seen F l ∧ F = pre ++ t.wds ++ post ∧
  SqT K H ps [.int w, .int h] ∧ Side w ∧ Side h ∧ t.ok w h ∧ r < h ∧ c < w ∧ ∀ H', Same H H' → Q (.str (t.cell w h r c).s) H'

theorem ok__law_cell {f : Addr} {fd : FuncData} {k : Nat} (F : Fun K "_law_cell" "_law_cell" s__law_cell f fd) {a__law_is_own : Addr} {fd__law_is_own : FuncData} (G__law_is_own : FnOk P w K mg base CX0 k a__law_is_own fd__law_is_own ["_law_size_here", "_law_piece", "_law_row", "_law_column"] (spOwn K)) (m__law_is_own : mg "_law_is_own" = some (.ref a__law_is_own)) (k__law_is_own : PySem.W.keepIn K (.ref a__law_is_own) = true) (b__law_is_own : Binds K fd__law_is_own ["_law_size_here", "_law_piece", "_law_row", "_law_column"] []) {a__law_part : Addr} {fd__law_part : FuncData} (G__law_part : FnOk P w K mg base CX0 k a__law_part fd__law_part ["_law_size_here", "_law_word"] (spPart K)) (m__law_part : mg "_law_part" = some (.ref a__law_part)) (k__law_part : PySem.W.keepIn K (.ref a__law_part) = true) (b__law_part : Binds K fd__law_part ["_law_size_here", "_law_word"] []) {a__law_behind : Addr} {fd__law_behind : FuncData} (G__law_behind : FnOk P w K mg base CX0 k a__law_behind fd__law_behind ["_law_words", "_law_at"] (spBehind K)) (m__law_behind : mg "_law_behind" = some (.ref a__law_behind)) (k__law_behind : PySem.W.keepIn K (.ref a__law_behind) = true) (b__law_behind : Binds K fd__law_behind ["_law_words", "_law_at"] []) : FnOk P w K mg base CX0 (k + 1) f fd ["_law_words", "_law_at", "_law_size_here", "_law_row", "_law_column"] (spCell K) := by
  refine F.ok sc__law_cell (fun vs H Q E h => ?_) (fun cdv A outer s H vs Q E hr h => ?_)
  · obtain ⟨p, ps, F, l, pre, post, t, w, h, r, c, rfl, _⟩ := h; rfl
  refine ⟨_, (pss_one (ps_while PassesOwn.never (pt_val pe_bl)
    (pss_cons (ps_set (i := 5) sc__law_cell.nd rfl (.inl rfl) (pe_ix (k_ixT K) (pe_op (k_cat K) (pe_slice (k_slT K) (pv 0) (po_some (pv 1)) (po_some (pe_op op_add (pv 1) pe_int))) (pe_tup (pa_cons pe_str pa_nil))) pe_int (fun _ _ => rfl)))
      (pss_one (ps_if (pt_cmpR (k_in K) (pv 5) (pe_tup (pa_cons pe_str (pa_cons pe_str (pa_cons pe_str (pa_cons pe_str pa_nil))))) (by rfl))
        (pss_cons (ps_if (pt_val (pe_call G__law_is_own hr (by rfl) m__law_is_own k__law_is_own b__law_is_own .nil pass0 (pa_cons (pv 2) (pa_cons (pv 5) (pa_cons (pv 3) (pa_cons (pv 4) pa_nil))))))
            (pss_one (ps_ret (pe_ix (k_ixT K) (pe_op (k_cat K) (pe_slice (k_slT K) (pv 0) (po_some (pe_op op_add (pv 1) pe_int)) (po_some (pe_op op_add (pv 1) pe_int))) (pe_tup (pa_cons pe_str pa_nil))) pe_int (fun _ _ => rfl))))
            pss_nil)
          (pss_one (ps_set (i := 1) sc__law_cell.nd rfl (.inl rfl) (pe_op op_add (pv 1) pe_int))))
        (pss_one (ps_if (pt_cmpR (k_in K) (pv 5) (pe_tup (pa_cons pe_str (pa_cons pe_str (pa_cons pe_str pa_nil)))) (by rfl))
            (pss_cons (ps_set (i := 6) sc__law_cell.nd rfl (.inl rfl) (pe_call G__law_part hr (by rfl) m__law_part k__law_part b__law_part .nil pass0 (pa_cons (pv 2) (pa_cons (pv 5) pa_nil))))
              (pss_cons (ps_set (i := 7) sc__law_cell.nd rfl (.inl rfl) (pe_op op_fdiv (pv 4) (pe_ix (k_ixT K) (pv 6) pe_int (fun _ _ => rfl))))
              (pss_cons (ps_set (i := 8) sc__law_cell.nd rfl (.inl rfl) (pe_op op_fdiv (pv 3) (pe_ix (k_ixT K) (pv 6) pe_int (fun _ _ => rfl))))
              (pss_cons (ps_set (i := 1) sc__law_cell.nd rfl (.inl rfl) (pe_ix (k_ixL K) (pe_lst (pa_cons (pe_op op_add (pv 1) pe_int) (pa_cons (pe_call G__law_behind hr (by rfl) m__law_behind k__law_behind b__law_behind .nil pass0 (pa_cons (pv 0) (pa_cons (pe_op op_add (pv 1) pe_int) pa_nil))) pa_nil))) (pe_op op_mod (pe_op op_add (pv 7) (pv 8)) pe_int) (fun _ _ => rfl)))
              (pss_cons (ps_set (i := 2) sc__law_cell.nd rfl (.inl rfl) (pv 6))
              (pss_cons (ps_set (i := 3) sc__law_cell.nd rfl (.inl rfl) (pe_op op_mod (pv 3) (pe_ix (k_ixT K) (pv 6) pe_int (fun _ _ => rfl))))
              (pss_one (ps_set (i := 4) sc__law_cell.nd rfl (.inl rfl) (pe_op op_mod (pv 4) (pe_ix (k_ixT K) (pv 6) pe_int (fun _ _ => rfl)))))))))))
            (pss_one (ps_ret (pv 5)))))))))), ?_⟩
  obtain ⟨p, ps, F, l, pre, post, t, w, h, r, c, rfl, hp, hl, hs, hF, hps, sw, sh, ok, hr0, hc0, q⟩ := h
  walk_at "rd"
  refine rWhile (fun n σ' H' => ∃ (p' : Addr) (pre' post' : List Str) (t' : Tr) (w' h' r' c' : Nat) (o1 o2 o3 o4 : Option V), σ' = [some (.ref p), some (.int (pre'.length : Nat)), some (.ref p'), some (.int (r' : Nat)), some (.int (c' : Nat)), o1, o2, o3, o4] ∧ Same H H' ∧
    SqT K H' p' [.int w', .int h'] ∧ F = pre' ++ t'.wds ++ post' ∧ t'.ok w' h' ∧ Side w' ∧ Side h' ∧ r' < h' ∧ c' < w' ∧ t'.cell w' h' r' c' = t.cell w h r c ∧ n = t'.wds.length) ⟨_, ps, pre, post, t, w, h, r, c, none, none, none, none, rfl, Same.refl H, hps, hF, ok, sw, sh, hr0, hc0, rfl, rfl⟩ ?_
  rintro n _ H1 ⟨p', pre, post, t', w', h', r', c', o1, o2, o3, o4, rfl, s1, hp', hF, ok, sw, sh, hr0, hc0, eqc, rfl⟩
  walk_at "rd"
  refine ⟨_, fun _ _ h => h, ?_⟩
  have hd : F.drop pre.length = t'.wds ++ post := by rw [hF, List.append_assoc, List.drop_left]
  walk_at "rd"
  rename_i p2 H2 s2 h2 p3 H3 n3 s3 e3
  rw [cut_one] at h2
  refine rCat ((imm_of_same s3).sqT h2) (SqT.of e3) (le_line ?_) fun p4 H4 s4 h4 => ?_
  · simp only [List.length_take, List.length_drop, List.length_cons, List.length_nil]
    omega
  walk_at "rd"
  refine rIxT_ h4 (atI_nat (j := 0) (one_or l pre.length "white")) ?_
  have s14 := s1.trans (s2.trans (s3.trans s4))
  have hp4 := (imm_of_same (s2.trans (s3.trans s4))).sqT hp'
  have hl4 := (imm_of_same s14).sqT hp
  clear h4 e3 h2 s4 s3 s2 s1 n3 hp'
  have hw : l.getD pre.length "white" = t'.hd := by
    cases t' <;> exact seen_at hs hd
  rw [hw]
  clear hw
  walk_at "rd"
  rename_i p5 H5 n5 s5 e5
  have hp5 := (imm_of_same s5).sqT hp4
  have hl5 := (imm_of_same s5).sqT hl4
  have s15 := s14.trans s5
  clear s5 e5 n5 hp4 hl4 s14
  cases t' with
  | col c0 =>
    refine rF (inV_pcs_co c0) ?_
    walk_at "rd"
    rename_i p6 H6 n6 s6 e6
    refine rF (inV_du_co c0) ?_
    walk_at "rd"
    have := q H6 (s15.trans s6)
    rw [← eqc] at this
    exact this
  | pc x c0 b =>
    refine rT (inV_pcs x) ?_
    walk_at "rd"
    refine ⟨p', x, w', h', r', c', rfl, hp5, sw, sh, ok.1, hr0, hc0, fun bo H6 eb s6 => ?_⟩
    walk_at "rd"
    have hd' : F.drop pre.length = x.s :: (c0.s :: (b.wds ++ post)) := by rw [hd]; simp [Tr.wds]
    cases hb : x.own w' h' r' c' with
    | true =>
      rw [hb] at eb
      subst eb
      walk_at "rd"
      rename_i p7 H7 s7 h7 p8 H8 n8 s8 e8
      rw [show ((pre.length : Int) + 1) = ((pre.length + 1 : Nat) : Int) from rfl, show ((pre.length : Int) + 2) = ((pre.length + 1 : Nat) : Int) + 1 by omega, cut_one] at h7
      refine rCat ((imm_of_same s8).sqT h7) (SqT.of e8) (le_line ?_) fun p9 H9 s9 h9 => ?_
      · simp only [List.length_take, List.length_drop, List.length_cons, List.length_nil]
        omega
      walk_at "rd"
      refine rIxT_ h9 (atI_nat (j := 0) (one_or l (pre.length + 1) "white")) ?_
      rw [seen_at hs (drop_more hd')]
      have := q H9 (s15.trans (s6.trans (s7.trans (s8.trans s9))))
      rw [← eqc] at this
      simp only [Tr.cell, hb, if_true] at this
      exact this
    | false =>
      rw [hb] at eb
      subst eb
      walk_at "rd"
      refine ⟨b.wds.length, by simp [Tr.wds]; omega, p', pre ++ [x.s, c0.s], post, b, w', h', r', c', some (.str x.s), o2, o3, o4, ?_, s15.trans s6, (imm_of_same s6).sqT hp5, by rw [hF]; simp [Tr.wds], ok.2, sw, sh, hr0, hc0, ?_, rfl⟩
      · simp [List.set, Tr.hd]
      · rw [← eqc]
        simp only [Tr.cell, hb, if_false, Bool.false_eq_true]
  | two d a b =>
    refine rF (inV_pcs_du d) ?_
    walk_at "rd"
    rename_i p6 H6 n6 s6 e6
    refine rT (inV_du d) ?_
    have hp6 := (imm_of_same s6).sqT hp5
    have hl6 := (imm_of_same s6).sqT hl5
    have s16 := s15.trans s6
    clear s6 e6 n6 hp5 hl5 s15
    walk_at "rd"
    refine ⟨p', d, w', h', rfl, hp6, fun p7 H7 s7 h7 => ?_⟩
    have sides := side_part ok.1 sw sh
    have hq1 := side_le sides.1
    have hq2 := side_le sides.2
    walk_at "rd"
    refine ⟨p, F, l, pre ++ [d.s], b.wds ++ post, a, by simp, (imm_of_same s7).sqT hl6, hl, hs, by rw [hF]; simp [Tr.wds], fun H8 s8 => ?_⟩
    walk_at "rd"
    rename_i p9 H9 n9 s9 e9
    have ek : (((c' : Int) / (d.pw w' : Nat) + (r' : Int) / (d.ph h' : Nat)) % 2 : Int) = (((c' / d.pw w' + r' / d.ph h') % 2 : Nat) : Int) := by push_cast; rfl
    rw [ek]
    have h9 := (imm_of_same (s8.trans s9)).sqT h7
    have s69 := s16.trans (s7.trans (s8.trans s9))
    have hr2 : r' % d.ph h' < d.ph h' := Nat.mod_lt _ (by omega)
    have hc2 : c' % d.pw w' < d.pw w' := Nat.mod_lt _ (by omega)
    have par : (c' / d.pw w' + r' / d.ph h') % 2 = 0 ∨ (c' / d.pw w' + r' / d.ph h') % 2 = 1 := by omega
    rcases par with e0 | e1
    · rw [e0]
      refine rIxL_ (SqL.of e9) (atI_nat (j := 0) rfl) ?_
      walk_at "rd"
      refine ⟨a.wds.length, by simp [Tr.wds]; omega, p7, pre ++ [d.s], b.wds ++ post, a, d.pw w', d.ph h', r' % d.ph h', c' % d.pw w', some (.str d.s), some (.ref p7), some (.int ((c' / d.pw w' : Nat) : Int)), some (.int ((r' / d.ph h' : Nat) : Int)), ?_, s69, h9, by rw [hF]; simp [Tr.wds], ok.2.1, sides.1, sides.2, hr2, hc2, ?_, rfl⟩
      · simp [List.set, Tr.hd]
      · rw [← eqc]
        simp only [Tr.cell, e0, if_true]
    · rw [e1]
      refine rIxL_ (SqL.of e9) (atI_nat (j := 1) rfl) ?_
      walk_at "rd"
      refine ⟨b.wds.length, by simp [Tr.wds]; omega, p7, pre ++ [d.s] ++ a.wds, post, b, d.pw w', d.ph h', r' % d.ph h', c' % d.pw w', some (.str d.s), some (.ref p7), some (.int ((c' / d.pw w' : Nat) : Int)), some (.int ((r' / d.ph h' : Nat) : Int)), ?_, s69, h9, by rw [hF]; simp [Tr.wds], ok.2.2, sides.1, sides.2, hr2, hc2, ?_, rfl⟩
      · simp [List.set, Tr.hd]
        omega
      · rw [← eqc]
        simp only [Tr.cell, e1]
        rw [if_neg (by decide)]

/-! ### _law_drawing -/
abbrev s__law_drawing : Stmt := topS 38
theorem sc__law_drawing : FnScope ["_law_words", "_law_size_here", "_law_rows", "_law_row", "_law_column"] ["_law_words", "_law_size_here"] (defScope s__law_drawing) := ⟨rfl, rfl, rfl, by decide +kernel, rfl, by decide +kernel, by decide +kernel⟩
def spDrawing (K : PySem.W.Frag) : Sp := fun vs H Q _ => ∃ (p ps : Addr) (l : List Str) (t : Tr) (w h : Nat), vs = [.ref p, .ref ps] ∧ SqT K H p (ws l) ∧ l.length ≤ 100000 ∧ Seen t.wds l ∧
  SqT K H ps [.int w, .int h] ∧ Side w ∧ Side h ∧ t.ok w h ∧ ∀ (a : Addr) (H' : Hp), Same H H' → Drw K H' a (grid w h (t.cell w h)) → Q (.ref a) H'

theorem ok__law_drawing {f : Addr} {fd : FuncData} {k : Nat} (F : Fun K "_law_drawing" "_law_drawing" s__law_drawing f fd) (m_range : mg "range" = none) (m_tuple : mg "tuple" = none) {a__law_cell : Addr} {fd__law_cell : FuncData} (G__law_cell : FnOk P w K mg base CX0 k a__law_cell fd__law_cell ["_law_words", "_law_at", "_law_size_here", "_law_row", "_law_column"] (spCell K)) (m__law_cell : mg "_law_cell" = some (.ref a__law_cell)) (k__law_cell : PySem.W.keepIn K (.ref a__law_cell) = true) (b__law_cell : Binds K fd__law_cell ["_law_words", "_law_at", "_law_size_here", "_law_row", "_law_column"] []) : FnOk P w K mg base CX0 (k + 1) f fd ["_law_words", "_law_size_here"] (spDrawing K) := by
  refine F.ok sc__law_drawing (fun vs H Q E h => ?_) (fun cdv A outer s H vs Q E hr h => ?_)
  · obtain ⟨p, ps, l, t, w, h, rfl, _⟩ := h; rfl
  refine ⟨_, (pss_cons (ps_set (i := 2) sc__law_drawing.nd rfl (.inl rfl) (pe_lst pa_nil))
  (pss_cons (ps_for PassesOwn.never rfl (pi_range1 rfl m_range (pa_cons (pe_ix (k_ixT K) (pv 1) pe_int (fun _ _ => rfl)) pa_nil)) (pg_name (i := 3) sc__law_drawing.nd rfl (.inr rfl))
    (pss_one (ps_expr (k_bm K PySem.F.plainAttrs_list PySem.F.slot_list_append PySem.F.type_list_append mt_append (pv 2) (pa_cons (pe_callTy (k_tuple K) (by rfl) m_tuple (by decide +kernel) (pa_cons (pe_lc (own := [("_law_column", 4)]) rfl sc__law_drawing.nd (pi_range1 rfl m_range (pa_cons (pe_ix (k_ixT K) (pv 1) pe_int (fun _ _ => rfl)) pa_nil)) (blkOk_by (N := ["_law_words", "_law_size_here", "_law_rows", "_law_row", "_law_column"]) (sc := defScope s__law_drawing) (by decide +kernel)) (fun _ _ _ _ _ => (pg_name (i := 4) sc__law_drawing.nd rfl (.inl rfl))) (fun _ _ _ _ _ => pts_nil) (fun _ _ _ _ _ => (pe_call G__law_cell hr (by rfl) m__law_cell k__law_cell b__law_cell .nil pass0 (pa_cons (pv 0) (pa_cons pe_int (pa_cons (pv 1) (pa_cons (pv 3) (pa_cons (pv 4) pa_nil)))))))) pa_nil)) pa_nil)))))
  (pss_one (ps_ret (pe_callTy (k_tuple K) (by rfl) m_tuple (by decide +kernel) (pa_cons (pv 2) pa_nil)))))), ?_⟩
  obtain ⟨p, ps, l, t, w, h, rfl, hp, hl, hs, hps, sw, sh, ok, q⟩ := h
  have hw8 := side_le sw
  have hh8 := side_le sh
  walk_at "rd"
  rename_i D H1 nD s1 e1
  refine for_range (lo := 0) (n := h) (fun i σ' H' => ∃ (as : List Addr) (o3 o4 : Option V), σ' = [some (.ref p), some (.ref ps), some (.ref D), o3, o4] ∧ Same H H' ∧ H' D = some (.lst (as.map V.ref)) ∧
    Paired (fun a row => SqT K H' a (cs row)) as ((List.range i).map fun r => (List.range w).map fun c => t.cell w h r c)) ⟨[], none, none, rfl, s1, e1, .nil⟩ ?_ ?_
  · rintro i _ H2 hi ⟨as, o3, o4, rfl, s2, e2, pr⟩
    have hps2 := (imm_of_same s2).sqT hps
    have hp2 := (imm_of_same s2).sqT hp
    have las : as.length = i := by rw [paired_len pr, List.length_map, List.length_range]
    walk_at "rd"
    intro C nC
    refine lc_range (lo := 0) (n := w) (Made C fun j acc H' => Same H2 H' ∧ acc = cs ((List.range j).map fun c => t.cell w h i c)) ?_ ?_ ?_
    · exact made0 ⟨same_new nC, rfl⟩
    · rintro j H3 hj ⟨acc, eC, la, s3, rfl⟩
      walk_at "rd"
      refine ⟨rfl, ?_⟩
      walk_at "rd"
      refine ⟨p, ps, t.wds, l, [], [], t, w, h, i, j, by simp, (imm_of_same s3).sqT hp2, hl, hs, by simp, (imm_of_same s3).sqT hps2, sw, sh, ok, hi, hj, fun H4 s4 => ?_⟩
      walk_at "rd"
      refine madeS (s4 _ _ eC) la (by omega) ⟨same_upd (s3.trans s4) nC, ?_⟩
      rw [range_snoc]
      unfold cs
      rw [List.map_append]
      rfl
    · rintro H3 ⟨acc, eC, la, s3, rfl⟩
      walk_at "rd"
      rename_i a H4 na s4 e4
      have e24 := s4 _ _ (s3 _ _ e2)
      refine rAppend_ e24 (lt_line (by rw [List.length_map]; omega)) fun H5 c5 e5 => ?_
      have s5 : Same H H5 := same_chg (s2.trans (s3.trans s4)) c5 nD
      refine ⟨as ++ [a], _, _, rfl, s5, by rw [List.map_append]; exact e5, ?_⟩
      rw [range_snoc]
      exact paired_snoc (F := fun a row => SqT K H5 a (cs row)) (c5.1.sqT (SqT.of e4)) (Paired.mapP (F := fun a row => SqT K H2 a (cs row)) pr fun x y z => c5.1.sqT ((imm_of_same (s3.trans s4)).sqT z))
  · rintro _ H2 ⟨as, o3, o4, rfl, s2, e2, pr⟩
    walk_at "rd"
    rename_i a H3 na s3 e3
    exact q a H3 (s2.trans s3) ⟨as, SqT.of e3, Paired.mapP pr fun x y z => (imm_of_same s3).sqT z⟩

/-! ### need_size -/
abbrev s_need_size : Stmt := topS 8
theorem sc_need_size : FnScope ["size", "width", "height"] ["size"] (defScope s_need_size) := ⟨rfl, rfl, rfl, by decide +kernel, rfl, by decide +kernel, by decide +kernel⟩
def spNeed (K : PySem.W.Frag) : Sp := fun vs H Q _ => ∃ (p : Addr) (w h : Nat), vs = [.ref p] ∧ SqT K H p [.int w, .int h] ∧ Side w ∧ Side h ∧ Q .non H

theorem ok_need_size {f : Addr} {fd : FuncData} {k : Nat} (F : Fun K "need_size" "need_size" s_need_size f fd) {a_SIDES : Addr} (m_SIDES : mg "SIDES" = some (.ref a_SIDES)) (t_SIDES : KT K a_SIDES [.int 1, .int 2, .int 4, .int 8]) : FnOk P w K mg base CX0 (k + 1) f fd ["size"] (spNeed K) := by
  refine F.ok sc_need_size (fun vs H Q E h => ?_) (fun cdv A outer s H vs Q E hr h => ?_)
  · obtain ⟨p, w, h, rfl, _⟩ := h; rfl
  refine ⟨_, (pss_cons (ps_asg (pv 0) (k_gtup K 2 rfl (pgs_cons (pg_name (i := 1) sc_need_size.nd rfl (.inl rfl)) (pgs_cons (pg_name (i := 2) sc_need_size.nd rfl (.inl rfl)) pgs_nil))))
  (pss_one (ps_if (PW.pt (pw_or (pt_cmpR (k_notIn K) (pv 1) (pe_glob (v := .ref a_SIDES) rfl m_SIDES rfl) (by rfl)) (pw_or1 (pt_cmpR (k_notIn K) (pv 2) (pe_glob (v := .ref a_SIDES) rfl m_SIDES rfl) (by rfl)))))
    (pss_one ps_never)
    pss_nil))), ?_⟩
  obtain ⟨p, w, h, rfl, hp, sw, sh, q⟩ := h
  walk_at "rd"
  rw [side_in sw]
  walk_at "rd"
  rw [side_in sh]
  walk_at "rd"
  exact q

/-! ### can_stand -/
abbrev s_can_stand : Stmt := topS 15
theorem sc_can_stand : FnScope ["size", "word", "width", "height"] ["size", "word"] (defScope s_can_stand) := ⟨rfl, rfl, rfl, by decide +kernel, rfl, by decide +kernel, by decide +kernel⟩
def spCan (K : PySem.W.Frag) : Sp := fun vs H Q _ => ∃ (p : Addr) (x : Kw) (w h : Nat), vs = [.ref p, .str x.s] ∧ SqT K H p [.int w, .int h] ∧ 1 ≤ w ∧ 1 ≤ h ∧ ∀ b, b = x.fits w h → Q (.bl b) H

theorem ok_can_stand {f : Addr} {fd : FuncData} {k : Nat} (F : Fun K "can_stand" "can_stand" s_can_stand f fd) {a_COLOURS : Addr} (m_COLOURS : mg "COLOURS" = some (.ref a_COLOURS)) (t_COLOURS : KT K a_COLOURS [.str "white", .str "yellow", .str "black", .str "blue", .str "green", .str "red"]) {a_LEAST : Addr} (m_LEAST : mg "LEAST" = some (.ref a_LEAST)) (t_LEAST : LeastK K w a_LEAST) : FnOk P w K mg base CX0 (k + 1) f fd ["size", "word"] (spCan K) := by
  refine F.ok sc_can_stand (fun vs H Q E h => ?_) (fun cdv A outer s H vs Q E hr h => ?_)
  · obtain ⟨p, x, w, h, rfl, _⟩ := h; rfl
  obtain ⟨esL, nL, DL⟩ := t_LEAST.dict
  refine ⟨_, (pss_cons (ps_if (pt_cmpR (k_in K) (pv 1) (pe_glob (v := .ref a_COLOURS) rfl m_COLOURS rfl) (by rfl))
    (pss_one (ps_ret pe_bl))
    pss_nil)
  (pss_cons (ps_if (pt_cmpR (op_notIn_kd DL) (pv 1) (pe_glob (v := .ref a_LEAST) rfl m_LEAST rfl) (by rfl))
    (pss_one (ps_ret pe_bl))
    pss_nil)
  (pss_cons (ps_asg (pe_ix (k_ixD K w) (pe_glob (v := .ref a_LEAST) rfl m_LEAST rfl) (pv 1) (fun _ _ => rfl)) (k_gtup K 2 rfl (pgs_cons (pg_name (i := 2) sc_can_stand.nd rfl (.inl rfl)) (pgs_cons (pg_name (i := 3) sc_can_stand.nd rfl (.inl rfl)) pgs_nil))))
  (pss_one (ps_ret (pe_and (pe_cmpR op_ge (pe_ix (k_ixT K) (pv 0) pe_int (fun _ _ => rfl)) (pv 2) (nomark _)) (pe_one (pe_cmpR op_ge (pe_ix (k_ixT K) (pv 0) pe_int (fun _ _ => rfl)) (pv 3) (nomark _))))))))), ?_⟩
  obtain ⟨p, x, w, h, rfl, hp, hw, hh, q⟩ := h
  walk_at "rd"
  rcases x with c | d | x
  · rw [show (Kw.c c).s = c.s from rfl, inV_cols]
    walk_at "rd"
    exact q _ rfl
  · rw [show (Kw.d d).s = d.s from rfl, inV_cols_du]
    walk_at "rd"
    have tk : ∃ (pp : Addr) (u v : Nat), PySem.W.nsIn K a_LEAST d.s = some (some (.ref pp)) ∧ KT K pp [.int u, .int v] ∧ d.fits w h = (decide (u ≤ w) && decide (v ≤ h)) := by
      obtain ⟨pp, e1, kt⟩ := t_LEAST.du d
      cases d
      · exact ⟨pp, 2, 1, e1, kt, by simp [Du.fits, hw, hh]⟩
      · exact ⟨pp, 1, 2, e1, kt, by simp [Du.fits, hw, hh]⟩
      · exact ⟨pp, 2, 2, e1, kt, by simp [Du.fits, hw, hh]⟩
    obtain ⟨pp, u, v, e1, kt, ef⟩ := tk
    refine ⟨_, _, rfl, rfl, e1, _, rfl, rF rfl ?_⟩
    walk_at "rd"
    refine rIxD_ (KDict.gives DL e1) ?_
    walk_at "rd"
    refine rIte (fun c => ?_) (fun c => ?_)
    · walk_at "rd"
      refine q _ ?_
      have c' : u ≤ w := by omega
      show _ = d.fits w h
      rw [ef, decide_eq_true c', Bool.true_and]
      exact decide_eq_decide.mpr (by omega)
    · refine q _ ?_
      have c' : ¬ u ≤ w := by omega
      show _ = d.fits w h
      rw [ef, decide_eq_false c', Bool.false_and]
  · rw [show (Kw.p x).s = x.s from rfl, inV_cols_pi]
    walk_at "rd"
    have tk : ∃ (pp : Addr) (u v : Nat), PySem.W.nsIn K a_LEAST x.s = some (some (.ref pp)) ∧ KT K pp [.int u, .int v] ∧ x.fits w h = (decide (u ≤ w) && decide (v ≤ h)) := by
      obtain ⟨pp, e1, kt⟩ := t_LEAST.pi x
      cases x
      · exact ⟨pp, 4, 1, e1, kt, by simp [Pi.fits, hw, hh]⟩
      · exact ⟨pp, 1, 4, e1, kt, by simp [Pi.fits, hw, hh]⟩
      · exact ⟨pp, 1, 4, e1, kt, by simp [Pi.fits, hw, hh]⟩
      · exact ⟨pp, 4, 4, e1, kt, by simp [Pi.fits, hw, hh]⟩
    obtain ⟨pp, u, v, e1, kt, ef⟩ := tk
    refine ⟨_, _, rfl, rfl, e1, _, rfl, rF rfl ?_⟩
    walk_at "rd"
    refine rIxD_ (KDict.gives DL e1) ?_
    walk_at "rd"
    refine rIte (fun c => ?_) (fun c => ?_)
    · walk_at "rd"
      refine q _ ?_
      have c' : u ≤ w := by omega
      show _ = x.fits w h
      rw [ef, decide_eq_true c', Bool.true_and]
      exact decide_eq_decide.mpr (by omega)
    · refine q _ ?_
      have c' : ¬ u ≤ w := by omega
      show _ = x.fits w h
      rw [ef, decide_eq_false c', Bool.false_and]

/-! ### _sizes_behind -/
abbrev s__sizes_behind : Stmt := topS 16
theorem sc__sizes_behind : FnScope ["size", "word", "width", "height"] ["size", "word"] (defScope s__sizes_behind) := ⟨rfl, rfl, rfl, by decide +kernel, rfl, by decide +kernel, by decide +kernel⟩
def spBhd (K : PySem.W.Frag) : Sp := fun vs H Q _ => ∃ (p : Addr) (x : Kw) (w h : Nat), vs = [.ref p, .str x.s] ∧ SqT K H p [.int w, .int h] ∧
  ∀ (D : Addr) (as : List Addr) (H' : Hp), Same H H' → H D = none → H' D = some (.lst (as.map V.ref)) → Paired (SizeAt K H') as (x.behind w h) → Q (.ref D) H'

theorem ok__sizes_behind {f : Addr} {fd : FuncData} {k : Nat} (F : Fun K "_sizes_behind" "_sizes_behind" s__sizes_behind f fd) {a_COLOURS : Addr} (m_COLOURS : mg "COLOURS" = some (.ref a_COLOURS)) (t_COLOURS : KT K a_COLOURS [.str "white", .str "yellow", .str "black", .str "blue", .str "green", .str "red"]) {a_PIECES : Addr} (m_PIECES : mg "PIECES" = some (.ref a_PIECES)) (t_PIECES : KT K a_PIECES [.str "pillar", .str "band", .str "head", .str "edge"]) {a_CELL : Addr} (m_CELL : mg "CELL" = some (.ref a_CELL)) (t_CELL : KT K a_CELL [.int 1, .int 1]) : FnOk P w K mg base CX0 (k + 1) f fd ["size", "word"] (spBhd K) := by
  refine F.ok sc__sizes_behind (fun vs H Q E h => ?_) (fun cdv A outer s H vs Q E hr h => ?_)
  · obtain ⟨p, x, w, h, rfl, _⟩ := h; rfl
  refine ⟨_, (pss_cons (ps_asg (pv 0) (k_gtup K 2 rfl (pgs_cons (pg_name (i := 2) sc__sizes_behind.nd rfl (.inl rfl)) (pgs_cons (pg_name (i := 3) sc__sizes_behind.nd rfl (.inl rfl)) pgs_nil))))
  (pss_cons (ps_if (pt_cmpR (k_in K) (pv 1) (pe_glob (v := .ref a_COLOURS) rfl m_COLOURS rfl) (by rfl))
    (pss_one (ps_ret (pe_lst pa_nil)))
    pss_nil)
  (pss_cons (ps_if (pt_cmpR (k_in K) (pv 1) (pe_glob (v := .ref a_PIECES) rfl m_PIECES rfl) (by rfl))
    (pss_one (ps_ret (pe_lst (pa_cons (pe_glob (v := .ref a_CELL) rfl m_CELL rfl) (pa_cons (pv 0) pa_nil)))))
    pss_nil)
  (pss_cons (ps_if (pt_cmpR op_eq (pv 1) pe_str (nomark _))
    (pss_one (ps_ret (pe_op op_rep (pe_lst (pa_cons (pe_tup (pa_cons (pe_op op_fdiv (pv 2) pe_int) (pa_cons (pv 3) pa_nil))) pa_nil)) pe_int)))
    pss_nil)
  (pss_cons (ps_if (pt_cmpR op_eq (pv 1) pe_str (nomark _))
    (pss_one (ps_ret (pe_op op_rep (pe_lst (pa_cons (pe_tup (pa_cons (pv 2) (pa_cons (pe_op op_fdiv (pv 3) pe_int) pa_nil))) pa_nil)) pe_int)))
    pss_nil)
  (pss_one (ps_ret (pe_op op_rep (pe_lst (pa_cons (pe_tup (pa_cons (pe_op op_fdiv (pv 2) pe_int) (pa_cons (pe_op op_fdiv (pv 3) pe_int) pa_nil))) pa_nil)) pe_int)))))))), ?_⟩
  obtain ⟨p, x, w, h, rfl, hp, q⟩ := h
  walk_at "rd"
  rcases x with c | d | x
  · rw [show (Kw.c c).s = c.s from rfl, inV_cols]
    walk_at "rd"
    rename_i D H2 nD s2 e2
    exact q D [] H2 s2 nD e2 .nil
  · rw [show (Kw.d d).s = d.s from rfl, inV_cols_du]
    walk_at "rd"
    rw [inV_pcs_du]
    walk_at "rd"
    have fin : ∀ (D T : Addr) (H2 H3 H4 : Hp), Same H H2 → H2 T = some (.tup [.int (d.pw w : Nat), .int (d.ph h : Nat)]) → Same H2 H3 → Same H3 H4 → H3 D = none → H4 D = some (.lst (List.replicate 2 [V.ref T]).flatten) → Q (.ref D) H4 := by
      intro D T H2 H3 H4 s1 e1 s2 s3 nD eD
      have e := s3 _ _ (s2 _ _ e1)
      exact q D [T, T] H4 (s1.trans (s2.trans s3)) ((s1.trans s2).free nD) eD (.cons (SqT.of e) (.cons (SqT.of e) .nil))
    cases d
    · walk_at "rd"
      rename_i T H2 nT s2 e2 L H3 nL s3 e3
      exact rRep_ e3 (by decide) (by decide) (Nat.le_of_ble_eq_true rfl) fun D H4 nD s4 e4 => fin D T H2 H3 H4 s2 e2 s3 s4 nD e4
    · walk_at "rd"
      rename_i T H2 nT s2 e2 L H3 nL s3 e3
      exact rRep_ e3 (by decide) (by decide) (Nat.le_of_ble_eq_true rfl) fun D H4 nD s4 e4 => fin D T H2 H3 H4 s2 e2 s3 s4 nD e4
    · walk_at "rd"
      rename_i T H2 nT s2 e2 L H3 nL s3 e3
      exact rRep_ e3 (by decide) (by decide) (Nat.le_of_ble_eq_true rfl) fun D H4 nD s4 e4 => fin D T H2 H3 H4 s2 e2 s3 s4 nD e4
  · rw [show (Kw.p x).s = x.s from rfl, inV_cols_pi]
    walk_at "rd"
    rw [inV_pcs]
    walk_at "rd"
    rename_i D H2 nD s2 e2
    exact q D [a_CELL, p] H2 s2 nD e2 (.cons (KT.sq _ t_CELL) (.cons ((imm_of_same s2).sqT hp) .nil))

/-! ### word_sizes -/
abbrev s_word_sizes : Stmt := topS 14
theorem sc_word_sizes : FnScope ["size", "words", "met", "awaited", "place", "word"] ["size", "words"] (defScope s_word_sizes) := ⟨rfl, rfl, rfl, by decide +kernel, rfl, by decide +kernel, by decide +kernel⟩
def spSizes (K : PySem.W.Frag) : Sp := fun vs H Q _ => ∃ (ps p : Addr) (l : List Str) (t : Tr) (w h : Nat), vs = [.ref ps, .ref p] ∧ SqT K H ps [.int w, .int h] ∧ Side w ∧ Side h ∧ SqT K H p (ws l) ∧ Short t.wds l ∧ t.ok w h ∧ t.wds.length ≤ 50000 ∧
  ∀ (D : Addr) (as : List Addr) (H' : Hp), Same H H' → H D = none → H' D = some (.lst (as.map V.ref)) → Paired (SizeAt K H') as (t.szs w h) → Q (.ref D) H'

theorem ok_word_sizes {f : Addr} {fd : FuncData} {k : Nat} (F : Fun K "word_sizes" "word_sizes" s_word_sizes f fd) (m_enumerate : mg "enumerate" = none) {a_need_size : Addr} {fd_need_size : FuncData} (G_need_size : FnOk P w K mg base CX0 k a_need_size fd_need_size ["size"] (spNeed K)) (m_need_size : mg "need_size" = some (.ref a_need_size)) (k_need_size : PySem.W.keepIn K (.ref a_need_size) = true) (b_need_size : Binds K fd_need_size ["size"] []) {a_can_stand : Addr} {fd_can_stand : FuncData} (G_can_stand : FnOk P w K mg base CX0 k a_can_stand fd_can_stand ["size", "word"] (spCan K)) (m_can_stand : mg "can_stand" = some (.ref a_can_stand)) (k_can_stand : PySem.W.keepIn K (.ref a_can_stand) = true) (b_can_stand : Binds K fd_can_stand ["size", "word"] []) {a__sizes_behind : Addr} {fd__sizes_behind : FuncData} (G__sizes_behind : FnOk P w K mg base CX0 k a__sizes_behind fd__sizes_behind ["size", "word"] (spBhd K)) (m__sizes_behind : mg "_sizes_behind" = some (.ref a__sizes_behind)) (k__sizes_behind : PySem.W.keepIn K (.ref a__sizes_behind) = true) (b__sizes_behind : Binds K fd__sizes_behind ["size", "word"] []) : FnOk P w K mg base CX0 (k + 1) f fd ["size", "words"] (spSizes K) := by
  refine F.ok sc_word_sizes (fun vs H Q E h => ?_) (fun cdv A outer s H vs Q E hr h => ?_)
  · obtain ⟨ps, p, l, t, w, h, rfl, _⟩ := h; rfl
  refine ⟨_, (pss_cons (ps_expr (pe_call G_need_size hr (by rfl) m_need_size k_need_size b_need_size .nil pass0 (pa_cons (pv 0) pa_nil)))
  (pss_cons (ps_set (i := 2) sc_word_sizes.nd rfl (.inl rfl) (pe_lst pa_nil))
  (pss_cons (ps_set (i := 3) sc_word_sizes.nd rfl (.inl rfl) (pe_lst (pa_cons (pv 0) pa_nil)))
  (pss_cons (ps_for PassesOwn.never rfl (k_enumT K (by rfl) m_enumerate (pa_cons (pv 1) pa_nil)) (k_gtup K 2 rfl (pgs_cons (pg_name (i := 4) sc_word_sizes.nd rfl (.inl rfl)) (pgs_cons (pg_name (i := 5) sc_word_sizes.nd rfl (.inl rfl)) pgs_nil)))
    (pss_cons (ps_if (PW.pt (pw_or (pt_not (k_truth K (pv 3) (by intro _; rfl))) (pw_or1 (pt_not (pt_val (pe_call G_can_stand hr (by rfl) m_can_stand k_can_stand b_can_stand .nil pass0 (pa_cons (pe_ix (k_ixL K) (pv 3) pe_int (fun _ _ => rfl)) (pa_cons (pv 5) pa_nil))))))))
        (pss_one ps_never)
        pss_nil)
      (pss_cons (ps_expr (k_bm K PySem.F.plainAttrs_list PySem.F.slot_list_append PySem.F.type_list_append mt_append (pv 2) (pa_cons (pe_ix (k_ixL K) (pv 3) pe_int (fun _ _ => rfl)) pa_nil)))
      (pss_one (ps_set (i := 3) sc_word_sizes.nd rfl (.inl rfl) (pe_op op_cat (pe_call G__sizes_behind hr (by rfl) m__sizes_behind k__sizes_behind b__sizes_behind .nil pass0 (pa_cons (pe_ix (k_ixL K) (pv 3) pe_int (fun _ _ => rfl)) (pa_cons (pv 5) pa_nil))) (pe_slice (k_slL K) (pv 3) (po_some pe_int) po_none)))))))
  (pss_one (ps_ret (pe_op op_cat (pv 2) (pv 3)))))))), ?_⟩
  obtain ⟨ps, p, l, t, w, h, rfl, hps, sw, sh, hp, ⟨m, hm, rfl, hwhite⟩, ok, few, q⟩ := h
  have hw1 := side_le sw
  have hh1 := side_le sh
  walk_at "rd"
  refine ⟨ps, w, h, rfl, hps, sw, sh, ?_⟩
  walk_at "rd"
  rename_i D1 H1 nD1 s1 e1 D2 H2 nD2 s2 e2
  have nD1' : H D1 = none := nD1
  refine for_enumT (xs := ws (t.wds.take m)) (fun i σ' H' => ∃ (pend : List Pd) (metl : List (Nat × Nat)) (as bs : List Addr) (D2 : Addr) (o4 o5 : Option V), σ' = [some (.ref ps), some (.ref p), some (.ref D1), some (.ref D2), o4, o5] ∧ Same H H' ∧
    H' D1 = some (.lst (as.map V.ref)) ∧ Paired (SizeAt K H') as metl ∧ H' D2 = some (.lst (bs.map V.ref)) ∧ Paired (SizeAt K H') bs (psz pend) ∧ D2 ≠ D1 ∧ H D2 = none ∧ (∀ x ∈ pend, pok x) ∧ t.wds.drop i = pwds pend ∧ metl ++ pszs pend = t.szs w h)
    ⟨[((w, h), t)], [], [], [ps], D2, none, none, rfl, s1.trans s2, s2 _ _ e1, .nil, e2, .cons ((imm_of_same (s1.trans s2)).sqT hps) .nil, (ne_of_none e1 nD2).symm, s1.free nD2, ?_, by simp [pwds], by simp [pszs]⟩ ?_ ?_ ?_
  · intro x hx
    rw [List.mem_singleton.mp hx]
    exact ⟨ok, hw1.1, hh1.1⟩
  · rintro i _ H3 _ ⟨pend, metl, as, bs, D2, o4, o5, rfl, s3, _⟩
    exact (imm_of_same s3).sqT hp
  · rintro i v _ H3 T H4 hx ⟨pend, metl, as, bs, D2, o4, o5, rfl, s3, m1, m2, b1, b2, ne, nD2, pk, hd, hz⟩ nT s4 eT
    obtain ⟨x, hx', rfl⟩ := get_map hx
    have hi : i < m := by
      have := (List.getElem?_eq_some_iff.mp hx').1
      rw [List.length_take] at this
      omega
    have hxi : t.wds[i]? = some x := by
      rw [List.getElem?_take] at hx'
      rwa [if_pos hi] at hx'
    have hdi : t.wds.drop i = x :: t.wds.drop (i + 1) := by
      have lt := (List.getElem?_eq_some_iff.mp hxi).1
      rw [List.drop_eq_getElem_cons lt]
      rw [List.getElem?_eq_getElem lt] at hxi
      rw [Option.some.inj hxi]
    cases pend with
    | nil =>
      rw [hdi] at hd
      cases hd
    | cons pd pr =>
    rw [pstep_wds, hdi] at hd
    injection hd with hx2 hd2
    subst hx2
    cases b2 with
    | @cons b0 _ bs _ r0 b2 =>
    have b1' : H4 D2 = some (.lst ((b0 :: bs).map V.ref)) := s4 _ _ b1
    have m1' := s4 _ _ m1
    have r0' : SqT K H4 b0 [.int pd.1.1, .int pd.1.2] := (imm_of_same s4).sqT r0
    have pd1 := pk pd List.mem_cons_self
    have lm : as.length = metl.length := paired_len m2
    have lz : metl.length + (pszs (pd :: pr)).length = t.wds.length := by rw [← List.length_append, hz, szs_len]
    have lb : bs.length = (psz pr).length := paired_len b2
    walk_at "rd"
    refine rTruL (SqL.of b1') ?_
    refine rF rfl ?_
    walk_at "rd"
    refine ⟨b0, pd.2.kw, pd.1.1, pd.1.2, rfl, r0', pd1.2.1, pd1.2.2, fun b eb => ?_⟩
    rw [pok_fits pd1] at eb
    subst eb
    walk_at "rd"
    refine rAppend_ m1' (lt_line (by rw [List.length_map]; omega)) fun H5 c5 e5 => ?_
    have b15 := c5.2 _ _ ne b1'
    have r5 := c5.1.sqT r0'
    walk_at "rd"
    refine ⟨b0, pd.2.kw, pd.1.1, pd.1.2, rfl, r5, fun D3 as3 H6 s6 nD3 e6 p6 => ?_⟩
    have b16 := s6 _ _ b15
    walk_at "rd"
    refine rSlL_ (SqL.of b16) fun D4 H7 nD4 s7 e7 => ?_
    rw [show (some (1 : Int)) = some ((1 : Nat) : Int) from rfl, cut_from] at e7
    have l3 : as3.length ≤ 2 := by
      rw [paired_len p6]
      cases pd.2.kw <;> simp [Kw.behind]
    have lp : ∀ l : List Pd, (psz l).length ≤ (pszs l).length := by
      intro l
      induction l with
      | nil => exact Nat.le_refl _
      | cons y ys ih =>
        rw [pszs, psz, List.length_cons, List.length_append, szs_len]
        have := wds_pos y.2
        omega
    have lp1 := lp pr
    have lp2 : (pszs pr).length ≤ (pszs (pd :: pr)).length := by rw [pszs, List.length_append]; omega
    refine rCatL_ (s7 _ _ e6) e7 (by simp; omega) fun D5 H8 nD5 s8 e8 => ?_
    have s05 : Same H H5 := same_chg (s3.trans s4) c5 nD1'
    have s58 := s6.trans (s7.trans s8)
    have m8 : Paired (SizeAt K H8) as metl := Paired.mapP (F := SizeAt K H3) m2 fun a s z => (imm_of_same s58).sqT (c5.1.sqT ((imm_of_same s4).sqT z))
    walk_at "rd"
    refine ⟨pstep (pd :: pr), metl ++ [pd.1], as ++ [b0], as3 ++ bs, D5, _, _, rfl, s05.trans s58, by rw [List.map_append]; exact s58 _ _ e5, paired_snoc (F := SizeAt K H8) ((imm_of_same s58).sqT r5) m8, ?_, ?_, ?_, ?_, ?_, ?_, ?_⟩
    · rw [List.map_append]
      exact e8
    · rw [pstep_sz]
      exact paired_app (Paired.mapP (F := SizeAt K H6) p6 fun a s z => (imm_of_same (s7.trans s8)).sqT z) (Paired.mapP (F := SizeAt K H3) b2 fun a s z => (imm_of_same s58).sqT (c5.1.sqT ((imm_of_same s4).sqT z)))
    · exact (ne_of_none ((s6.trans s7) _ _ e5) nD5).symm
    · exact s05.free ((s6.trans s7).free nD5)
    · exact pstep_ok pd1 fun y hy => pk y (List.mem_cons_of_mem _ hy)
    · exact hd2
    · rw [← hz, pstep_szs pd pr, List.append_assoc]
      rfl
  · rintro _ H3 ⟨pend, metl, as, bs, D2, o4, o5, rfl, s3, m1, m2, b1, b2, ne, nD2, pk, hd, hz⟩
    have ll : (ws (t.wds.take m)).length = m := by
      rw [ws_len, List.length_take]
      omega
    rw [ll] at hd
    have we : pszs pend = psz pend := white_end pend fun x hx => by
      rw [← hd] at hx
      obtain ⟨j, hj⟩ := List.mem_iff_getElem?.mp hx
      rw [List.getElem?_drop] at hj
      have lt := (List.getElem?_eq_some_iff.mp hj).1
      rw [hwhite _ (by omega) lt] at hj
      exact (Option.some.inj hj).symm
    have la : as.length = metl.length := paired_len m2
    have lb : bs.length = (psz pend).length := paired_len b2
    have lz : metl.length + (psz pend).length = t.wds.length := by rw [← we, ← List.length_append, hz, szs_len]
    walk_at "rd"
    refine rCatL_ m1 b1 (by simp; omega) fun D H4 nD s4 e4 => ?_
    refine q D (as ++ bs) H4 (s3.trans s4) (s3.free nD) (by rw [List.map_append]; exact e4) ?_
    rw [← hz, we]
    exact paired_app (Paired.mapP (F := SizeAt K H3) m2 fun a s z => (imm_of_same s4).sqT z) (Paired.mapP (F := SizeAt K H3) b2 fun a s z => (imm_of_same s4).sqT z)

/-! ### filled -/
abbrev s_filled : Stmt := topS 13
theorem sc_filled : FnScope ["size", "words", "missing"] ["size", "words"] (defScope s_filled) := ⟨rfl, rfl, rfl, by decide +kernel, rfl, by decide +kernel, by decide +kernel⟩
def spFilled (K : PySem.W.Frag) : Sp := fun vs H Q _ => ∃ (ps p : Addr) (l : List Str) (t : Tr) (w h : Nat), vs = [.ref ps, .ref p] ∧ SqT K H ps [.int w, .int h] ∧ Side w ∧ Side h ∧ SqT K H p (ws l) ∧ Short t.wds l ∧ t.ok w h ∧ t.wds.length ≤ 1000 ∧
  ∀ (a : Addr) (H' : Hp), Same H H' → SqT K H' a (ws t.wds) → Q (.ref a) H'

theorem ok_filled {f : Addr} {fd : FuncData} {k : Nat} (F : Fun K "filled" "filled" s_filled f fd) (m_len : mg "len" = none) {a_word_sizes : Addr} {fd_word_sizes : FuncData} (G_word_sizes : FnOk P w K mg base CX0 k a_word_sizes fd_word_sizes ["size", "words"] (spSizes K)) (m_word_sizes : mg "word_sizes" = some (.ref a_word_sizes)) (k_word_sizes : PySem.W.keepIn K (.ref a_word_sizes) = true) (b_word_sizes : Binds K fd_word_sizes ["size", "words"] []) {k_WHITE : Tok} (m_WHITE : mg "WHITE" = some (.str "white" k_WHITE)) : FnOk P w K mg base CX0 (k + 1) f fd ["size", "words"] (spFilled K) := by
  refine F.ok sc_filled (fun vs H Q E h => ?_) (fun cdv A outer s H vs Q E hr h => ?_)
  · obtain ⟨ps, p, l, t, w, h, rfl, _⟩ := h; rfl
  refine ⟨_, (pss_cons (ps_set (i := 2) sc_filled.nd rfl (.inl rfl) (pe_op op_sub (pe_callB (k_len K) (by rfl) m_len (by decide +kernel) (pa_cons (pe_call G_word_sizes hr (by rfl) m_word_sizes k_word_sizes b_word_sizes .nil pass0 (pa_cons (pv 0) (pa_cons (pv 1) pa_nil))) pa_nil)) (pe_callB (k_len K) (by rfl) m_len (by decide +kernel) (pa_cons (pv 1) pa_nil))))
  (pss_one (ps_ret (pe_op (k_cat K) (pv 1) (pe_op (k_rep K) (pe_tup (pa_cons (pe_glob (v := .str "white") rfl m_WHITE ⟨_, rfl⟩) pa_nil)) (pv 2)))))), ?_⟩
  obtain ⟨ps, p, l, t, w, h, rfl, hps, sw, sh, hp, hS, ok, few, q⟩ := h
  have hl : l.length ≤ t.wds.length := by
    obtain ⟨m, hm, rfl, _⟩ := hS
    rw [List.length_take]
    omega
  walk_at "rd"
  refine ⟨ps, p, l, t, w, h, rfl, hps, sw, sh, hp, hS, ok, by omega, fun D as H1 s1 nD e1 pr => ?_⟩
  have la : as.length = t.wds.length := by rw [paired_len pr, szs_len]
  walk_at "rd"
  refine rLnL (SqL.of e1) ?_
  walk_at "rd"
  rename_i T H2 nT s2 e2
  rw [List.length_map, la, ws_len]
  refine rRepA_ (SqT.of e2) (by simp) (by omega) (by omega) (by simp) fun T2 H3 s3 h3 => ?_
  rw [rep_one, show ((t.wds.length : Int) - (l.length : Int)).toNat = t.wds.length - l.length by omega] at h3
  have hp3 := (imm_of_same (s1.trans (s2.trans s3))).sqT hp
  refine rCat hp3 h3 (le_line (by rw [ws_len, List.length_replicate]; omega)) fun a H4 s4 h4 => ?_
  refine q a H4 (s1.trans (s2.trans (s3.trans s4))) ?_
  rw [show ws t.wds = ws l ++ List.replicate (t.wds.length - l.length) (V.str "white") by
    rw [show V.str "white" = V.str Co.white.s from rfl]
    rw [← List.map_replicate (f := V.str), ← ws, ← ws_app, short_full hS]]
  exact h4

/-! ### _law_other -/
abbrev s__law_other : Stmt := topS 39
theorem sc__law_other : FnScope ["_law_row", "_law_words", "_law_size_here", "_law_way", "_law_some", "_law_colour_here", "_law_word"] ["_law_row", "_law_words", "_law_size_here"] (defScope s__law_other) := ⟨rfl, rfl, rfl, by decide +kernel, rfl, by decide +kernel, by decide +kernel⟩
def spOther (K : PySem.W.Frag) : Sp := fun vs H Q _ => ∃ (r p ps : Addr) (l : List Str) (t : Tr) (w h : Nat), vs = [.ref r, .ref p, .ref ps] ∧ Row K H r ∧ SqT K H p (ws l) ∧ Short t.wds l ∧ t.ok w h ∧ t.wds.length ≤ 500 ∧ SqT K H ps [.int w, .int h] ∧ Side w ∧ Side h ∧
  ∀ (a : Addr) (l2 : List Str) (t2 : Tr) (H' : Hp), Chg r H H' → Row K H' r → SqT K H' a (ws l2) → Short t2.wds l2 → t2.ok w h → t2.wds.length ≤ 502 → Q (.ref a) H'
def nw2 : List Nw := [.d .party, .d .cut]

theorem ok__law_other {f : Addr} {fd : FuncData} {k : Nat} (F : Fun K "_law_other" "_law_other" s__law_other f fd) {a__law_taken : Addr} {fd__law_taken : FuncData} (G__law_taken : FnOk P w K mg base CX0 k a__law_taken fd__law_taken ["_law_row", "_law_many"] (spTaken K)) (m__law_taken : mg "_law_taken" = some (.ref a__law_taken)) (k__law_taken : PySem.W.keepIn K (.ref a__law_taken) = true) (b__law_taken : Binds K fd__law_taken ["_law_row", "_law_many"] []) {a__law_saying : Addr} {fd__law_saying : FuncData} (G__law_saying : FnOk P w K mg base CX0 k a__law_saying fd__law_saying ["_law_row", "_law_size_here", "_law_deep"] (spSaying K 9)) (m__law_saying : mg "_law_saying" = some (.ref a__law_saying)) (k__law_saying : PySem.W.keepIn K (.ref a__law_saying) = true) (b__law_saying : Binds K fd__law_saying ["_law_row", "_law_size_here", "_law_deep"] []) {a__law_fits : Addr} {fd__law_fits : FuncData} (G__law_fits : FnOk P w K mg base CX0 k a__law_fits fd__law_fits ["_law_size_here", "_law_word"] (spFits K)) (m__law_fits : mg "_law_fits" = some (.ref a__law_fits)) (k__law_fits : PySem.W.keepIn K (.ref a__law_fits) = true) (b__law_fits : Binds K fd__law_fits ["_law_size_here", "_law_word"] []) {a__law_colour : Addr} {fd__law_colour : FuncData} (G__law_colour : FnOk P w K mg base CX0 k a__law_colour fd__law_colour ["_law_row"] (spColour K)) (m__law_colour : mg "_law_colour" = some (.ref a__law_colour)) (k__law_colour : PySem.W.keepIn K (.ref a__law_colour) = true) (b__law_colour : Binds K fd__law_colour ["_law_row"] []) {a__law_drawing : Addr} {fd__law_drawing : FuncData} (G__law_drawing : FnOk P w K mg base CX0 k a__law_drawing fd__law_drawing ["_law_words", "_law_size_here"] (spDrawing K)) (m__law_drawing : mg "_law_drawing" = some (.ref a__law_drawing)) (k__law_drawing : PySem.W.keepIn K (.ref a__law_drawing) = true) (b__law_drawing : Binds K fd__law_drawing ["_law_words", "_law_size_here"] []) {a_filled : Addr} {fd_filled : FuncData} (G_filled : FnOk P w K mg base CX0 k a_filled fd_filled ["size", "words"] (spFilled K)) (m_filled : mg "filled" = some (.ref a_filled)) (k_filled : PySem.W.keepIn K (.ref a_filled) = true) (b_filled : Binds K fd_filled ["size", "words"] []) : FnOk P w K mg base CX0 (k + 1) f fd ["_law_row", "_law_words", "_law_size_here"] (spOther K) := by
  refine F.ok sc__law_other (fun vs H Q E h => ?_) (fun cdv A outer s H vs Q E hr h => ?_)
  · obtain ⟨r, p, ps, l, t, w, h, rfl, _⟩ := h; rfl
  refine ⟨_, (pss_cons (ps_set (i := 3) sc__law_other.nd rfl (.inl rfl) (pe_call G__law_taken hr (by rfl) m__law_taken k__law_taken b__law_taken .nil pass0 (pa_cons (pv 0) (pa_cons pe_int pa_nil))))
  (pss_cons (ps_if (pt_cmpR op_eq (pv 3) pe_int (nomark _))
    (pss_one (ps_ret (pe_call G__law_saying hr (by rfl) m__law_saying k__law_saying b__law_saying .nil pass0 (pa_cons (pv 0) (pa_cons (pv 2) (pa_cons pe_int pa_nil))))))
    pss_nil)
  (pss_cons (ps_setLc (i := 4) (own := [("_law_word", 6)]) rfl sc__law_other.nd rfl rfl (sw_true rfl rfl rfl (by decide +kernel)) (k_iterT K (pe_tup (pa_cons pe_str (pa_cons pe_str pa_nil)))) (blkOk_by (N := ["_law_row", "_law_words", "_law_size_here", "_law_way", "_law_some", "_law_colour_here", "_law_word"]) (sc := defScope s__law_other) (by decide +kernel)) (fun _ _ _ _ _ => (pg_name (i := 6) sc__law_other.nd rfl (.inl rfl))) (fun _ _ _ _ _ => (pts_one (pt_val (pe_call G__law_fits hr (by rfl) m__law_fits k__law_fits b__law_fits .nil pass0 (pa_cons (pv 2) (pa_cons (pv 6) pa_nil)))))) (fun _ _ _ _ _ => (pv 6)))
  (pss_cons (ps_if (PW.pt (pw_and (pt_cmpR op_eq (pv 3) pe_int (nomark _)) (pw_and1 (pt_cmpR (k_neD K rfl hr.units) (pv 4) (pe_lst pa_nil) (nomark _)))))
    (pss_cons (ps_set (i := 5) sc__law_other.nd rfl (.inl rfl) (pe_call G__law_colour hr (by rfl) m__law_colour k__law_colour b__law_colour .nil pass0 (pa_cons (pv 0) pa_nil)))
      (pss_one (ps_ret (pe_tup (pa_cons (pe_ix (k_ixL K) (pv 4) pe_int (fun _ _ => rfl)) (pa_cons (pv 5) (pa_cons (pe_ix (k_ixL K) (pe_lst (pa_cons (pv 5) (pa_cons pe_str pa_nil))) (pe_call G__law_taken hr (by rfl) m__law_taken k__law_taken b__law_taken .nil pass0 (pa_cons (pv 0) (pa_cons pe_int pa_nil))) (fun _ _ => rfl)) pa_nil)))))))
    pss_nil)
  (pss_cons (ps_if (PW.pt (pw_and (pt_cmpR op_eq (pv 3) pe_int (nomark _)) (pw_and1 (pt_val (pe_call G__law_fits hr (by rfl) m__law_fits k__law_fits b__law_fits .nil pass0 (pa_cons (pv 2) (pa_cons pe_str pa_nil)))))))
    (pss_one (ps_ret (pe_op (k_cat K) (pe_tup (pa_cons pe_str (pa_cons (pe_ix (k_ixT K) (pe_ix (k_ixT K) (pe_call G__law_drawing hr (by rfl) m__law_drawing k__law_drawing b__law_drawing .nil pass0 (pa_cons (pv 1) (pa_cons (pv 2) pa_nil))) pe_int (fun _ _ => rfl)) pe_int (fun _ _ => rfl)) pa_nil))) (pe_call G_filled hr (by rfl) m_filled k_filled b_filled .nil pass0 (pa_cons (pv 2) (pa_cons (pv 1) pa_nil))))))
    pss_nil)
  (pss_one (ps_ret (pv 1)))))))), ?_⟩
  obtain ⟨r, p, ps, l, t, w, h, rfl, hR, hp, hS, ok, few, hps, sw, sh, q⟩ := h
  walk_at "rd"
  refine ⟨r, 4, rfl, hR, by decide, by decide, fun k H1 k0 k1 c1 R1 => ?_⟩
  have hps1 := c1.1.sqT hps
  have hp1 := c1.1.sqT hp
  walk_at "rd"
  refine rIte (fun d0 => ?_) (fun d0 => ?_)
  · walk_at "rd"
    refine ⟨r, ps, w, h, 3, rfl, by decide, by decide, R1, hps1, sw, sh, fun t2 a H2 ok2 l2 c2 R2 h2 => ?_⟩
    exact q a _ t2 H2 (c1.trans c2) R2 h2 (Short.whole _) ok2 (by omega)
  · walk_at "rd"
    rename_i p2 H2 n2 s2 e2
    intro D nD
    refine lc_tup (xs := nw2.map fun x => V.str x.s) (Made D fun i acc H' => Same H2 H' ∧ acc = (((nw2.take i).filter fun x => x.fits w h).map fun x => V.str x.s)) ?_ ?_ ?_ ?_
    · exact made0 ⟨same_new nD, rfl⟩
    · rintro i H' _ ⟨acc, _, _, sm, _⟩
      exact SqT.of (sm _ _ e2)
    · rintro i v H' hx ⟨acc, eD, la, sm, rfl⟩
      obtain ⟨x, hz, rfl⟩ := get_map hx
      have hi : i < 2 := (List.getElem?_eq_some_iff.mp hz).1
      walk_at "rd"
      refine ⟨rfl, ?_⟩
      walk_at "rd"
      refine ⟨ps, x, w, h, rfl, (imm_of_same (s2.trans sm)).sqT hps1, sw, sh, fun b H5 eb s5 => ?_⟩
      subst eb
      walk_at "rd"
      have sm5 := sm.trans s5
      cases hb : x.fits w h with
      | true =>
        walk_at "rd"
        refine madeS (s5 _ _ eD) la (by omega) ⟨same_upd sm5 nD, ?_⟩
        rw [take_next hz, List.filter_append, List.map_append]
        simp only [List.filter_cons, List.filter_nil, hb, if_true, List.map_cons, List.map_nil]
      | false =>
        refine ⟨_, s5 _ _ eD, Nat.le_trans la (Nat.le_succ _), sm5, ?_⟩
        rw [take_next hz, List.filter_append]
        simp only [List.filter_cons, List.filter_nil, hb, if_false, List.append_nil, Bool.false_eq_true]
    · rintro H3 ⟨acc, eD, _, s3, rfl⟩
      rw [List.take_of_length_le (by rw [List.length_map]; exact Nat.le_refl _)] at eD
      have hm : ∀ x ∈ nw2.filter (fun x => x.fits w h), ∃ d : Du, x = .d d ∧ d.fits w h = true ∧ d ≠ .quartered := fun x hx => by
        obtain ⟨m1, m2⟩ := List.mem_filter.mp hx
        rcases List.mem_cons.mp m1 with e | m1
        · subst e; exact ⟨.party, rfl, m2, by decide⟩
        · rw [List.mem_singleton.mp m1] at m2 ⊢
          exact ⟨.cut, rfl, m2, by decide⟩
      generalize nw2.filter (fun x => x.fits w h) = some' at *
      have s23 := s2.trans s3
      have R3 := R1.same s23
      have hps3 := (imm_of_same s23).sqT hps1
      have hp3 := (imm_of_same s23).sqT hp1
      have nr : D ≠ r := (R1.same s2).ne nD
      have c03 := c1.trans (chg_of_same s23)
      clear s23 s2 s3 e2 n2 hp hps hR
      have ret : ∀ H4, Chg r H H4 → Row K H4 r → SqT K H4 p (ws l) → Q (.ref p) H4 := fun H4 c R h => q p l t H4 c R h hS ok (by omega)
      have hll : l.length ≤ 500 := by
        obtain ⟨m, hm, rfl, _⟩ := hS
        rw [List.length_take]
        omega
      walk_at "rd"
      refine rIte (fun d1 => ?_) (fun d1 => ?_)
      · walk_at "rd"
        rename_i pe H5 n5 s5 e5
        have eD5 := s5 _ _ eD
        refine rNeKws (a := some'.map Nw.k) (b := []) (by rw [← nw_kws]; exact SqL.of eD5) (SqL.of e5) ?_
        have c05 := c03.trans (chg_of_same s5)
        have R5 := R3.same s5
        walk_at "rd"
        refine rIteN (fun d2 => ?_) (fun d2 => ?_)
        · cases some' with
          | nil => exact absurd rfl d2
          | cons x0 rest =>
          obtain ⟨d, rfl, fit, nq⟩ := hm x0 List.mem_cons_self
          walk_at "rd"
          refine ⟨r, rfl, R5, fun c H6 c6 R6 => ?_⟩
          have eD6 := c6.2 _ _ nr eD5
          walk_at "rd"
          rename_i L H7 nL s7 e7
          have nL2 : L ≠ r := R6.ne nL
          refine ⟨r, 2, rfl, R6.same s7, by decide, by decide, fun k8 H8 k80 k81 c8 R8 => ?_⟩
          have e8 := c8.2 _ _ nL2 e7
          have c08 := c05.trans (c6.trans ((chg_of_same s7).trans c8))
          obtain ⟨c2, hc2⟩ : ∃ c2 : Co, atI [V.str c.s, V.str "white"] k8 = some (.str c2.s) := by
            have z : k8 = 0 ∨ k8 = 1 := by omega
            rcases z with z | z <;> subst z
            · exact ⟨c, atI_nat (j := 0) rfl⟩
            · exact ⟨.white, atI_nat (j := 1) rfl⟩
          refine rIxL_ (SqL.of e8) hc2 ?_
          walk_at "rd"
          rename_i a H9 n9 s9 e9
          exact q a (Tr.two d (.col c) (.col c2)).wds (.two d (.col c) (.col c2)) H9 (c08.trans (chg_of_same s9)) (R8.same s9) (SqT.of e9) (Short.whole _) ⟨fit, trivial, trivial⟩ (by simp [Tr.wds])
        · walk_at "rd"
          refine rIte (fun d3 => ?_) (fun d3 => ?_)
          · rw [d1] at d3
            cases d3
          · walk_at "rd"
            exact ret H5 c05 R5 ((imm_of_same s5).sqT hp3)
      · walk_at "rd"
        refine rIte (fun d3 => ?_) (fun d3 => ?_)
        · walk_at "rd"
          refine ⟨ps, .p .head, w, h, rfl, hps3, sw, sh, fun b H5 eb s5 => ?_⟩
          have c05 := c03.trans (chg_of_same s5)
          have R5 := R3.same s5
          have hp5 := (imm_of_same s5).sqT hp3
          have hps5 := (imm_of_same s5).sqT hps3
          subst eb
          walk_at "rd"
          cases hb : (Nw.p .head).fits w h with
          | true =>
            walk_at "rd"
            refine ⟨p, ps, l, t, w, h, rfl, hp5, by omega, hS.seen, hps5, sw, sh, ok, fun g H6 s6 hg => ?_⟩
            obtain ⟨as, ha, pa⟩ := hg
            have hw8 := side_le sw
            have hh8 := side_le sh
            obtain ⟨a0, as', rfl⟩ : ∃ a0 as', as = a0 :: as' := by
              cases as with
              | nil =>
                have := paired_len pa
                rw [grid_len] at this
                simp at this
                omega
              | cons a b => exact ⟨a, b, rfl⟩
            obtain ⟨row, e, hrow⟩ := paired_get (i := 0) pa rfl
            rw [grid_get (by omega)] at e
            have e := Option.some.inj e
            subst e
            walk_at "rd"
            have g0 : atI (cs ((List.range w).map fun c => t.cell w h 0 c)) 0 = some (.str (t.cell w h 0 0).s) := by
              refine atI_nat (j := 0) ?_
              unfold cs
              rw [List.getElem?_map, List.getElem?_map, List.getElem?_range (by omega)]
              rfl
            refine rIxT_ hrow g0 ?_
            walk_at "rd"
            rename_i T H7 n7 s7 e7
            have s67 := s6.trans s7
            refine ⟨ps, p, l, t, w, h, rfl, (imm_of_same s67).sqT hps5, sw, sh, (imm_of_same s67).sqT hp5, hS, ok, by omega, fun a8 H8 s8 h8 => ?_⟩
            refine rCat ((imm_of_same s8).sqT (SqT.of e7)) h8 (le_line (by rw [ws_len]; show 2 + _ ≤ _; omega)) fun a9 H9 s9 h9 => ?_
            have s59 := s67.trans (s8.trans s9)
            exact q a9 (Tr.pc .head (t.cell w h 0 0) t).wds (.pc .head (t.cell w h 0 0) t) H9 (c05.trans (chg_of_same s59)) (R5.same s59) h9 (Short.whole _) ⟨hb, ok⟩ (by simp [Tr.wds]; omega)
          | false =>
            walk_at "rd"
            exact ret H5 c05 R5 hp5
        · walk_at "rd"
          exact ret H3 c03 R3 hp3

/-! ### _law_alike -/
abbrev s__law_alike : Stmt := topS 28
theorem sc__law_alike : FnScope ["_law_found", "_law_due", "_law_k"] ["_law_found", "_law_due"] (defScope s__law_alike) := ⟨rfl, rfl, rfl, by decide +kernel, rfl, by decide +kernel, by decide +kernel⟩
/-- what stands in both is the same -/
def spLawAlike (K : PySem.W.Frag) (n : Nat) : Sp := fun vs H Q _ => ∃ (x y : V) (d : PyData), vs = [x, y] ∧ Dp K H x d ∧ Dp K H y d ∧ fewD d ∧ d.depth < n ∧ n ≤ 9 ∧ ∀ H', Same H H' → Q (.bl true) H'

theorem ok__law_alike {f : Addr} {fd : FuncData} {k : Nat} {n : Nat} (F : Fun K "_law_alike" "_law_alike" s__law_alike f fd) (m_isinstance : mg "isinstance" = none) (m_list : mg "list" = none) (m_tuple : mg "tuple" = none) (m_len : mg "len" = none) (m_range : mg "range" = none) (m_bool : mg "bool" = none) (m_str : mg "str" = none) (m_int : mg "int" = none) (G__law_alike : FnOk P w K mg base CX0 k f fd ["_law_found", "_law_due"] (spLawAlike K n)) (m__law_alike : mg "_law_alike" = some (.ref f)) (k__law_alike : PySem.W.keepIn K (.ref f) = true) (b__law_alike : Binds K fd ["_law_found", "_law_due"] []) : FnOk P w K mg base CX0 (k + 1) f fd ["_law_found", "_law_due"] (spLawAlike K (n + 1)) := by
  refine F.ok sc__law_alike (fun vs H Q E h => ?_) (fun cdv A outer s H vs Q E hr h => ?_)
  · obtain ⟨x, y, d, rfl, _⟩ := h; rfl
  refine ⟨_, (pss_cons (ps_if (PW.pt (pw_or (pt_val (pe_callB (k_isi K) (by rfl) m_isinstance (by decide +kernel) (pa_cons (pv 1) (pa_cons (pe_bltn (v := .ty "tuple") (by rfl) m_tuple (by decide +kernel) rfl) pa_nil)))) (pw_or1 (pt_val (pe_callB (k_isi K) (by rfl) m_isinstance (by decide +kernel) (pa_cons (pv 1) (pa_cons (pe_bltn (v := .ty "list") (by rfl) m_list (by decide +kernel) rfl) pa_nil)))))))
    (pss_cons (ps_if (PW.pt (pw_or (pt_cmpR op_ne (pe_callB (k_isi K) (by rfl) m_isinstance (by decide +kernel) (pa_cons (pv 0) (pa_cons (pe_bltn (v := .ty "tuple") (by rfl) m_tuple (by decide +kernel) rfl) pa_nil))) (pe_callB (k_isi K) (by rfl) m_isinstance (by decide +kernel) (pa_cons (pv 1) (pa_cons (pe_bltn (v := .ty "tuple") (by rfl) m_tuple (by decide +kernel) rfl) pa_nil))) (nomark _)) (pw_or1 (pt_not (pt_val (pe_callB (k_isiT K) (by rfl) m_isinstance (by decide +kernel) (pa_cons (pv 0) (pa_cons (pe_tup (pa_cons (pe_bltn (v := .ty "tuple") (by rfl) m_tuple (by decide +kernel) rfl) (pa_cons (pe_bltn (v := .ty "list") (by rfl) m_list (by decide +kernel) rfl) pa_nil))) pa_nil))))))))
        (pss_one (ps_ret pe_bl))
        pss_nil)
      (pss_cons (ps_if (pt_cmpR op_ne (pe_callB (k_len K) (by rfl) m_len (by decide +kernel) (pa_cons (pv 0) pa_nil)) (pe_callB (k_len K) (by rfl) m_len (by decide +kernel) (pa_cons (pv 1) pa_nil)) (nomark _))
        (pss_one (ps_ret pe_bl))
        pss_nil)
      (pss_one (ps_ret (pe_cmpR (k_eqD K rfl hr.units) (pe_lc (own := [("_law_k", 2)]) rfl sc__law_alike.nd (pi_range1 rfl m_range (pa_cons (pe_callB (k_len K) (by rfl) m_len (by decide +kernel) (pa_cons (pv 1) pa_nil)) pa_nil)) (blkOk_by (N := ["_law_found", "_law_due", "_law_k"]) (sc := defScope s__law_alike) (by decide +kernel)) (fun _ _ _ _ _ => (pg_name (i := 2) sc__law_alike.nd rfl (.inl rfl))) (fun _ _ _ _ _ => (pts_one (pt_not (pt_val (pe_call G__law_alike hr (by rfl) m__law_alike k__law_alike b__law_alike .nil pass0 (pa_cons (pe_ix (k_ixA K) (pv 0) (pv 2) (fun _ _ => rfl)) (pa_cons (pe_ix (k_ixA K) (pv 1) (pv 2) (fun _ _ => rfl)) pa_nil))))))) (fun _ _ _ _ _ => (pv 2))) (pe_lst pa_nil) (nomark _))))))
    pss_nil)
  (pss_cons (ps_if (PW.pt (pw_or (pt_cmpR z_isN (pv 1) pe_non (nomark _)) (pw_or1 (pt_cmpR z_isN (pv 0) pe_non (nomark _)))))
    (pss_one (ps_ret (pe_and (pe_cmpR z_isN (pv 1) pe_non (nomark _)) (pe_one (pe_cmpR z_isN (pv 0) pe_non (nomark _))))))
    pss_nil)
  (pss_cons (ps_if (PW.pt (pw_or (pt_val (pe_callB (k_isi K) (by rfl) m_isinstance (by decide +kernel) (pa_cons (pv 1) (pa_cons (pe_bltn (v := .ty "bool") (by rfl) m_bool (by decide +kernel) rfl) pa_nil)))) (pw_or1 (pt_val (pe_callB (k_isi K) (by rfl) m_isinstance (by decide +kernel) (pa_cons (pv 0) (pa_cons (pe_bltn (v := .ty "bool") (by rfl) m_bool (by decide +kernel) rfl) pa_nil)))))))
    (pss_one (ps_ret (pe_and (pe_callB (k_isi K) (by rfl) m_isinstance (by decide +kernel) (pa_cons (pv 1) (pa_cons (pe_bltn (v := .ty "bool") (by rfl) m_bool (by decide +kernel) rfl) pa_nil))) (pe_and (pe_callB (k_isi K) (by rfl) m_isinstance (by decide +kernel) (pa_cons (pv 0) (pa_cons (pe_bltn (v := .ty "bool") (by rfl) m_bool (by decide +kernel) rfl) pa_nil))) (pe_one (pe_cmpR op_eq (pv 0) (pv 1) (nomark _)))))))
    pss_nil)
  (pss_cons (ps_if (pt_val (pe_callB (k_isi K) (by rfl) m_isinstance (by decide +kernel) (pa_cons (pv 1) (pa_cons (pe_bltn (v := .ty "str") (by rfl) m_str (by decide +kernel) rfl) pa_nil))))
    (pss_one (ps_ret (pe_and (pe_callB (k_isi K) (by rfl) m_isinstance (by decide +kernel) (pa_cons (pv 0) (pa_cons (pe_bltn (v := .ty "str") (by rfl) m_str (by decide +kernel) rfl) pa_nil))) (pe_one (pe_cmpR op_eq (pv 0) (pv 1) (nomark _))))))
    pss_nil)
  (pss_one (ps_ret (pe_and (pe_callB (k_isi K) (by rfl) m_isinstance (by decide +kernel) (pa_cons (pv 0) (pa_cons (pe_bltn (v := .ty "int") (by rfl) m_int (by decide +kernel) rfl) pa_nil))) (pe_one (pe_cmpR op_eq (pv 0) (pv 1) (nomark _)))))))))), ?_⟩
  obtain ⟨x, y, d, rfl, hx, hy, few, dep, hn, q⟩ := h
  cases hy with
  | non =>
    cases hx
    walk_at "rd"
    exact q H (Same.refl H)
  | bl b =>
    cases hx
    walk_at "rd"
    rw [decide_eq_true (p := V.bl b = V.bl b) rfl]
    exact q H (Same.refl H)
  | int i =>
    cases hx
    walk_at "rd"
    rw [decide_eq_true (p := V.int i = V.int i) rfl]
    exact q H (Same.refl H)
  | str z =>
    cases hx
    walk_at "rd"
    rw [decide_eq_true (p := V.str z = V.str z) rfl]
    exact q H (Same.refl H)
  | @lst a xs ds ha pa =>
    cases hx with
    | @lst b ys _ hb pb =>
    rw [fewD] at few
    have dep' : PyData.depthAll ds < n := by rw [PyData.depth] at dep; omega
    have la := dpAll_len pa
    have lb := dpAll_len pb
    walk_at "rd"
    rename_i T H1 nT s1 e1
    have ha1 := s1.seq ha
    have hb1 := s1.seq hb
    refine rLnL hb1 ?_
    walk_at "rd"
    refine rLnL ha1 ?_
    rw [la, lb]
    walk_at "rd"
    rw [decide_eq_true (p := V.int (ds.length : Nat) = V.int (ds.length : Nat)) rfl]
    refine rF rfl ?_
    walk_at "rd"
    refine rLnL ha1 ?_
    rw [la]
    walk_at "rd"
    intro D nD
    refine lc_range (lo := 0) (n := ds.length) (Made D fun i acc H' => Same H1 H' ∧ acc = []) ?_ ?_ ?_
    · exact made0 ⟨same_new nD, rfl⟩
    · rintro i H2 hi ⟨acc, eD, lD, s2, rfl⟩
      have hdi : ds[i]? = some ds[i] := List.getElem?_eq_getElem hi
      obtain ⟨va, ea, da⟩ := dpAll_get pa hdi
      obtain ⟨vb, eb, db⟩ := dpAll_get pb hdi
      have s02 := s1.trans s2
      rw [show ((0 : Int) + (i : Int)) = ((i : Nat) : Int) by omega]
      walk_at "rd"
      refine ⟨rfl, ?_⟩
      walk_at "rd"
      refine .inl (rIxL_ (s02.seq hb) (atI_nat eb) ?_)
      walk_at "rd"
      refine .inl (rIxL_ (s02.seq ha) (atI_nat ea) ?_)
      walk_at "rd"
      refine ⟨vb, va, ds[i], rfl, Dp.imm s02 db, Dp.imm s02 da, fewDs_get few.2 hdi, Nat.lt_of_le_of_lt (depth_get hdi) dep', by omega, fun H3 s3 => ?_⟩
      walk_at "rd"
      exact ⟨[], s3 _ _ eD, Nat.zero_le _, s2.trans s3, rfl⟩
    · rintro H2 ⟨acc, eD, lD, s2, rfl⟩
      walk_at "rd"
      rename_i E2 H3 nE s3 eE
      exact rEqNil (SqL.of (s3 _ _ eD)) (SqL.of eE) (q H3 (s1.trans (s2.trans s3)))
  | @tup a xs ds ha pa =>
    cases hx with
    | @tup b ys _ hb pb =>
    rw [fewD] at few
    have dep' : PyData.depthAll ds < n := by rw [PyData.depth] at dep; omega
    have la := dpAll_len pa
    have lb := dpAll_len pb
    walk_at "rd"
    rename_i T H1 nT s1 e1
    have ha1 := (imm_of_same s1).sqT ha
    have hb1 := (imm_of_same s1).sqT hb
    rw [la, lb]
    rw [decide_eq_true (p := V.int (ds.length : Nat) = V.int (ds.length : Nat)) rfl]
    refine rF rfl ?_
    walk_at "rd"
    rw [la]
    intro D nD
    refine lc_range (lo := 0) (n := ds.length) (Made D fun i acc H' => Same H1 H' ∧ acc = []) ?_ ?_ ?_
    · exact made0 ⟨same_new nD, rfl⟩
    · rintro i H2 hi ⟨acc, eD, lD, s2, rfl⟩
      have hdi : ds[i]? = some ds[i] := List.getElem?_eq_getElem hi
      obtain ⟨va, ea, da⟩ := dpAll_get pa hdi
      obtain ⟨vb, eb, db⟩ := dpAll_get pb hdi
      have s02 := s1.trans s2
      rw [show ((0 : Int) + (i : Int)) = ((i : Nat) : Int) by omega]
      walk_at "rd"
      refine ⟨rfl, ?_⟩
      walk_at "rd"
      refine .inr (rIxT_ ((imm_of_same s02).sqT hb) (atI_nat eb) ?_)
      walk_at "rd"
      refine .inr (rIxT_ ((imm_of_same s02).sqT ha) (atI_nat ea) ?_)
      walk_at "rd"
      refine ⟨vb, va, ds[i], rfl, Dp.imm s02 db, Dp.imm s02 da, fewDs_get few.2 hdi, Nat.lt_of_le_of_lt (depth_get hdi) dep', by omega, fun H3 s3 => ?_⟩
      walk_at "rd"
      exact ⟨[], s3 _ _ eD, Nat.zero_le _, s2.trans s3, rfl⟩
    · rintro H2 ⟨acc, eD, lD, s2, rfl⟩
      walk_at "rd"
      rename_i E2 H3 nE s3 eE
      exact rEqNil (SqL.of (s3 _ _ eD)) (SqL.of eE) (q H3 (s1.trans (s2.trans s3)))

/-! ### _plain -/
abbrev s__plain : Stmt := topS 23
theorem sc__plain : FnScope ["size", "colour", "width", "height"] ["size", "colour"] (defScope s__plain) := ⟨rfl, rfl, rfl, by decide +kernel, rfl, by decide +kernel, by decide +kernel⟩
def spPlain (K : PySem.W.Frag) : Sp := fun vs H Q _ => ∃ (ps : Addr) (c : Co) (w h : Nat), vs = [.ref ps, .str c.s] ∧ SqT K H ps [.int w, .int h] ∧ w ≤ 1000 ∧ h ≤ 1000 ∧
  ∀ (a : Addr) (H' : Hp), Same H H' → Drw K H' a (grid w h fun _ _ => c) → Q (.ref a) H'
theorem grid_const (w h : Nat) (c : Co) : grid w h (fun _ _ => c) = List.replicate h (List.replicate w c) := by
  unfold grid
  rw [List.map_const', List.map_const', List.length_range, List.length_range]
theorem paired_rep {α β : Type} {F : α → β → Prop} {x : α} {y : β} (f : F x y) : ∀ n : Nat, Paired F (List.replicate n x) (List.replicate n y)
  | 0 => .nil
  | n + 1 => .cons f (paired_rep f n)

theorem ok__plain {f : Addr} {fd : FuncData} {k : Nat} (F : Fun K "_plain" "_plain" s__plain f fd)  : FnOk P w K mg base CX0 (k + 1) f fd ["size", "colour"] (spPlain K) := by
  refine F.ok sc__plain (fun vs H Q E h => ?_) (fun cdv A outer s H vs Q E hr h => ?_)
  · obtain ⟨ps, c, w, h, rfl, _⟩ := h; rfl
  refine ⟨_, (pss_cons (ps_asg (pv 0) (k_gtup K 2 rfl (pgs_cons (pg_name (i := 2) sc__plain.nd rfl (.inl rfl)) (pgs_cons (pg_name (i := 3) sc__plain.nd rfl (.inl rfl)) pgs_nil))))
  (pss_one (ps_ret (pe_op (k_rep K) (pe_tup (pa_cons (pe_op (k_rep K) (pe_tup (pa_cons (pv 1) pa_nil)) (pv 2)) pa_nil)) (pv 3))))), ?_⟩
  obtain ⟨ps, c, w, h, rfl, hps, hw, hh, q⟩ := h
  walk_at "rd"
  rename_i T H1 nT s1 e1
  refine rRepA_ (SqT.of e1) (by simp) (by omega) (by omega) (by simp) fun T2 H2 s2 h2 => ?_
  rw [rep_one, show ((w : Int)).toNat = w from rfl] at h2
  walk_at "rd"
  rename_i T3 H3 nT3 s3 e3
  refine rRepA_ (SqT.of e3) (by simp) (by omega) (by omega) (by simp) fun a H4 s4 h4 => ?_
  rw [rep_one, show ((h : Int)).toNat = h from rfl] at h4
  refine q a H4 (s1.trans (s2.trans (s3.trans s4))) ⟨List.replicate h T2, by rw [List.map_replicate]; exact h4, ?_⟩
  rw [grid_const]
  refine paired_rep ?_ h
  show SqT K H4 T2 (cs (List.replicate w c))
  unfold cs
  rw [List.map_replicate]
  exact (imm_of_same (s3.trans s4)).sqT h2

/-! ### _beside -/
abbrev s__beside : Stmt := topS 25
theorem sc__beside : FnScope ["left", "right", "one", "other"] ["left", "right"] (defScope s__beside) := ⟨rfl, rfl, rfl, by decide +kernel, rfl, by decide +kernel, by decide +kernel⟩
def spBeside (K : PySem.W.Frag) : Sp := fun vs H Q _ => ∃ (p1 p2 : Addr) (r1 r2 : List (List Co)), vs = [.ref p1, .ref p2] ∧ Drw K H p1 r1 ∧ Drw K H p2 r2 ∧ r1.length = r2.length ∧ r1.length ≤ 1000 ∧ (∀ r ∈ r1, r.length ≤ 1000) ∧ (∀ r ∈ r2, r.length ≤ 1000) ∧
  ∀ (a : Addr) (H' : Hp), Same H H' → Drw K H' a (List.zipWith (· ++ ·) r1 r2) → Q (.ref a) H'
theorem zipWith_next {α β γ : Type} {f : α → β → γ} : ∀ {l : List α} {m : List β} {i : Nat} {x : α} {y : β}, l[i]? = some x → m[i]? = some y → (List.zipWith f l m).take (i + 1) = (List.zipWith f l m).take i ++ [f x y]
  | l, m, i, x, y, h1, h2 => by
    refine take_next ?_
    rw [List.getElem?_zipWith, h1, h2]
theorem cs_app (a b : List Co) : cs (a ++ b) = cs a ++ cs b := List.map_append

theorem ok__beside {f : Addr} {fd : FuncData} {k : Nat} (F : Fun K "_beside" "_beside" s__beside f fd) (m_tuple : mg "tuple" = none) (m_zip : mg "zip" = none) : FnOk P w K mg base CX0 (k + 1) f fd ["left", "right"] (spBeside K) := by
  refine F.ok sc__beside (fun vs H Q E h => ?_) (fun cdv A outer s H vs Q E hr h => ?_)
  · obtain ⟨p1, p2, r1, r2, rfl, _⟩ := h; rfl
  refine ⟨_, (pss_one (ps_ret (pe_callTy (k_tuple K) (by rfl) m_tuple (by decide +kernel) (pa_cons (pe_lc (own := [("one", 2), ("other", 3)]) rfl sc__beside.nd (k_zip K (by rfl) m_zip (pa_cons (pv 0) (pa_cons (pv 1) pa_nil))) (blkOk_by (N := ["left", "right", "one", "other"]) (sc := defScope s__beside) (by decide +kernel)) (fun _ _ _ _ _ => (k_gtup K 2 rfl (pgs_cons (pg_name (i := 2) sc__beside.nd rfl (.inl rfl)) (pgs_cons (pg_name (i := 3) sc__beside.nd rfl (.inl rfl)) pgs_nil)))) (fun _ _ _ _ _ => pts_nil) (fun _ _ _ _ _ => (pe_op (k_cat K) (pv 2) (pv 3)))) pa_nil)))), ?_⟩
  obtain ⟨p1, p2, r1, r2, rfl, ⟨as, ha, pa⟩, ⟨bs, hb, pb⟩, leq, few, few1, few2, q⟩ := h
  have la := paired_len pa
  have lb := paired_len pb
  walk_at "rd"
  refine rIZipT ha hb ?_
  intro D nD
  refine lc_zipT (xs := as.map V.ref) (ys := bs.map V.ref) (by simp; omega) (Made D fun i acc H' => Same H H' ∧ ∃ ts : List Addr, acc = ts.map V.ref ∧ Paired (fun a row => SqT K H' a (cs row)) ts ((List.zipWith (· ++ ·) r1 r2).take i)) ?_ ?_ ?_ ?_
  · exact made0 ⟨same_new nD, [], rfl, .nil⟩
  · rintro i H' _ ⟨acc, _, _, sm, _⟩
    exact ⟨(imm_of_same sm).sqT ha, (imm_of_same sm).sqT hb⟩
  · rintro i x y H1 T H2 hx hy ⟨acc, eD, lD, s1, ts, rfl, pr⟩ nT s2 eT
    obtain ⟨a, hax, rfl⟩ := ref_get hx
    obtain ⟨b, hby, rfl⟩ := ref_get hy
    obtain ⟨ra, e1, f1⟩ := paired_get pa hax
    obtain ⟨rb, e2, f2⟩ := paired_get pb hby
    have hi : i < as.length := (List.getElem?_eq_some_iff.mp hax).1
    walk_at "rd"
    refine ⟨rfl, ?_⟩
    walk_at "rd"
    have s12 := s1.trans s2
    refine rCat ((imm_of_same s12).sqT f1) ((imm_of_same s12).sqT f2) (le_line ?_) fun c H3 s3 h3 => ?_
    · have := few1 ra (List.mem_of_getElem? e1)
      have := few2 rb (List.mem_of_getElem? e2)
      simp [cs]
      omega
    refine madeS (s3 _ _ (s2 _ _ eD)) lD (by omega) ⟨same_upd (s12.trans s3) nD, ts ++ [c], by rw [List.map_append]; rfl, ?_⟩
    have nDH : ∀ {a : Addr} {xs : List V}, SqT K H3 a xs → SqT K (upd H3 D (.lst (ts.map V.ref ++ [.ref c]))) a xs := fun z => (chg_lst (s3 _ _ (s2 _ _ eD))).1.sqT z
    rw [zipWith_next e1 e2]
    refine paired_snoc (F := fun a row => SqT K _ a (cs row)) (nDH ?_) (Paired.mapP (F := fun a row => SqT K H1 a (cs row)) pr fun x y z => nDH ((imm_of_same (s2.trans s3)).sqT z))
    rw [cs_app]
    exact h3
  · rintro H1 ⟨acc, eD, lD, s1, ts, rfl, pr⟩
    walk_at "rd"
    rename_i c H2 nc s2 e2
    refine q c H2 (s1.trans s2) ⟨ts, SqT.of e2, ?_⟩
    rw [List.length_map, List.take_of_length_le (by rw [List.length_zipWith]; omega)] at pr
    exact Paired.mapP (F := fun a row => SqT K H1 a (cs row)) pr fun x y z => (imm_of_same s2).sqT z

/-! ### _is_own -/
abbrev s__is_own : Stmt := topS 22
theorem sc__is_own : FnScope ["size", "piece", "row", "column", "width", "height"] ["size", "piece", "row", "column"] (defScope s__is_own) := ⟨rfl, rfl, rfl, by decide +kernel, rfl, by decide +kernel, by decide +kernel⟩
def spIsOwn (K : PySem.W.Frag) : Sp := fun vs H Q _ => ∃ (p : Addr) (x : Pi) (w h r c : Nat), vs = [.ref p, .str x.s, .int r, .int c] ∧ SqT K H p [.int w, .int h] ∧ Side w ∧ Side h ∧ r < h ∧ c < w ∧
  ∀ (b : Bool) (H' : Hp), b = x.own w h r c → Same H H' → Q (.bl b) H'
theorem inV_two (r a b : Int) : inV (.int r) [.int a, .int b] = (decide (a = r) || decide (b = r)) := by
  unfold inV
  simp [eqV, BEq.beq]

theorem ok__is_own {f : Addr} {fd : FuncData} {k : Nat} (F : Fun K "_is_own" "_is_own" s__is_own f fd)  : FnOk P w K mg base CX0 (k + 1) f fd ["size", "piece", "row", "column"] (spIsOwn K) := by
  refine F.ok sc__is_own (fun vs H Q E h => ?_) (fun cdv A outer s H vs Q E hr h => ?_)
  · obtain ⟨p, x, w, h, r, c, rfl, _⟩ := h; rfl
  refine ⟨_, (pss_cons (ps_asg (pv 0) (k_gtup K 2 rfl (pgs_cons (pg_name (i := 4) sc__is_own.nd rfl (.inl rfl)) (pgs_cons (pg_name (i := 5) sc__is_own.nd rfl (.inl rfl)) pgs_nil))))
  (pss_cons (ps_if (pt_cmpR op_eq (pv 1) pe_str (nomark _))
    (pss_one (ps_ret (pe_chain op_le op_lt (pe_op op_fdiv (pv 4) pe_int) (pv 3) (pe_op op_sub (pv 4) (pe_op op_fdiv (pv 4) pe_int)))))
    pss_nil)
  (pss_cons (ps_if (pt_cmpR op_eq (pv 1) pe_str (nomark _))
    (pss_one (ps_ret (pe_chain op_le op_lt (pe_op op_fdiv (pv 5) pe_int) (pv 2) (pe_op op_sub (pv 5) (pe_op op_fdiv (pv 5) pe_int)))))
    pss_nil)
  (pss_cons (ps_if (pt_cmpR op_eq (pv 1) pe_str (nomark _))
    (pss_one (ps_ret (pe_cmpR op_lt (pv 2) (pe_op op_fdiv (pv 5) pe_int) (nomark _))))
    pss_nil)
  (pss_one (ps_ret (pe_or (pe_cmpR (k_in K) (pv 2) (pe_tup (pa_cons pe_int (pa_cons (pe_op op_sub (pv 5) pe_int) pa_nil))) (by rfl)) (pe_one (pe_cmpR (k_in K) (pv 3) (pe_tup (pa_cons pe_int (pa_cons (pe_op op_sub (pv 4) pe_int) pa_nil))) (by rfl)))))))))), ?_⟩
  obtain ⟨p, x, w, h, r, c, rfl, hp, sw, sh, hr', hc', q⟩ := h
  unfold Side at sw sh
  cases x
  · walk_at "rd"
    refine rIte (fun c1 => ?_) (fun c1 => ?_)
    · walk_at "rd"
      refine q _ _ ?_ (Same.refl H)
      show _ = (decide (w / 4 ≤ c) && decide (c < w - w / 4))
      rw [decide_eq_true (p := w / 4 ≤ c) (by omega), Bool.true_and]
      exact decide_eq_decide.mpr (by omega)
    · walk_at "rd"
      refine q _ _ ?_ (Same.refl H)
      show _ = (decide (w / 4 ≤ c) && decide (c < w - w / 4))
      rw [decide_eq_false (p := w / 4 ≤ c) (by omega), Bool.false_and]
  · walk_at "rd"
    refine rIte (fun c1 => ?_) (fun c1 => ?_)
    · walk_at "rd"
      refine q _ _ ?_ (Same.refl H)
      show _ = (decide (h / 4 ≤ r) && decide (r < h - h / 4))
      rw [decide_eq_true (p := h / 4 ≤ r) (by omega), Bool.true_and]
      exact decide_eq_decide.mpr (by omega)
    · walk_at "rd"
      refine q _ _ ?_ (Same.refl H)
      show _ = (decide (h / 4 ≤ r) && decide (r < h - h / 4))
      rw [decide_eq_false (p := h / 4 ≤ r) (by omega), Bool.false_and]
  · walk_at "rd"
    refine q _ _ ?_ (Same.refl H)
    show _ = decide (r < h / 4)
    exact decide_eq_decide.mpr (by omega)
  · walk_at "rd"
    rename_i T H1 nT s1 e1
    rw [inV_two]
    have e1 : (decide ((0 : Int) = r) || decide ((h : Int) - 1 = r)) = (r == 0 || r == h - 1) := by
      rw [Bool.eq_iff_iff]; simp; omega
    have e2 : (decide ((0 : Int) = c) || decide ((w : Int) - 1 = c)) = (c == 0 || c == w - 1) := by
      rw [Bool.eq_iff_iff]; simp; omega
    rw [e1]
    have own : Pi.own w h r c .edge = ((r == 0 || r == h - 1) || (c == 0 || c == w - 1)) := by
      show (r == 0 || r == h - 1 || c == 0 || c == w - 1) = _
      exact Bool.or_assoc _ _ _
    cases z : (r == 0 || r == h - 1) with
    | true =>
      walk_at "rd"
      exact q _ _ (by rw [own, z]; rfl) s1
    | false =>
      walk_at "rd"
      rename_i T2 H2 nT2 s2 e3
      refine q _ _ ?_ (s1.trans s2)
      rw [inV_two, e2, own, z, Bool.false_or]

/-! ### overlaid -/
abbrev s_overlaid : Stmt := topS 21
theorem sc_overlaid : FnScope ["piece", "colour", "rows", "size", "painted", "row", "cells", "column", "cell"] ["piece", "colour", "rows"] (defScope s_overlaid) := ⟨rfl, rfl, rfl, by decide +kernel, rfl, by decide +kernel, by decide +kernel⟩
def spOverlaid (K : PySem.W.Frag) : Sp := fun vs H Q _ => ∃ (p : Addr) (x : Pi) (c : Co) (w h : Nat) (f : Nat → Nat → Co), vs = [.str x.s, .str c.s, .ref p] ∧ Drw K H p (grid w h f) ∧ Side w ∧ Side h ∧
  ∀ (a : Addr) (H' : Hp), Same H H' → Drw K H' a (grid w h fun r k => if x.own w h r k then c else f r k) → Q (.ref a) H'

theorem ok_overlaid {f : Addr} {fd : FuncData} {k : Nat} (F : Fun K "overlaid" "overlaid" s_overlaid f fd) (m_len : mg "len" = none) (m_enumerate : mg "enumerate" = none) (m_tuple : mg "tuple" = none) {a__is_own : Addr} {fd__is_own : FuncData} (G__is_own : FnOk P w K mg base CX0 k a__is_own fd__is_own ["size", "piece", "row", "column"] (spIsOwn K)) (m__is_own : mg "_is_own" = some (.ref a__is_own)) (k__is_own : PySem.W.keepIn K (.ref a__is_own) = true) (b__is_own : Binds K fd__is_own ["size", "piece", "row", "column"] []) : FnOk P w K mg base CX0 (k + 1) f fd ["piece", "colour", "rows"] (spOverlaid K) := by
  refine F.ok sc_overlaid (fun vs H Q E h => ?_) (fun cdv A outer s H vs Q E hr h => ?_)
  · obtain ⟨p, x, c, w, h, f, rfl, _⟩ := h; rfl
  refine ⟨_, (pss_cons (ps_set (i := 3) sc_overlaid.nd rfl (.inr rfl) (pe_tup (pa_cons (pe_callB (k_len K) (by rfl) m_len (by decide +kernel) (pa_cons (pe_ix (k_ixT K) (pv 2) pe_int (fun _ _ => rfl)) pa_nil)) (pa_cons (pe_callB (k_len K) (by rfl) m_len (by decide +kernel) (pa_cons (pv 2) pa_nil)) pa_nil))))
  (pss_cons (ps_set (i := 4) sc_overlaid.nd rfl (.inl rfl) (pe_lst pa_nil))
  (pss_cons (ps_for PassesOwn.never rfl (k_enumT K (by rfl) m_enumerate (pa_cons (pv 2) pa_nil)) (k_gtup K 2 rfl (pgs_cons (pg_name (i := 5) sc_overlaid.nd rfl (.inr rfl)) (pgs_cons (pg_name (i := 6) sc_overlaid.nd rfl (.inl rfl)) pgs_nil)))
    (pss_one (ps_expr (k_bm K PySem.F.plainAttrs_list PySem.F.slot_list_append PySem.F.type_list_append mt_append (pv 4) (pa_cons (pe_callTy (k_tuple K) (by rfl) m_tuple (by decide +kernel) (pa_cons (pe_lc (own := [("column", 7), ("cell", 8)]) rfl sc_overlaid.nd (k_enumT K (by rfl) m_enumerate (pa_cons (pv 6) pa_nil)) (blkOk_by (N := ["piece", "colour", "rows", "size", "painted", "row", "cells", "column", "cell"]) (sc := defScope s_overlaid) (by decide +kernel)) (fun _ _ _ _ _ => (k_gtup K 2 rfl (pgs_cons (pg_name (i := 7) sc_overlaid.nd rfl (.inl rfl)) (pgs_cons (pg_name (i := 8) sc_overlaid.nd rfl (.inl rfl)) pgs_nil)))) (fun _ _ _ _ _ => pts_nil) (fun _ _ _ _ _ => (pe_ifExp (pt_val (pe_call G__is_own hr (by rfl) m__is_own k__is_own b__is_own .nil pass0 (pa_cons (pv 3) (pa_cons (pv 0) (pa_cons (pv 5) (pa_cons (pv 7) pa_nil)))))) (pv 1) (pv 8)))) pa_nil)) pa_nil)))))
  (pss_one (ps_ret (pe_callTy (k_tuple K) (by rfl) m_tuple (by decide +kernel) (pa_cons (pv 4) pa_nil))))))), ?_⟩
  obtain ⟨p, x, c, w, h, f, rfl, ⟨as, ha, pa⟩, sw, sh, q⟩ := h
  have hw8 := side_le sw
  have hh8 := side_le sh
  have la := paired_len pa
  rw [grid_len] at la
  obtain ⟨a0, as', rfl⟩ : ∃ a0 as', as = a0 :: as' := by
    cases as with
    | nil => simp at la; omega
    | cons a b => exact ⟨a, b, rfl⟩
  have row0 : SqT K H a0 (cs ((List.range w).map fun c => f 0 c)) := by
    obtain ⟨y, e, z⟩ := paired_get (i := 0) pa rfl
    rw [grid_get (by omega)] at e
    rw [Option.some.inj e]
    exact z
  walk_at "rd"
  rename_i T H1 nT s1 e1 D H2 nD s2 e2
  have s12 := s1.trans s2
  have szT := s2 _ _ e1
  have lw : ∀ f : Nat → Co, (cs ((List.range w).map f)).length = w := fun f => by simp [cs]
  rw [lw, List.length_map, la] at szT
  have ha2 := (imm_of_same s12).sqT ha
  refine for_enumT (xs := (a0 :: as').map V.ref) (fun i σ' H' => ∃ (ts : List Addr) (o5 o6 : Option V), σ' = [some (.str x.s), some (.str c.s), some (.ref p), some (.ref T), some (.ref D), o5, o6, none, none] ∧ Same H H' ∧ H' D = some (.lst (ts.map V.ref)) ∧ SqT K H' T [.int w, .int h] ∧
    Paired (fun a row => SqT K H' a (cs row)) ts ((grid w h fun r k => if x.own w h r k then c else f r k).take i)) ⟨[], none, none, rfl, s12, e2, SqT.of szT, .nil⟩ ?_ ?_ ?_
  · rintro i _ H3 _ ⟨ts, o5, o6, rfl, s3, _⟩
    exact (imm_of_same s3).sqT ha
  · rintro i v _ H3 T2 H4 hx ⟨ts, o5, o6, rfl, s3, eD, hT, pr⟩ nT2 s4 eT2
    obtain ⟨a, hax, rfl⟩ := ref_get hx
    obtain ⟨row, e3, hrow⟩ := paired_get pa hax
    have hi : i < h := by
      have := (List.getElem?_eq_some_iff.mp hax).1
      omega
    rw [grid_get hi] at e3
    have e3 := Option.some.inj e3
    subst e3
    have s34 := s3.trans s4
    have eD4 := s4 _ _ eD
    walk_at "rd"
    intro C nC
    refine lc_enumT (xs := cs ((List.range w).map fun c => f i c)) (Made C fun j acc H' => Same H4 H' ∧ acc = cs ((List.range j).map fun k => if x.own w h i k then c else f i k)) ?_ ?_ ?_ ?_
    · exact made0 ⟨same_new nC, rfl⟩
    · rintro j H' _ ⟨acc, _, _, sm, _⟩
      exact (imm_of_same (s34.trans sm)).sqT hrow
    · rintro j v H5 T3 H6 hv ⟨acc, eC, lC, s5, rfl⟩ nT3 s6 eT3
      obtain ⟨cc, hcc, rfl⟩ := get_map hv
      rw [List.getElem?_map] at hcc
      obtain ⟨j', hj', rfl⟩ := Option.map_eq_some_iff.mp hcc
      have hj : j < w := by
        have := (List.getElem?_eq_some_iff.mp hj').1
        rwa [List.length_range] at this
      have ej : j' = j := by
        rw [List.getElem?_range hj] at hj'
        exact (Option.some.inj hj').symm
      subst ej
      have hT6 : SqT K H6 T [.int w, .int h] := (imm_of_same (s4.trans (s5.trans s6))).sqT hT
      walk_at "rd"
      refine ⟨rfl, ?_⟩
      walk_at "rd"
      refine ⟨T, x, w, h, i, j', rfl, hT6, sw, sh, hi, hj, fun b H7 eb s7 => ?_⟩
      have fin : ∀ z : Co, (if x.own w h i j' then c else f i j') = z → ∃ acc, H7 C = some (.lst acc) ∧ acc.length < sizeLine ∧ Made C (fun j acc H' => Same H4 H' ∧ acc = cs ((List.range j).map fun k => if x.own w h i k then c else f i k)) (j' + 1) (upd H7 C (.lst (acc ++ [V.str z.s]))) := by
        intro z ez
        refine madeS ((s6.trans s7) _ _ eC) lC (by omega) ⟨same_upd (s5.trans (s6.trans s7)) nC, ?_⟩
        rw [range_snoc, cs_app, ez]
        rfl
      subst eb
      cases hb : x.own w h i j' with
      | true =>
        walk_at "rd"
        exact fin c (by rw [hb]; rfl)
      | false =>
        walk_at "rd"
        exact fin _ (by rw [hb]; rfl)
    · rintro H5 ⟨acc, eC, lC, s5, rfl⟩
      walk_at "rd"
      rename_i R H6 nR s6 e6
      have s36 := s4.trans (s5.trans s6)
      refine rAppend_ (s36 _ _ eD) (lt_line (by rw [List.length_map, paired_len pr, List.length_take]; omega)) fun H7 c7 e7 => ?_
      have s7 : Same H H7 := same_chg (s3.trans s36) c7 (s1.free nD)
      walk_at "rd"
      have up : ∀ {a : Addr} {xs : List V}, SqT K H3 a xs → SqT K H7 a xs := fun z => c7.1.sqT ((imm_of_same s36).sqT z)
      refine ⟨ts ++ [R], _, _, rfl, s7, by rw [List.map_append]; exact e7, up hT, ?_⟩
      rw [take_next (grid_get hi)]
      refine paired_snoc (F := fun a row => SqT K H7 a (cs row)) (c7.1.sqT ?_) (Paired.mapP (F := fun a row => SqT K H3 a (cs row)) pr fun x y z => up z)
      have e6 := SqT.of (K := K) e6
      rw [lw] at e6
      exact e6
  · rintro _ H3 ⟨ts, o5, o6, rfl, s3, eD, hT, pr⟩
    walk_at "rd"
    rename_i a H4 na s4 e4
    rw [List.length_map, la, List.take_of_length_le (by rw [grid_len]; exact Nat.le_refl _)] at pr
    exact q a H4 (s3.trans s4) ⟨ts, SqT.of e4, Paired.mapP (F := fun a row => SqT K H3 a (cs row)) pr fun x y z => (imm_of_same s4).sqT z⟩

/-! ### _joined -/
abbrev s__joined : Stmt := topS 24
theorem sc__joined : FnScope ["word", "first", "second"] ["word", "first", "second"] (defScope s__joined) := ⟨rfl, rfl, rfl, by decide +kernel, rfl, by decide +kernel, by decide +kernel⟩
def spJoined (K : PySem.W.Frag) : Sp := fun vs H Q _ => ∃ (p1 p2 : Addr) (x : Kw) (w h : Nat), vs = [.str x.s, .ref p1, .ref p2] ∧ Side w ∧ Side h ∧ x.fits w h = true ∧
  (match x with
    | .c _ => False
    | .d d => ∃ f1 f2, Drw K H p1 (grid (d.pw w) (d.ph h) f1) ∧ Drw K H p2 (grid (d.pw w) (d.ph h) f2) ∧ ∀ (a : Addr) (H' : Hp), Same H H' → Drw K H' a (grid w h (cell2 d w h f1 f2)) → Q (.ref a) H'
    | .p x => ∃ c f, Drw K H p1 (grid 1 1 fun _ _ => c) ∧ Drw K H p2 (grid w h f) ∧ ∀ (a : Addr) (H' : Hp), Same H H' → Drw K H' a (grid w h fun r k => if x.own w h r k then c else f r k) → Q (.ref a) H')
theorem Drw.cat {K : PySem.W.Frag} {H : Hp} {a : Addr} {r1 r2 : List (List Co)} {as bs : List Addr} (h : SqT K H a (as.map V.ref ++ bs.map V.ref)) (h1 : Paired (fun a row => SqT K H a (cs row)) as r1) (h2 : Paired (fun a row => SqT K H a (cs row)) bs r2) : Drw K H a (r1 ++ r2) :=
  ⟨as ++ bs, by rw [List.map_append]; exact h, paired_app h1 h2⟩
theorem grid_few {w h : Nat} {f : Nat → Nat → Co} (hw : w ≤ 1000) : ∀ r ∈ grid w h f, r.length ≤ 1000 := fun r m => by rw [grid_row m]; exact hw

theorem ok__joined {f : Addr} {fd : FuncData} {k : Nat} (F : Fun K "_joined" "_joined" s__joined f fd) {a__beside : Addr} {fd__beside : FuncData} (G__beside : FnOk P w K mg base CX0 k a__beside fd__beside ["left", "right"] (spBeside K)) (m__beside : mg "_beside" = some (.ref a__beside)) (k__beside : PySem.W.keepIn K (.ref a__beside) = true) (b__beside : Binds K fd__beside ["left", "right"] []) {a_overlaid : Addr} {fd_overlaid : FuncData} (G_overlaid : FnOk P w K mg base CX0 k a_overlaid fd_overlaid ["piece", "colour", "rows"] (spOverlaid K)) (m_overlaid : mg "overlaid" = some (.ref a_overlaid)) (k_overlaid : PySem.W.keepIn K (.ref a_overlaid) = true) (b_overlaid : Binds K fd_overlaid ["piece", "colour", "rows"] []) : FnOk P w K mg base CX0 (k + 1) f fd ["word", "first", "second"] (spJoined K) := by
  refine F.ok sc__joined (fun vs H Q E h => ?_) (fun cdv A outer s H vs Q E hr h => ?_)
  · obtain ⟨p1, p2, x, w, h, rfl, _⟩ := h; rfl
  refine ⟨_, (pss_cons (ps_if (pt_cmpR op_eq (pv 0) pe_str (nomark _))
    (pss_one (ps_ret (pe_call G__beside hr (by rfl) m__beside k__beside b__beside .nil pass0 (pa_cons (pv 1) (pa_cons (pv 2) pa_nil)))))
    pss_nil)
  (pss_cons (ps_if (pt_cmpR op_eq (pv 0) pe_str (nomark _))
    (pss_one (ps_ret (pe_op (k_cat K) (pv 1) (pv 2))))
    pss_nil)
  (pss_cons (ps_if (pt_cmpR op_eq (pv 0) pe_str (nomark _))
    (pss_one (ps_ret (pe_op (k_cat K) (pe_call G__beside hr (by rfl) m__beside k__beside b__beside .nil pass0 (pa_cons (pv 1) (pa_cons (pv 2) pa_nil))) (pe_call G__beside hr (by rfl) m__beside k__beside b__beside .nil pass0 (pa_cons (pv 2) (pa_cons (pv 1) pa_nil))))))
    pss_nil)
  (pss_one (ps_ret (pe_call G_overlaid hr (by rfl) m_overlaid k_overlaid b_overlaid .nil pass0 (pa_cons (pv 0) (pa_cons (pe_ix (k_ixT K) (pe_ix (k_ixT K) (pv 1) pe_int (fun _ _ => rfl)) pe_int (fun _ _ => rfl)) (pa_cons (pv 2) pa_nil))))))))), ?_⟩
  obtain ⟨p1, p2, x, w, h, rfl, sw, sh, hf, hx⟩ := h
  have hw8 := side_le sw
  have hh8 := side_le sh
  rcases x with c | d | x
  · exact hx.elim
  · obtain ⟨f1, f2, d1, d2, q⟩ := hx
    cases d
    · walk_at "rd"
      refine ⟨p1, p2, _, _, rfl, d1, d2, by rw [grid_len, grid_len], by rw [grid_len]; show h ≤ 1000; omega, grid_few (by show w / 2 ≤ 1000; omega), grid_few (by show w / 2 ≤ 1000; omega), fun a H1 s1 h1 => ?_⟩
      refine q a H1 s1 ?_
      rw [← grid_party sw (of_decide_eq_true hf)]
      exact h1
    · walk_at "rd"
      obtain ⟨as, ha, pa⟩ := id d1
      obtain ⟨bs, hb, pb⟩ := id d2
      have la := paired_len pa
      have lb := paired_len pb
      rw [grid_len] at la lb
      have hh : Du.cut.ph h = h / 2 := rfl
      refine rCat ha hb (le_line (by simp; omega)) fun a H1 s1 h1 => ?_
      refine q a H1 s1 ?_
      rw [← grid_cut sh (of_decide_eq_true hf)]
      exact Drw.cat h1 (Paired.mapP (F := fun a row => SqT K H a (cs row)) pa fun _ _ z => (imm_of_same s1).sqT z) (Paired.mapP (F := fun a row => SqT K H a (cs row)) pb fun _ _ z => (imm_of_same s1).sqT z)
    · have hf' : (decide (2 ≤ w) && decide (2 ≤ h)) = true := hf
      rw [Bool.and_eq_true] at hf'
      walk_at "rd"
      refine ⟨p1, p2, _, _, rfl, d1, d2, by rw [grid_len, grid_len], by rw [grid_len]; show h / 2 ≤ 1000; omega, grid_few (by show w / 2 ≤ 1000; omega), grid_few (by show w / 2 ≤ 1000; omega), fun a H1 s1 h1 => ?_⟩
      walk_at "rd"
      refine ⟨p2, p1, _, _, rfl, d2.same s1, d1.same s1, by rw [grid_len, grid_len], by rw [grid_len]; show h / 2 ≤ 1000; omega, grid_few (by show w / 2 ≤ 1000; omega), grid_few (by show w / 2 ≤ 1000; omega), fun b H2 s2 h2 => ?_⟩
      obtain ⟨as, ha, pa⟩ := h1.same s2
      obtain ⟨bs, hb, pb⟩ := h2
      have la := paired_len pa
      have lb := paired_len pb
      rw [List.length_zipWith, grid_len, grid_len] at la lb
      have hh : Du.quartered.ph h = h / 2 := rfl
      refine rCat ha hb (le_line (by simp; omega)) fun c H3 s3 h3 => ?_
      refine q c H3 (s1.trans (s2.trans s3)) ?_
      rw [← grid_quart sw sh (of_decide_eq_true hf'.1) (of_decide_eq_true hf'.2)]
      exact Drw.cat h3 (Paired.mapP (F := fun a row => SqT K H2 a (cs row)) pa fun _ _ z => (imm_of_same s3).sqT z) (Paired.mapP (F := fun a row => SqT K H2 a (cs row)) pb fun _ _ z => (imm_of_same s3).sqT z)
  · obtain ⟨c, f, ⟨as, ha, pa⟩, d2, q⟩ := hx
    cases pa with
    | @cons a0 _ as _ r0 pa =>
    have fin : spOverlaid K [.str x.s, .str c.s, .ref p2] H Q E0 := ⟨p2, x, c, w, h, f, rfl, d2, sw, sh, q⟩
    cases x
    all_goals (walk_at "rd"; exact fin)

/-! ### drawings -/
abbrev s_drawings : Stmt := topS 19
theorem sc_drawings : FnScope ["size", "words", "full", "sizes", "told", "waiting", "field", "word", "rows", "first", "second"] ["size", "words"] (defScope s_drawings) := ⟨rfl, rfl, rfl, by decide +kernel, rfl, by decide +kernel, by decide +kernel⟩
/-- what is still to be read behind k words -/
def pendAt (r : Pd) : Nat → List Pd
  | 0 => [r]
  | k + 1 => pstep (pendAt r k)
def pgood (p : Pd) : Prop := p.2.ok p.1.1 p.1.2 ∧ Side p.1.1 ∧ Side p.1.2
def pgrid (p : Pd) : List (List Co) := grid p.1.1 p.1.2 (p.2.cell p.1.1 p.1.2)
/-- the drawing of the saying that the k-th word begins -/
def wdraw (r : Pd) (k : Nat) : List (List Co) := match pendAt r k with
  | [] => []
  | p :: _ => pgrid p
def spDrawings (K : PySem.W.Frag) : Sp := fun vs H Q _ => ∃ (ps p : Addr) (l : List Str) (t : Tr) (w h : Nat), vs = [.ref ps, .ref p] ∧ SqT K H ps [.int w, .int h] ∧ Side w ∧ Side h ∧ SqT K H p (ws l) ∧ Short t.wds l ∧ t.ok w h ∧ t.wds.length ≤ 1000 ∧
  ∀ (D : Addr) (as : List Addr) (H' : Hp), Same H H' → H D = none → H' D = some (.lst (as.map V.ref)) → Paired (fun a rows => Drw K H' a rows) as ((List.range t.wds.length).map fun k => wdraw ((w, h), t) k) → Q (.ref D) H'
theorem pstep_nil : pstep [] = [] := rfl
theorem pstep_good : ∀ (l : List Pd), (∀ p ∈ l, pgood p) → ∀ p ∈ pstep l, pgood p
  | [], _ => fun p hp => nomatch hp
  | ((w, h), .col c) :: r, hl => fun p hp => hl p (List.mem_cons_of_mem _ hp)
  | ((w, h), .two d a b) :: r, hl => by
    obtain ⟨ok, sw, sh⟩ := hl _ List.mem_cons_self
    have sides := side_part ok.1 sw sh
    intro p hp
    rcases List.mem_cons.mp hp with e | hp
    · rw [e]; exact ⟨ok.2.1, sides⟩
    · rcases List.mem_cons.mp hp with e | hp
      · rw [e]; exact ⟨ok.2.2, sides⟩
      · exact hl p (List.mem_cons_of_mem _ hp)
  | ((w, h), .pc x c b) :: r, hl => by
    obtain ⟨ok, sw, sh⟩ := hl _ List.mem_cons_self
    intro p hp
    rcases List.mem_cons.mp hp with e | hp
    · rw [e]; exact ⟨trivial, .inl rfl, .inl rfl⟩
    · rcases List.mem_cons.mp hp with e | hp
      · rw [e]; exact ⟨ok.2, sw, sh⟩
      · exact hl p (List.mem_cons_of_mem _ hp)
theorem pend_facts (r : Pd) (hr : pgood r) : ∀ k, pwds (pendAt r k) = r.2.wds.drop k ∧ pszs (pendAt r k) = (r.2.szs r.1.1 r.1.2).drop k ∧ ∀ p ∈ pendAt r k, pgood p
  | 0 => ⟨by simp [pendAt, pwds], by simp [pendAt, pszs], fun p hp => by rw [List.mem_singleton.mp hp]; exact hr⟩
  | k + 1 => by
    obtain ⟨h1, h2, h3⟩ := pend_facts r hr k
    have h4 := pstep_good _ h3
    show pwds (pstep (pendAt r k)) = _ ∧ pszs (pstep (pendAt r k)) = _ ∧ _
    cases e : pendAt r k with
    | nil =>
      rw [e] at h1 h2
      refine ⟨?_, ?_, fun p hp => ?_⟩
      · rw [← List.drop_drop, ← h1]; rfl
      · rw [← List.drop_drop, ← h2]; rfl
      · have hp : p ∈ pstep (pendAt r k) := hp
        rw [e] at hp
        cases hp
    | cons x l =>
      rw [e] at h1 h2 h4
      refine ⟨?_, ?_, by show ∀ p ∈ pstep (pendAt r k), pgood p; rw [e]; exact h4⟩
      · rw [← List.drop_drop, ← h1, pstep_wds x l]; rfl
      · rw [← List.drop_drop, ← h2, pstep_szs x l]; rfl
theorem pwds_nil : ∀ {l : List Pd}, pwds l = [] → l = []
  | [], _ => rfl
  | x :: r, h => by rw [pstep_wds] at h; cases h
theorem rev_cons {α : Type} (x : α) (l : List α) : (x :: l).reverse = l.reverse ++ [x] := List.reverse_cons
theorem paired_split {α β : Type} {F : α → β → Prop} : ∀ {l : List α} {m : List β} {y : β}, Paired F l (m ++ [y]) → ∃ l' x, l = l' ++ [x] ∧ Paired F l' m ∧ F x y
  | _, [], _, .cons r .nil => ⟨[], _, rfl, .nil, r⟩
  | _, z :: m, y, .cons r t => by
    obtain ⟨l', x, e, h1, h2⟩ := paired_split t
    exact ⟨_ :: l', x, by rw [e]; rfl, .cons r h1, h2⟩

theorem ok_drawings {f : Addr} {fd : FuncData} {k : Nat} (F : Fun K "drawings" "drawings" s_drawings f fd) (m_reversed : mg "reversed" = none) (m_list : mg "list" = none) (m_zip : mg "zip" = none) {a_filled : Addr} {fd_filled : FuncData} (G_filled : FnOk P w K mg base CX0 k a_filled fd_filled ["size", "words"] (spFilled K)) (m_filled : mg "filled" = some (.ref a_filled)) (k_filled : PySem.W.keepIn K (.ref a_filled) = true) (b_filled : Binds K fd_filled ["size", "words"] []) {a_word_sizes : Addr} {fd_word_sizes : FuncData} (G_word_sizes : FnOk P w K mg base CX0 k a_word_sizes fd_word_sizes ["size", "words"] (spSizes K)) (m_word_sizes : mg "word_sizes" = some (.ref a_word_sizes)) (k_word_sizes : PySem.W.keepIn K (.ref a_word_sizes) = true) (b_word_sizes : Binds K fd_word_sizes ["size", "words"] []) {a__plain : Addr} {fd__plain : FuncData} (G__plain : FnOk P w K mg base CX0 k a__plain fd__plain ["size", "colour"] (spPlain K)) (m__plain : mg "_plain" = some (.ref a__plain)) (k__plain : PySem.W.keepIn K (.ref a__plain) = true) (b__plain : Binds K fd__plain ["size", "colour"] []) {a__joined : Addr} {fd__joined : FuncData} (G__joined : FnOk P w K mg base CX0 k a__joined fd__joined ["word", "first", "second"] (spJoined K)) (m__joined : mg "_joined" = some (.ref a__joined)) (k__joined : PySem.W.keepIn K (.ref a__joined) = true) (b__joined : Binds K fd__joined ["word", "first", "second"] []) {a_COLOURS : Addr} (m_COLOURS : mg "COLOURS" = some (.ref a_COLOURS)) (t_COLOURS : KT K a_COLOURS [.str "white", .str "yellow", .str "black", .str "blue", .str "green", .str "red"]) : FnOk P w K mg base CX0 (k + 1) f fd ["size", "words"] (spDrawings K) := by
  refine F.ok sc_drawings (fun vs H Q E h => ?_) (fun cdv A outer s H vs Q E hr h => ?_)
  · obtain ⟨ps, p, l, t, w, h, rfl, _⟩ := h; rfl
  refine ⟨_, (pss_cons (ps_set (i := 2) sc_drawings.nd rfl (.inl rfl) (pe_call G_filled hr (by rfl) m_filled k_filled b_filled .nil pass0 (pa_cons (pv 0) (pa_cons (pv 1) pa_nil))))
  (pss_cons (ps_set (i := 3) sc_drawings.nd rfl (.inl rfl) (pe_call G_word_sizes hr (by rfl) m_word_sizes k_word_sizes b_word_sizes .nil pass0 (pa_cons (pv 0) (pa_cons (pv 1) pa_nil))))
  (pss_cons (ps_set (i := 4) sc_drawings.nd rfl (.inl rfl) (pe_lst pa_nil))
  (pss_cons (ps_set (i := 5) sc_drawings.nd rfl (.inl rfl) (pe_lst pa_nil))
  (pss_cons (ps_for PassesOwn.never rfl (k_rev K (by rfl) m_reversed (k_listZip K rfl (by rfl) m_list (by rfl) m_zip (pa_cons (pv 3) (pa_cons (pv 2) pa_nil)))) (k_gtup K 2 rfl (pgs_cons (pg_name (i := 6) sc_drawings.nd rfl (.inl rfl)) (pgs_cons (pg_name (i := 7) sc_drawings.nd rfl (.inl rfl)) pgs_nil)))
    (pss_cons (ps_if (pt_cmpR (k_in K) (pv 7) (pe_glob (v := .ref a_COLOURS) rfl m_COLOURS rfl) (by rfl))
        (pss_one (ps_set (i := 8) sc_drawings.nd rfl (.inl rfl) (pe_call G__plain hr (by rfl) m__plain k__plain b__plain .nil pass0 (pa_cons (pv 6) (pa_cons (pv 7) pa_nil)))))
        (pss_cons (ps_set (i := 9) sc_drawings.nd rfl (.inl rfl) (k_bm0 K PySem.F.plainAttrs_list PySem.F.slot_list_pop PySem.F.type_list_pop mt_pop (pv 5)))
          (pss_cons (ps_set (i := 10) sc_drawings.nd rfl (.inl rfl) (k_bm0 K PySem.F.plainAttrs_list PySem.F.slot_list_pop PySem.F.type_list_pop mt_pop (pv 5)))
          (pss_one (ps_set (i := 8) sc_drawings.nd rfl (.inl rfl) (pe_call G__joined hr (by rfl) m__joined k__joined b__joined .nil pass0 (pa_cons (pv 7) (pa_cons (pv 9) (pa_cons (pv 10) pa_nil)))))))))
      (pss_cons (ps_expr (k_bm K PySem.F.plainAttrs_list PySem.F.slot_list_append PySem.F.type_list_append mt_append (pv 5) (pa_cons (pv 8) pa_nil)))
      (pss_one (ps_expr (k_bm K PySem.F.plainAttrs_list PySem.F.slot_list_append PySem.F.type_list_append mt_append (pv 4) (pa_cons (pv 8) pa_nil)))))))
  (pss_one (ps_ret (pe_revL (pv 4))))))))), ?_⟩
  obtain ⟨ps, p, l, t, w, h, rfl, hps, sw, sh, hp, hS, ok, few, q⟩ := h
  walk_at "rd"
  refine ⟨ps, p, l, t, w, h, rfl, hps, sw, sh, hp, hS, ok, few, fun F H1 s1 hF => ?_⟩
  walk_at "rd"
  refine ⟨ps, p, l, t, w, h, rfl, (imm_of_same s1).sqT hps, sw, sh, (imm_of_same s1).sqT hp, hS, ok, by omega, fun Z zs H2 s2 nZ eZ pz => ?_⟩
  walk_at "rd"
  rename_i D0 H30 nD0 s30 eD0 D H3 nD s31 eD
  have s3 := s30.trans s31
  have lz : zs.length = t.wds.length := by rw [paired_len pz, szs_len]
  have hw := wds_pos t
  refine ⟨Z, F, zs.map V.ref, ws t.wds, rfl, SqL.of (s3 _ _ eZ), (imm_of_same (s2.trans s3)).sqT hF, by simp [lz, ws_len], by simp [lz]; omega, by simp [lz]; omega, fun H4 L ts s4 nL eL lt hts => ?_⟩
  refine rIRevL (SqL.of eL) ?_
  rw [List.length_map] at lt
  have ltn : ts.length = t.wds.length := by omega
  have s03 := s1.trans (s2.trans s30)
  have nDH : H D = none := s03.free nD
  have nD0H : H D0 = none := (s1.trans s2).free nD0
  have pg : pgood ((w, h), t) := ⟨ok, sw, sh⟩
  have pf := pend_facts ((w, h), t) pg
  have s04 := s1.trans (s2.trans (s3.trans s4))
  have nLD : L ≠ D := (ne_of_none eD nL).symm
  have nLD0 : L ≠ D0 := (ne_of_none (s31 _ _ eD0) nL).symm
  have nDD : D0 ≠ D := ne_of_none eD0 nD
  have pz4 : Paired (SizeAt K H4) zs (t.szs w h) := Paired.mapP (F := SizeAt K H2) pz fun _ _ z => (imm_of_same (s3.trans s4)).sqT z
  refine for_revL (xs := ts.map V.ref) (fun i σ' H' => ∃ (rs us : List Addr) (o6 o7 o8 o9 o10 : Option V), σ' = [some (.ref ps), some (.ref p), some (.ref F), some (.ref Z), some (.ref D0), some (.ref D), o6, o7, o8, o9, o10] ∧ Imm H4 H' ∧ (∀ b o, b ≠ D → b ≠ D0 → H4 b = some o → H' b = some o) ∧ H' D = some (.lst (rs.map V.ref)) ∧ H' D0 = some (.lst (us.map V.ref)) ∧
    Paired (fun a rows => Drw K H' a rows) rs ((pendAt ((w, h), t) (t.wds.length - i)).map pgrid).reverse ∧ Paired (fun a rows => Drw K H' a rows) us ((List.range i).map fun j => wdraw ((w, h), t) (t.wds.length - 1 - j))) ⟨[], [], none, none, none, none, none, rfl, Imm.refl _, fun _ _ _ _ h => h, s4 _ _ eD, (s31.trans s4) _ _ eD0, ?_, .nil⟩ ?_ ?_ ?_
  · have e : pendAt ((w, h), t) (t.wds.length - 0) = [] := pwds_nil (by rw [(pf _).1, Nat.sub_zero]; exact List.drop_length)
    rw [e]
    exact .nil
  · rintro i _ H5 _ ⟨rs, us, o6, o7, o8, o9, o10, rfl, i5, c5, _⟩
    exact SqL.of (c5 _ _ nLD nLD0 eL)
  · rintro i v _ H5 hi hv ⟨rs, us, o6, o7, o8, o9, o10, rfl, i5, c5, e5, e50, pr, pu⟩
    rw [List.length_map, ltn] at hi hv
    obtain ⟨T, hT, rfl⟩ := ref_get hv
    obtain ⟨k, hk⟩ : ∃ k, t.wds.length - i = k + 1 := ⟨t.wds.length - 1 - i, by omega⟩
    have hk' : t.wds.length - 1 - i = k := by omega
    rw [hk'] at hT
    obtain ⟨vx, vy, gx, gy, eT⟩ := hts k T hT
    obtain ⟨z, hz, rfl⟩ := ref_get gx
    obtain ⟨word, hword, rfl⟩ := get_map gy
    obtain ⟨sz, hsz, hz4⟩ := paired_get pz4 hz
    rw [hk] at pr
    rw [show t.wds.length - (i + 1) = k by omega]
    obtain ⟨f1, f2, f3⟩ := pf k
    have lus : us.length = i := by rw [paired_len pu, List.length_map, List.length_range]
    cases epk : pendAt ((w, h), t) k with
    | nil =>
      rw [epk] at f1
      have : k < t.wds.length := by omega
      have e2 : (t.wds.drop k).length = 0 := by
        rw [show t.wds.drop k = pwds [] from f1.symm]; rfl
      rw [List.length_drop] at e2
      omega
    | cons pd r =>
    have ewd : wdraw ((w, h), t) (t.wds.length - 1 - i) = pgrid pd := by rw [hk']; unfold wdraw; rw [epk]
    have ew : word = pd.2.kw.s := by
      rw [epk, pstep_wds] at f1
      have e1 := congrArg (fun z => z[0]?) f1
      simp only [List.getElem?_cons_zero, List.getElem?_drop, Nat.add_zero] at e1
      rw [hword] at e1
      exact (Option.some.inj e1).symm
    have es : sz = pd.1 := by
      rw [epk, pstep_szs] at f2
      have e1 := congrArg (fun z => z[0]?) f2
      simp only [List.getElem?_cons_zero, List.getElem?_drop, Nat.add_zero] at e1
      rw [hsz] at e1
      exact (Option.some.inj e1).symm
    subst ew es
    have good := f3 pd (by rw [epk]; exact List.mem_cons_self)
    have pr : Paired (fun a rows => Drw K H5 a rows) rs ((pstep (pendAt ((w, h), t) k)).map pgrid).reverse := pr
    rw [epk] at pr
    have hT5 := i5.sqT (SqT.of (K := K) eT)
    have hz5 : SqT K H5 z [.int pd.1.1, .int pd.1.2] := i5.sqT hz4
    have lrs : rs.length ≤ 100000 := by
      have l1 := paired_len pr
      rw [List.length_reverse, List.length_map] at l1
      have l2 : ∀ l : List Pd, l.length ≤ (pwds l).length := by
        intro l
        induction l with
        | nil => exact Nat.le_refl _
        | cons y ys ih =>
          have := wds_pos y.2
          rw [pwds, List.length_cons, List.length_append]
          omega
      have l3 := l2 (pstep (pd :: r))
      have l4 : pwds (pstep (pd :: r)) = t.wds.drop (k + 1) := by
        have := (pf (k + 1)).1
        rw [show pendAt ((w, h), t) (k + 1) = pstep (pendAt ((w, h), t) k) from rfl, epk] at this
        exact this
      rw [l4, List.length_drop] at l3
      omega
    clear f1 f2 f3 hts gx gy hz4
    -- behind a word: its drawing is kept in both lists
    have last : ∀ (a : Addr) (H6 : Hp) (rs2 : List Addr) (r2 : List (List (List Co))) (p7 p9 p10 p6 : Option V), Imm H5 H6 → (∀ b o, b ≠ D → b ≠ D0 → H5 b = some o → H6 b = some o) → H6 D = some (.lst (rs2.map V.ref)) → H6 D0 = some (.lst (us.map V.ref)) →
        Drw K H6 a (pgrid pd) → Paired (fun a rows => Drw K H6 a rows) rs2 r2 → rs2.length ≤ 100000 → r2 ++ [pgrid pd] = ((pd :: r).map pgrid).reverse →
        ∀ (Dn : Ends), (∀ σ' H', (∃ (rs us : List Addr) (o6 o7 o8 o9 o10 : Option V), σ' = [some (.ref ps), some (.ref p), some (.ref F), some (.ref Z), some (.ref D0), some (.ref D), o6, o7, o8, o9, o10] ∧ Imm H4 H' ∧ (∀ b o, b ≠ D → b ≠ D0 → H4 b = some o → H' b = some o) ∧ H' D = some (.lst (rs.map V.ref)) ∧ H' D0 = some (.lst (us.map V.ref)) ∧
          Paired (fun a rows => Drw K H' a rows) rs ((pd :: r).map pgrid).reverse ∧ Paired (fun a rows => Drw K H' a rows) us ((List.range (i + 1)).map fun j => wdraw ((w, h), t) (t.wds.length - 1 - j))) → Dn.nx σ' H') →
        tSeq (tDrop (tBM K "list" rAppend (tVar 5) (tCons (tVar 8) tNil))) (tDrop (tBM K "list" rAppend (tVar 4) (tCons (tVar 8) tNil))) Dn [some (.ref ps), some (.ref p), some (.ref F), some (.ref Z), some (.ref D0), some (.ref D), p6, p7, some (.ref a), p9, p10] H6 := by
      intro a H6 rs2 r2 p7 p9 p10 p6 i6 c6 e6 e60 ha pr2 l2 er Dn hD
      walk_at "rd"
      refine rAppend_ e6 (lt_line (by rw [List.length_map]; exact l2)) fun H7 c7 e7 => ?_
      have e70 := c7.2 _ _ nDD e60
      walk_at "rd"
      refine rAppend_ e70 (lt_line (by rw [List.length_map, lus]; omega)) fun H8 c8 e8 => ?_
      have e80 := c8.2 _ _ nDD.symm e7
      have i68 := c7.1.trans c8.1
      refine hD _ _ ⟨rs2 ++ [a], us ++ [a], _, _, _, _, _, rfl, i5.trans (i6.trans i68), fun b o n1 n2 e => c8.2 b o n2 (c7.2 b o n1 (c6 b o n1 n2 (c5 b o n1 n2 e))), by rw [List.map_append]; exact e80, by rw [List.map_append]; exact e8, ?_, ?_⟩
      · rw [← er]
        exact paired_snoc (F := fun a rows => Drw K H8 a rows) (i68.drw ha) (Paired.mapP (F := fun a rows => Drw K H6 a rows) pr2 fun _ _ z => i68.drw z)
      · rw [range_snoc, ewd]
        exact paired_snoc (F := fun a rows => Drw K H8 a rows) (i68.drw ha) (Paired.mapP (F := fun a rows => Drw K H5 a rows) pu fun _ _ z => (i6.trans i68).drw z)
    obtain ⟨⟨w', h'⟩, t'⟩ := pd
    obtain ⟨ok', sw', sh'⟩ := good
    have hw8 : 1 ≤ w' ∧ w' ≤ 8 := side_le sw'
    have hh8 : 1 ≤ h' ∧ h' ≤ 8 := side_le sh'
    walk_at "rd"
    cases t' with
    | col c =>
      refine rT (inV_cols c) ?_
      walk_at "rd"
      refine ⟨z, c, w', h', rfl, hz5, by show w' ≤ 1000; omega, by show h' ≤ 1000; omega, fun a H6 s6 h6 => ?_⟩
      refine last a H6 rs _ _ _ _ _ (imm_of_same s6) (fun b o _ _ e => s6 b o e) (s6 _ _ e5) (s6 _ _ e50) h6 (Paired.mapP (F := fun a rows => Drw K H5 a rows) pr fun _ _ z => (imm_of_same s6).drw z) lrs ?_ _ fun σ' H' h => h
      rw [List.map_cons, rev_cons]
      rfl
    | two d a b =>
      have pr : Paired (fun a rows => Drw K H5 a rows) rs (((r.map pgrid).reverse ++ [pgrid ((d.pw w', d.ph h'), b)]) ++ [pgrid ((d.pw w', d.ph h'), a)]) := by
        have e : ((pstep (((w', h'), Tr.two d a b) :: r)).map pgrid).reverse = ((r.map pgrid).reverse ++ [pgrid ((d.pw w', d.ph h'), b)]) ++ [pgrid ((d.pw w', d.ph h'), a)] := by
          simp [pstep]
        rw [e] at pr
        exact pr
      obtain ⟨rs1, xa, rfl, pr, da⟩ := paired_split pr
      obtain ⟨rs2, xb, rfl, pr, db⟩ := paired_split pr
      rw [List.map_append, List.map_append] at e5
      refine rF (inV_cols_du d) ?_
      walk_at "rd"
      refine rPop_ e5 fun H6 c6 e6 => ?_
      walk_at "rd"
      refine rPop_ e6 fun H7 c7 e7 => ?_
      walk_at "rd"
      have c67 := c6.trans c7
      have e70 := c67.2 _ _ nDD e50
      have fit := ok'.1
      refine ⟨xa, xb, .d d, w', h', rfl, sw', sh', fit, _, _, c67.1.drw da, c67.1.drw db, fun a' H8 s8 h8 => ?_⟩
      refine last a' H8 rs2 _ _ _ _ _ (c67.1.trans (imm_of_same s8)) (fun b o n1 _ e => s8 _ _ (c67.2 b o n1 e)) (s8 _ _ e7) (s8 _ _ e70) h8 (Paired.mapP (F := fun a rows => Drw K H5 a rows) pr fun _ _ z => (c67.1.trans (imm_of_same s8)).drw z) (by simp at lrs; omega) ?_ _ fun σ' H' h => h
      rw [List.map_cons, rev_cons]
    | pc x c b =>
      have pr : Paired (fun a rows => Drw K H5 a rows) rs (((r.map pgrid).reverse ++ [pgrid ((w', h'), b)]) ++ [pgrid ((1, 1), .col c)]) := by
        have e : ((pstep (((w', h'), Tr.pc x c b) :: r)).map pgrid).reverse = ((r.map pgrid).reverse ++ [pgrid ((w', h'), b)]) ++ [pgrid ((1, 1), .col c)] := by
          simp [pstep]
        rw [e] at pr
        exact pr
      obtain ⟨rs1, xa, rfl, pr, da⟩ := paired_split pr
      obtain ⟨rs2, xb, rfl, pr, db⟩ := paired_split pr
      rw [List.map_append, List.map_append] at e5
      refine rF (inV_cols_pi x) ?_
      walk_at "rd"
      refine rPop_ e5 fun H6 c6 e6 => ?_
      walk_at "rd"
      refine rPop_ e6 fun H7 c7 e7 => ?_
      walk_at "rd"
      have c67 := c6.trans c7
      have e70 := c67.2 _ _ nDD e50
      have fit := ok'.1
      refine ⟨xa, xb, .p x, w', h', rfl, sw', sh', fit, c, _, c67.1.drw da, c67.1.drw db, fun a' H8 s8 h8 => ?_⟩
      refine last a' H8 rs2 _ _ _ _ _ (c67.1.trans (imm_of_same s8)) (fun b o n1 _ e => s8 _ _ (c67.2 b o n1 e)) (s8 _ _ e7) (s8 _ _ e70) h8 (Paired.mapP (F := fun a rows => Drw K H5 a rows) pr fun _ _ z => (c67.1.trans (imm_of_same s8)).drw z) (by simp at lrs; omega) ?_ _ fun σ' H' h => h
      rw [List.map_cons, rev_cons]
  · rintro _ H5 ⟨rs, us, o6, o7, o8, o9, o10, rfl, i5, c5, e5, e50, pr, pu⟩
    rw [List.length_map, ltn] at pu
    walk_at "rd"
    refine ⟨V.ref D0, rfl, D0, us.map V.ref, rfl, SqL.of e50, fun p n => ?_⟩
    have s0H : Same H H5 := fun b o e => c5 b o (ne_of_none e nDH) (ne_of_none e nD0H) (s04 b o e)
    refine q p us.reverse _ (s0H.trans (same_new n)) (s0H.free n) (by rw [upd_same, List.map_reverse]) ?_
    have e : ((List.range t.wds.length).map fun k => wdraw ((w, h), t) k) = ((List.range t.wds.length).map fun j => wdraw ((w, h), t) (t.wds.length - 1 - j)).reverse := by
      refine List.ext_getElem (by simp) fun i h1 h2 => ?_
      simp only [List.length_map, List.length_range] at h1
      simp only [List.getElem_reverse, List.getElem_map, List.getElem_range, List.length_map, List.length_range]
      rw [show t.wds.length - 1 - (t.wds.length - 1 - i) = i by omega]
    rw [e]
    exact paired_rev (Paired.mapP (F := fun a rows => Drw K H5 a rows) pu fun _ _ z => (imm_of_same (same_new n)).drw z)

/-! ### drawn -/
abbrev s_drawn : Stmt := topS 18
theorem sc_drawn : FnScope ["size", "words"] ["size", "words"] (defScope s_drawn) := ⟨rfl, rfl, rfl, by decide +kernel, rfl, by decide +kernel, by decide +kernel⟩
def spDrawn (K : PySem.W.Frag) : Sp := fun vs H Q _ => ∃ (ps p : Addr) (l : List Str) (t : Tr) (w h : Nat), vs = [.ref ps, .ref p] ∧ SqT K H ps [.int w, .int h] ∧ Side w ∧ Side h ∧ SqT K H p (ws l) ∧ Short t.wds l ∧ t.ok w h ∧ t.wds.length ≤ 1000 ∧
  ∀ (a : Addr) (H' : Hp), Same H H' → Drw K H' a (grid w h (t.cell w h)) → Q (.ref a) H'

theorem ok_drawn {f : Addr} {fd : FuncData} {k : Nat} (F : Fun K "drawn" "drawn" s_drawn f fd) {a_drawings : Addr} {fd_drawings : FuncData} (G_drawings : FnOk P w K mg base CX0 k a_drawings fd_drawings ["size", "words"] (spDrawings K)) (m_drawings : mg "drawings" = some (.ref a_drawings)) (k_drawings : PySem.W.keepIn K (.ref a_drawings) = true) (b_drawings : Binds K fd_drawings ["size", "words"] []) : FnOk P w K mg base CX0 (k + 1) f fd ["size", "words"] (spDrawn K) := by
  refine F.ok sc_drawn (fun vs H Q E h => ?_) (fun cdv A outer s H vs Q E hr h => ?_)
  · obtain ⟨ps, p, l, t, w, h, rfl, _⟩ := h; rfl
  refine ⟨_, (pss_one (ps_ret (pe_ix (k_ixL K) (pe_call G_drawings hr (by rfl) m_drawings k_drawings b_drawings .nil pass0 (pa_cons (pv 0) (pa_cons (pv 1) pa_nil))) pe_int (fun _ _ => rfl)))), ?_⟩
  obtain ⟨ps, p, l, t, w, h, rfl, hps, sw, sh, hp, hS, ok, few, q⟩ := h
  have hw := wds_pos t
  walk_at "rd"
  refine ⟨ps, p, l, t, w, h, rfl, hps, sw, sh, hp, hS, ok, few, fun D as H1 s1 nD eD pr => ?_⟩
  walk_at "rd"
  obtain ⟨n, hn⟩ : ∃ n, t.wds.length = n + 1 := ⟨t.wds.length - 1, by omega⟩
  rw [hn, List.range_succ_eq_map, List.map_cons] at pr
  cases pr with
  | @cons a _ as _ r0 pr =>
  exact rIxL_ (SqL.of eD) (atI_zero (x := V.ref a)) (q a H1 s1 r0)

/-! ### alike -/
abbrev s_alike : Stmt := topS 20
theorem sc_alike : FnScope ["size", "one", "other"] ["size", "one", "other"] (defScope s_alike) := ⟨rfl, rfl, rfl, by decide +kernel, rfl, by decide +kernel, by decide +kernel⟩
def spAlike (K : PySem.W.Frag) : Sp := fun vs H Q _ => ∃ (ps p1 p2 : Addr) (l1 l2 : List Str) (t1 t2 : Tr) (w h : Nat), vs = [.ref ps, .ref p1, .ref p2] ∧ SqT K H ps [.int w, .int h] ∧ Side w ∧ Side h ∧ SqT K H p1 (ws l1) ∧ Short t1.wds l1 ∧ t1.ok w h ∧ t1.wds.length ≤ 1000 ∧
  SqT K H p2 (ws l2) ∧ Short t2.wds l2 ∧ t2.ok w h ∧ t2.wds.length ≤ 1000 ∧ ∀ (H' : Hp), Same H H' → Q (.bl (decide (grid w h (t1.cell w h) = grid w h (t2.cell w h)))) H'

theorem ok_alike {f : Addr} {fd : FuncData} {k : Nat} (F : Fun K "alike" "alike" s_alike f fd) {a_drawn : Addr} {fd_drawn : FuncData} (G_drawn : FnOk P w K mg base CX0 k a_drawn fd_drawn ["size", "words"] (spDrawn K)) (m_drawn : mg "drawn" = some (.ref a_drawn)) (k_drawn : PySem.W.keepIn K (.ref a_drawn) = true) (b_drawn : Binds K fd_drawn ["size", "words"] []) : FnOk P w K mg base CX0 (k + 1) f fd ["size", "one", "other"] (spAlike K) := by
  refine F.ok sc_alike (fun vs H Q E h => ?_) (fun cdv A outer s H vs Q E hr h => ?_)
  · obtain ⟨ps, p1, p2, l1, l2, t1, t2, w, h, rfl, _⟩ := h; rfl
  refine ⟨_, (pss_one (ps_ret (pe_cmpR (k_eqD K rfl hr.units) (pe_call G_drawn hr (by rfl) m_drawn k_drawn b_drawn .nil pass0 (pa_cons (pv 0) (pa_cons (pv 1) pa_nil))) (pe_call G_drawn hr (by rfl) m_drawn k_drawn b_drawn .nil pass0 (pa_cons (pv 0) (pa_cons (pv 2) pa_nil))) (nomark _)))), ?_⟩
  obtain ⟨ps, p1, p2, l1, l2, t1, t2, w, h, rfl, hps, sw, sh, hp1, hS1, ok1, few1, hp2, hS2, ok2, few2, q⟩ := h
  walk_at "rd"
  refine ⟨ps, p1, l1, t1, w, h, rfl, hps, sw, sh, hp1, hS1, ok1, few1, fun a H1 s1 h1 => ?_⟩
  walk_at "rd"
  refine ⟨ps, p2, l2, t2, w, h, rfl, (imm_of_same s1).sqT hps, sw, sh, (imm_of_same s1).sqT hp2, hS2, ok2, few2, fun b H2 s2 h2 => ?_⟩
  refine rEqDrw (h1.same s2) h2 ?_
  exact q H2 (s1.trans s2)

/-! ### law -/
abbrev s_law : Stmt := topS 40
theorem sc_law : FnScope ["_law_script", "_law_row", "_law_turn", "_law_size_here", "_law_words", "_law_other_here", "_law_due", "_law_same"] ["_law_script"] (defScope s_law) := ⟨rfl, rfl, rfl, by decide +kernel, rfl, by decide +kernel, by decide +kernel⟩
theorem fewDs_map {α : Type} {f : α → PyData} (h : ∀ x, fewD (f x)) : ∀ l : List α, fewDs (l.map f)
  | [] => trivial
  | x :: l => ⟨h x, fewDs_map h l⟩
theorem fewDs_mem {α : Type} {f : α → PyData} : ∀ {l : List α}, (∀ x ∈ l, fewD (f x)) → fewDs (l.map f)
  | [], _ => trivial
  | x :: l, h => ⟨h x List.mem_cons_self, fewDs_mem fun y hy => h y (List.mem_cons_of_mem _ hy)⟩
theorem grid_fewD {w h : Nat} {f : Nat → Nat → Co} (hw : w ≤ 1000) (hh : h ≤ 1000) : fewD (dRows (grid w h f)) := by
  unfold dRows
  rw [fewD]
  refine ⟨by rw [List.length_map, grid_len]; omega, fewDs_mem fun r hr => ?_⟩
  unfold dRow
  rw [fewD]
  refine ⟨by rw [List.length_map, grid_row hr]; omega, fewDs_map (fun c => ?_) r⟩
  simp [fewD]
theorem dRows_depth (rows : List (List Co)) : (dRows rows).depth < 9 := by
  unfold dRows
  rw [PyData.depth]
  have := depth_map (n := 1) dRow_depth rows
  omega
theorem Short.cut {F l : List Str} {m : Nat} (h : Short F l) (hm : m ≤ l.length) (w : ∀ i, m ≤ i → i < l.length → l[i]? = some Co.white.s) : Short F (l.take m) := by
  obtain ⟨m0, hm0, rfl, hw⟩ := h
  rw [List.length_take] at hm w
  refine ⟨m, by omega, by rw [List.take_take, Nat.min_eq_left (by omega)], fun i h1 h2 => ?_⟩
  by_cases hi : i < m0
  · have := w i h1 (by omega)
    rw [List.getElem?_take, if_pos hi] at this
    exact this
  · exact hw i (by omega) h2
def spLaw (K : PySem.W.Frag) : Sp := fun vs H Q _ => ∃ (a : Addr) (ns : List Int), vs = [.ref a] ∧ SqF K H a (ns.map V.int) ∧ ns.length ≤ 63 ∧ ∀ H', Q (.bl true) H'

theorem ok_law {f : Addr} {fd : FuncData} {k : Nat} (F : Fun K "law" "law" s_law f fd) (m_range : mg "range" = none) {a__law_size : Addr} {fd__law_size : FuncData} (G__law_size : FnOk P w K mg base CX0 k a__law_size fd__law_size ["_law_row", "_law_most"] (spSize K)) (m__law_size : mg "_law_size" = some (.ref a__law_size)) (k__law_size : PySem.W.keepIn K (.ref a__law_size) = true) (b__law_size : Binds K fd__law_size ["_law_row", "_law_most"] []) {a__law_cut : Addr} {fd__law_cut : FuncData} (G__law_cut : FnOk P w K mg base CX0 k a__law_cut fd__law_cut ["_law_row", "_law_words"] (spCut K)) (m__law_cut : mg "_law_cut" = some (.ref a__law_cut)) (k__law_cut : PySem.W.keepIn K (.ref a__law_cut) = true) (b__law_cut : Binds K fd__law_cut ["_law_row", "_law_words"] []) {a__law_saying : Addr} {fd__law_saying : FuncData} (G__law_saying : FnOk P w K mg base CX0 k a__law_saying fd__law_saying ["_law_row", "_law_size_here", "_law_deep"] (spSaying K 9)) (m__law_saying : mg "_law_saying" = some (.ref a__law_saying)) (k__law_saying : PySem.W.keepIn K (.ref a__law_saying) = true) (b__law_saying : Binds K fd__law_saying ["_law_row", "_law_size_here", "_law_deep"] []) {a__law_taken : Addr} {fd__law_taken : FuncData} (G__law_taken : FnOk P w K mg base CX0 k a__law_taken fd__law_taken ["_law_row", "_law_many"] (spTaken K)) (m__law_taken : mg "_law_taken" = some (.ref a__law_taken)) (k__law_taken : PySem.W.keepIn K (.ref a__law_taken) = true) (b__law_taken : Binds K fd__law_taken ["_law_row", "_law_many"] []) {a__law_other : Addr} {fd__law_other : FuncData} (G__law_other : FnOk P w K mg base CX0 k a__law_other fd__law_other ["_law_row", "_law_words", "_law_size_here"] (spOther K)) (m__law_other : mg "_law_other" = some (.ref a__law_other)) (k__law_other : PySem.W.keepIn K (.ref a__law_other) = true) (b__law_other : Binds K fd__law_other ["_law_row", "_law_words", "_law_size_here"] []) {a__law_drawing : Addr} {fd__law_drawing : FuncData} (G__law_drawing : FnOk P w K mg base CX0 k a__law_drawing fd__law_drawing ["_law_words", "_law_size_here"] (spDrawing K)) (m__law_drawing : mg "_law_drawing" = some (.ref a__law_drawing)) (k__law_drawing : PySem.W.keepIn K (.ref a__law_drawing) = true) (b__law_drawing : Binds K fd__law_drawing ["_law_words", "_law_size_here"] []) {a__law_alike : Addr} {fd__law_alike : FuncData} (G__law_alike : FnOk P w K mg base CX0 k a__law_alike fd__law_alike ["_law_found", "_law_due"] (spLawAlike K 9)) (m__law_alike : mg "_law_alike" = some (.ref a__law_alike)) (k__law_alike : PySem.W.keepIn K (.ref a__law_alike) = true) (b__law_alike : Binds K fd__law_alike ["_law_found", "_law_due"] []) {a_drawn : Addr} {fd_drawn : FuncData} (G_drawn : FnOk P w K mg base CX0 k a_drawn fd_drawn ["size", "words"] (spDrawn K)) (m_drawn : mg "drawn" = some (.ref a_drawn)) (k_drawn : PySem.W.keepIn K (.ref a_drawn) = true) (b_drawn : Binds K fd_drawn ["size", "words"] []) {a_filled : Addr} {fd_filled : FuncData} (G_filled : FnOk P w K mg base CX0 k a_filled fd_filled ["size", "words"] (spFilled K)) (m_filled : mg "filled" = some (.ref a_filled)) (k_filled : PySem.W.keepIn K (.ref a_filled) = true) (b_filled : Binds K fd_filled ["size", "words"] []) {a_alike : Addr} {fd_alike : FuncData} (G_alike : FnOk P w K mg base CX0 k a_alike fd_alike ["size", "one", "other"] (spAlike K)) (m_alike : mg "alike" = some (.ref a_alike)) (k_alike : PySem.W.keepIn K (.ref a_alike) = true) (b_alike : Binds K fd_alike ["size", "one", "other"] []) : FnOk P w K mg base CX0 (k + 1) f fd ["_law_script"] (spLaw K) := by
  refine F.ok sc_law (fun vs H Q E h => ?_) (fun cdv A outer s H vs Q E hr h => ?_)
  · obtain ⟨a, ns, rfl, _⟩ := h; rfl
  refine ⟨_, (pss_cons (ps_set (i := 1) sc_law.nd rfl (.inl rfl) (pe_lst (pa_cons (pv 0) (pa_cons pe_int (pa_cons pe_int (pa_cons pe_int pa_nil))))))
  (pss_cons (ps_for PassesOwn.never rfl (pi_range1 rfl m_range (pa_cons pe_int pa_nil)) (pg_name (i := 2) sc_law.nd rfl (.inl rfl))
    (pss_cons (ps_set (i := 3) sc_law.nd rfl (.inl rfl) (pe_call G__law_size hr (by rfl) m__law_size k__law_size b__law_size .nil pass0 (pa_cons (pv 1) (pa_cons pe_int pa_nil))))
      (pss_cons (ps_set (i := 4) sc_law.nd rfl (.inl rfl) (pe_call G__law_cut hr (by rfl) m__law_cut k__law_cut b__law_cut .nil pass0 (pa_cons (pv 1) (pa_cons (pe_call G__law_saying hr (by rfl) m__law_saying k__law_saying b__law_saying .nil pass0 (pa_cons (pv 1) (pa_cons (pv 3) (pa_cons (pe_op op_add pe_int (pe_call G__law_taken hr (by rfl) m__law_taken k__law_taken b__law_taken .nil pass0 (pa_cons (pv 1) (pa_cons pe_int pa_nil)))) pa_nil)))) pa_nil))))
      (pss_cons (ps_set (i := 5) sc_law.nd rfl (.inl rfl) (pe_call G__law_cut hr (by rfl) m__law_cut k__law_cut b__law_cut .nil pass0 (pa_cons (pv 1) (pa_cons (pe_call G__law_other hr (by rfl) m__law_other k__law_other b__law_other .nil pass0 (pa_cons (pv 1) (pa_cons (pv 4) (pa_cons (pv 3) pa_nil)))) pa_nil))))
      (pss_cons (ps_set (i := 6) sc_law.nd rfl (.inl rfl) (pe_call G__law_drawing hr (by rfl) m__law_drawing k__law_drawing b__law_drawing .nil pass0 (pa_cons (pv 4) (pa_cons (pv 3) pa_nil))))
      (pss_cons (ps_if (PW.pt (pw_or (pt_not (pt_val (pe_call G__law_alike hr (by rfl) m__law_alike k__law_alike b__law_alike .nil pass0 (pa_cons (pe_call G_drawn hr (by rfl) m_drawn k_drawn b_drawn .nil pass0 (pa_cons (pv 3) (pa_cons (pv 4) pa_nil))) (pa_cons (pv 6) pa_nil))))) (pw_or1 (pt_not (pt_val (pe_call G__law_alike hr (by rfl) m__law_alike k__law_alike b__law_alike .nil pass0 (pa_cons (pe_call G_drawn hr (by rfl) m_drawn k_drawn b_drawn .nil pass0 (pa_cons (pv 3) (pa_cons (pe_call G_filled hr (by rfl) m_filled k_filled b_filled .nil pass0 (pa_cons (pv 3) (pa_cons (pv 4) pa_nil))) pa_nil))) (pa_cons (pv 6) pa_nil))))))))
        (pss_one (ps_ret pe_bl))
        pss_nil)
      (pss_cons (ps_set (i := 7) sc_law.nd rfl (.inl rfl) (pe_cmpR (k_eqD K rfl hr.units) (pv 6) (pe_call G__law_drawing hr (by rfl) m__law_drawing k__law_drawing b__law_drawing .nil pass0 (pa_cons (pv 5) (pa_cons (pv 3) pa_nil))) (nomark _)))
      (pss_one (ps_if (pt_not (pt_val (pe_call G__law_alike hr (by rfl) m__law_alike k__law_alike b__law_alike .nil pass0 (pa_cons (pe_lst (pa_cons (pe_call G_alike hr (by rfl) m_alike k_alike b_alike .nil pass0 (pa_cons (pv 3) (pa_cons (pv 4) (pa_cons (pv 5) pa_nil)))) (pa_cons (pe_call G_alike hr (by rfl) m_alike k_alike b_alike .nil pass0 (pa_cons (pv 3) (pa_cons (pe_call G_filled hr (by rfl) m_filled k_filled b_filled .nil pass0 (pa_cons (pv 3) (pa_cons (pv 5) pa_nil))) (pa_cons (pv 4) pa_nil)))) pa_nil))) (pa_cons (pe_lst (pa_cons (pv 7) (pa_cons (pv 7) pa_nil))) pa_nil)))))
        (pss_one (ps_ret pe_bl))
        pss_nil)))))))))
  (pss_one (ps_ret pe_bl)))), ?_⟩
  obtain ⟨a, ns, rfl, hS, hl, q⟩ := h
  walk_at "rd"
  rename_i r H1 nr s1 e1
  have R1 : Row K H1 r := ⟨a, ns, 0, 0, 0, e1, hS.same s1, by decide, by decide, by decide, by decide, by omega⟩
  refine rIRng1 (n := 4) (by decide) ?_
  refine for_range (lo := 0) (n := 4) (fun i σ' H' => ∃ (o2 o3 o4 o5 o6 o7 : Option V), σ' = [some (.ref a), some (.ref r), o2, o3, o4, o5, o6, o7] ∧ Row K H' r) ⟨none, none, none, none, none, none, rfl, R1⟩ ?_ ?_
  · rintro i _ H2 hi ⟨o2, o3, o4, o5, o6, o7, rfl, R2⟩
    walk_at "rd"
    refine ⟨r, 8, rfl, R2, by decide, fun w h ps H3 sw sh lw lh c3 R3 hps3 => ?_⟩
    walk_at "rd"
    refine ⟨r, 5, rfl, R3, by decide, by decide, fun k H4 k0 k1 c4 R4 => ?_⟩
    obtain ⟨k, rfl⟩ := Int.eq_ofNat_of_zero_le k0
    have hps4 := c4.1.sqT hps3
    walk_at "rd"
    refine ⟨r, ps, w, h, 1 + k, by rw [show ((1 + k : Nat) : Int) = 1 + (k : Int) by omega]; rfl, by omega, by decide, R4, hps4, sw, sh, fun t pt H5 ok lt c5 R5 ht => ?_⟩
    have lt2 : t.wds.length < 64 := Nat.lt_of_lt_of_le lt (Nat.pow_le_pow_right (by decide) (by omega : 1 + k + 1 ≤ 6))
    walk_at "rd"
    refine ⟨r, pt, t.wds, rfl, R5, ht, by omega, fun m p H6 hm hw c6 R6 hp6 => ?_⟩
    have hS1 := (Short.whole t.wds).cut hm hw
    have hps6 := c6.1.sqT (c5.1.sqT hps4)
    walk_at "rd"
    refine ⟨r, p, ps, _, t, w, h, rfl, R6, hp6, hS1, ok, by omega, hps6, sw, sh, fun po l2 t2 H7 c7 R7 ho hSo ok2 few2 => ?_⟩
    have ll2 : l2.length ≤ 502 := by
      obtain ⟨m', hm', rfl, _⟩ := hSo
      rw [List.length_take]
      omega
    walk_at "rd"
    refine ⟨r, po, l2, rfl, R7, ho, by omega, fun m2 p2 H8 hm2 hw2 c8 R8 hp8 => ?_⟩
    have hS2 := hSo.cut hm2 hw2
    have hpsA := c8.1.sqT (c7.1.sqT hps6)
    have hpA := c8.1.sqT (c7.1.sqT hp6)
    have l1 : (t.wds.take m).length ≤ 1000 := by rw [List.length_take]; omega
    have l3 : (l2.take m2).length ≤ 1000 := by rw [List.length_take]; omega
    have w8 := side_le sw
    have h8 := side_le sh
    clear hps3 hps4 hps6 hp6 ho ht R2 R3 R4 R5 R6 R7 c3 c4 c5 c6 c7 c8
    walk_at "rd"
    refine ⟨p, ps, _, t, w, h, rfl, hpA, by omega, hS1.seen, hpsA, sw, sh, ok, fun d1 H9 s9 g1 => ?_⟩
    have hpsB := (imm_of_same s9).sqT hpsA
    have hpB := (imm_of_same s9).sqT hpA
    walk_at "rd"
    refine ⟨ps, p, _, t, w, h, rfl, hpsB, sw, sh, hpB, hS1, ok, by omega, fun d2 H10 s10 g2 => ?_⟩
    walk_at "rd"
    have g1' := g1.same s10
    refine ⟨_, _, _, rfl, g2.dp, g1'.dp, grid_fewD (by omega) (by omega), dRows_depth _, by decide, fun H11 s11 => ?_⟩
    have s911 := s10.trans s11
    have hpsC := (imm_of_same s911).sqT hpsB
    have hpC := (imm_of_same s911).sqT hpB
    walk_at "rd"
    refine ⟨ps, p, _, t, w, h, rfl, hpsC, sw, sh, hpC, hS1, ok, by omega, fun pf H12 s12 hf => ?_⟩
    have hpsD := (imm_of_same s12).sqT hpsC
    walk_at "rd"
    refine ⟨ps, pf, t.wds, t, w, h, rfl, hpsD, sw, sh, hf, Short.whole _, ok, by omega, fun d3 H13 s13 g3 => ?_⟩
    walk_at "rd"
    have g1e := g1.same (s911.trans (s12.trans s13))
    refine ⟨_, _, _, rfl, g3.dp, g1e.dp, grid_fewD (by omega) (by omega), dRows_depth _, by decide, fun H14 s14 => ?_⟩
    have s1114 := s12.trans (s13.trans s14)
    have hpsE := (imm_of_same s1114).sqT hpsC
    have hpE := (imm_of_same s1114).sqT hpC
    have hoE := (imm_of_same (s9.trans (s911.trans s1114))).sqT hp8
    have R14 := R8.same (s9.trans (s911.trans s1114))
    have g1f := g1.same (s911.trans s1114)
    clear hpsA hpA hpsB hpB hpsC hpC hpsD hp8 hf g1 g2 g3 g1' g1e s9 s10 s11 s12 s13 s14 s911 s1114 R8
    walk_at "rd"
    refine ⟨p2, ps, _, t2, w, h, rfl, hoE, by omega, hS2.seen, hpsE, sw, sh, ok2, fun d4 H15 s15 g4 => ?_⟩
    refine rEqDrw (g1f.same s15) g4 ?_
    generalize hb : decide (grid w h (t.cell w h) = grid w h (t2.cell w h)) = b
    have hpsF := (imm_of_same s15).sqT hpsE
    have hpF := (imm_of_same s15).sqT hpE
    have hoF := (imm_of_same s15).sqT hoE
    walk_at "rd"
    refine ⟨ps, p, p2, _, _, t, t2, w, h, rfl, hpsF, sw, sh, hpF, hS1, ok, by omega, hoF, hS2, ok2, by omega, fun H16 s16 => ?_⟩
    rw [hb]
    have hpsG := (imm_of_same s16).sqT hpsF
    have hpG := (imm_of_same s16).sqT hpF
    have hoG := (imm_of_same s16).sqT hoF
    walk_at "rd"
    refine ⟨ps, p2, _, t2, w, h, rfl, hpsG, sw, sh, hoG, hS2, ok2, by omega, fun pf2 H17 s17 hf2 => ?_⟩
    walk_at "rd"
    refine ⟨ps, pf2, p, _, _, t2, t, w, h, rfl, (imm_of_same s17).sqT hpsG, sw, sh, hf2, Short.whole _, ok2, by omega, (imm_of_same s17).sqT hpG, hS1, ok, by omega, fun H18 s18 => ?_⟩
    have hb2 : decide (grid w h (t2.cell w h) = grid w h (t.cell w h)) = b := by
      rw [← hb]
      exact decide_eq_decide.mpr eq_comm
    rw [hb2]
    walk_at "rd"
    rename_i L1 H19 nL1 s19 eL1 L2 H20 nL2 s20 eL2
    have dp2 : ∀ {H : Hp} {L : Addr}, H L = some (.lst [.bl b, .bl b]) → Dp K H (.ref L) (.list [.bool b, .bool b]) := fun e => .lst (SqL.of e) (.cons (.bl b) (.cons (.bl b) .nil))
    refine ⟨_, _, _, rfl, dp2 (s20 _ _ eL1), dp2 eL2, ?_, ?_, by decide, fun H21 s21 => ?_⟩
    · simp [fewD, fewDs]
    · simp [PyData.depth, PyData.depthAll]
    walk_at "rd"
    exact ⟨_, _, _, _, _, _, rfl, R14.same (s15.trans (s16.trans (s17.trans (s18.trans (s19.trans (s20.trans s21))))))⟩
  · rintro _ H2 ⟨o2, o3, o4, o5, o6, o7, rfl, R2⟩
    walk_at "rd"
    exact q H2

end
set_option maxHeartbeats 0 in
theorem all_mk {P : Program} {w : World} {K : PySem.W.Frag} {h : Heap} {mg : Str → Option Value} {fa : Addr} (X : K.In h) (G : h.Ns mainGlobals mg) (hfa : mg "law" = some (.ref fa))
    {f__law_taken : Addr} {od__law_taken an__law_taken : Option Addr} {sl__law_taken : Array (Option Value)} {oc__law_taken kV__law_taken dc__law_taken pm__law_taken cd__law_taken ct__law_taken : Value}
    {f__law_size : Addr} {od__law_size an__law_size : Option Addr} {sl__law_size : Array (Option Value)} {oc__law_size kV__law_size dc__law_size pm__law_size cd__law_size ct__law_size : Value}
    {f__law_cut : Addr} {od__law_cut an__law_cut : Option Addr} {sl__law_cut : Array (Option Value)} {oc__law_cut kV__law_cut dc__law_cut pm__law_cut cd__law_cut ct__law_cut : Value}
    {f__law_fits : Addr} {od__law_fits an__law_fits : Option Addr} {sl__law_fits : Array (Option Value)} {oc__law_fits kV__law_fits dc__law_fits pm__law_fits cd__law_fits ct__law_fits : Value}
    {f__law_colour : Addr} {od__law_colour an__law_colour : Option Addr} {sl__law_colour : Array (Option Value)} {oc__law_colour kV__law_colour dc__law_colour pm__law_colour cd__law_colour ct__law_colour : Value}
    {f__law_part : Addr} {od__law_part an__law_part : Option Addr} {sl__law_part : Array (Option Value)} {oc__law_part kV__law_part dc__law_part pm__law_part cd__law_part ct__law_part : Value}
    {f__law_saying : Addr} {od__law_saying an__law_saying : Option Addr} {sl__law_saying : Array (Option Value)} {oc__law_saying kV__law_saying dc__law_saying pm__law_saying cd__law_saying ct__law_saying : Value}
    {f__law_is_own : Addr} {od__law_is_own an__law_is_own : Option Addr} {sl__law_is_own : Array (Option Value)} {oc__law_is_own kV__law_is_own dc__law_is_own pm__law_is_own cd__law_is_own ct__law_is_own : Value}
    {f__law_behind : Addr} {od__law_behind an__law_behind : Option Addr} {sl__law_behind : Array (Option Value)} {oc__law_behind kV__law_behind dc__law_behind pm__law_behind cd__law_behind ct__law_behind : Value}
    {f__law_cell : Addr} {od__law_cell an__law_cell : Option Addr} {sl__law_cell : Array (Option Value)} {oc__law_cell kV__law_cell dc__law_cell pm__law_cell cd__law_cell ct__law_cell : Value}
    {f__law_drawing : Addr} {od__law_drawing an__law_drawing : Option Addr} {sl__law_drawing : Array (Option Value)} {oc__law_drawing kV__law_drawing dc__law_drawing pm__law_drawing cd__law_drawing ct__law_drawing : Value}
    {f_need_size : Addr} {od_need_size an_need_size : Option Addr} {sl_need_size : Array (Option Value)} {oc_need_size kV_need_size dc_need_size pm_need_size cd_need_size ct_need_size : Value}
    {f_can_stand : Addr} {od_can_stand an_can_stand : Option Addr} {sl_can_stand : Array (Option Value)} {oc_can_stand kV_can_stand dc_can_stand pm_can_stand cd_can_stand ct_can_stand : Value}
    {f__sizes_behind : Addr} {od__sizes_behind an__sizes_behind : Option Addr} {sl__sizes_behind : Array (Option Value)} {oc__sizes_behind kV__sizes_behind dc__sizes_behind pm__sizes_behind cd__sizes_behind ct__sizes_behind : Value}
    {f_word_sizes : Addr} {od_word_sizes an_word_sizes : Option Addr} {sl_word_sizes : Array (Option Value)} {oc_word_sizes kV_word_sizes dc_word_sizes pm_word_sizes cd_word_sizes ct_word_sizes : Value}
    {f_filled : Addr} {od_filled an_filled : Option Addr} {sl_filled : Array (Option Value)} {oc_filled kV_filled dc_filled pm_filled cd_filled ct_filled : Value}
    {f__law_other : Addr} {od__law_other an__law_other : Option Addr} {sl__law_other : Array (Option Value)} {oc__law_other kV__law_other dc__law_other pm__law_other cd__law_other ct__law_other : Value}
    {f__law_alike : Addr} {od__law_alike an__law_alike : Option Addr} {sl__law_alike : Array (Option Value)} {oc__law_alike kV__law_alike dc__law_alike pm__law_alike cd__law_alike ct__law_alike : Value}
    {f__plain : Addr} {od__plain an__plain : Option Addr} {sl__plain : Array (Option Value)} {oc__plain kV__plain dc__plain pm__plain cd__plain ct__plain : Value}
    {f__beside : Addr} {od__beside an__beside : Option Addr} {sl__beside : Array (Option Value)} {oc__beside kV__beside dc__beside pm__beside cd__beside ct__beside : Value}
    {f__is_own : Addr} {od__is_own an__is_own : Option Addr} {sl__is_own : Array (Option Value)} {oc__is_own kV__is_own dc__is_own pm__is_own cd__is_own ct__is_own : Value}
    {f_overlaid : Addr} {od_overlaid an_overlaid : Option Addr} {sl_overlaid : Array (Option Value)} {oc_overlaid kV_overlaid dc_overlaid pm_overlaid cd_overlaid ct_overlaid : Value}
    {f__joined : Addr} {od__joined an__joined : Option Addr} {sl__joined : Array (Option Value)} {oc__joined kV__joined dc__joined pm__joined cd__joined ct__joined : Value}
    {f_drawings : Addr} {od_drawings an_drawings : Option Addr} {sl_drawings : Array (Option Value)} {oc_drawings kV_drawings dc_drawings pm_drawings cd_drawings ct_drawings : Value}
    {f_drawn : Addr} {od_drawn an_drawn : Option Addr} {sl_drawn : Array (Option Value)} {oc_drawn kV_drawn dc_drawn pm_drawn cd_drawn ct_drawn : Value}
    {f_alike : Addr} {od_alike an_alike : Option Addr} {sl_alike : Array (Option Value)} {oc_alike kV_alike dc_alike pm_alike cd_alike ct_alike : Value}
    {f_law : Addr} {od_law an_law : Option Addr} {sl_law : Array (Option Value)} {oc_law kV_law dc_law pm_law cd_law ct_law : Value}
    {f_SIDES : Addr} {n_SIDES : Nat}
    {d_SIDES : Option Addr} {sl_SIDES : Array (Option Value)} {tSIDES_0 tSIDES_1 tSIDES_2 tSIDES_3 : Tok}
    {f_COLOURS : Addr} {n_COLOURS : Nat}
    {d_COLOURS : Option Addr} {sl_COLOURS : Array (Option Value)} {tCOLOURS_0 tCOLOURS_1 tCOLOURS_2 tCOLOURS_3 tCOLOURS_4 tCOLOURS_5 : Tok}
    {f_LEAST : Addr} {n_LEAST : Nat}
    {es_LEAST : Array DictEntry}
    {f_LEAST_party : Addr} {n_LEAST_party : Nat} {d_LEAST_party : Option Addr} {sl_LEAST_party : Array (Option Value)} {tLEAST_party_0 tLEAST_party_1 : Tok}
    {f_LEAST_cut : Addr} {n_LEAST_cut : Nat} {d_LEAST_cut : Option Addr} {sl_LEAST_cut : Array (Option Value)} {tLEAST_cut_0 tLEAST_cut_1 : Tok}
    {f_LEAST_quartered : Addr} {n_LEAST_quartered : Nat} {d_LEAST_quartered : Option Addr} {sl_LEAST_quartered : Array (Option Value)} {tLEAST_quartered_0 tLEAST_quartered_1 : Tok}
    {f_LEAST_pillar : Addr} {n_LEAST_pillar : Nat} {d_LEAST_pillar : Option Addr} {sl_LEAST_pillar : Array (Option Value)} {tLEAST_pillar_0 tLEAST_pillar_1 : Tok}
    {f_LEAST_band : Addr} {n_LEAST_band : Nat} {d_LEAST_band : Option Addr} {sl_LEAST_band : Array (Option Value)} {tLEAST_band_0 tLEAST_band_1 : Tok}
    {f_LEAST_head : Addr} {n_LEAST_head : Nat} {d_LEAST_head : Option Addr} {sl_LEAST_head : Array (Option Value)} {tLEAST_head_0 tLEAST_head_1 : Tok}
    {f_LEAST_edge : Addr} {n_LEAST_edge : Nat} {d_LEAST_edge : Option Addr} {sl_LEAST_edge : Array (Option Value)} {tLEAST_edge_0 tLEAST_edge_1 : Tok}
    {f_PIECES : Addr} {n_PIECES : Nat}
    {d_PIECES : Option Addr} {sl_PIECES : Array (Option Value)} {tPIECES_0 tPIECES_1 tPIECES_2 tPIECES_3 : Tok}
    {f_CELL : Addr} {n_CELL : Nat}
    {d_CELL : Option Addr} {sl_CELL : Array (Option Value)} {tCELL_0 tCELL_1 : Tok}
    {t_WHITE : Tok}
    (a__law_taken : PySem.W.nsIn K mainGlobals "_law_taken" = some (some (.ref f__law_taken)))
    (l__law_taken : K.lookup f__law_taken = some ⟨oc__law_taken, od__law_taken, .func (PySem.W.fnOf "_law_taken" "_law_taken" (defArgs (topS 27)) (defBody (topS 27)) (defScope (topS 27)) .none kV__law_taken dc__law_taken pm__law_taken an__law_taken cd__law_taken ct__law_taken), sl__law_taken⟩)
    (c__law_taken : PySem.W.codeIn K cd__law_taken "_law_taken" = true)
    (k__law_taken : PySem.W.keepIn K (.ref f__law_taken) = true)
    (a__law_size : PySem.W.nsIn K mainGlobals "_law_size" = some (some (.ref f__law_size)))
    (l__law_size : K.lookup f__law_size = some ⟨oc__law_size, od__law_size, .func (PySem.W.fnOf "_law_size" "_law_size" (defArgs (topS 29)) (defBody (topS 29)) (defScope (topS 29)) .none kV__law_size dc__law_size pm__law_size an__law_size cd__law_size ct__law_size), sl__law_size⟩)
    (c__law_size : PySem.W.codeIn K cd__law_size "_law_size" = true)
    (k__law_size : PySem.W.keepIn K (.ref f__law_size) = true)
    (a__law_cut : PySem.W.nsIn K mainGlobals "_law_cut" = some (some (.ref f__law_cut)))
    (l__law_cut : K.lookup f__law_cut = some ⟨oc__law_cut, od__law_cut, .func (PySem.W.fnOf "_law_cut" "_law_cut" (defArgs (topS 34)) (defBody (topS 34)) (defScope (topS 34)) .none kV__law_cut dc__law_cut pm__law_cut an__law_cut cd__law_cut ct__law_cut), sl__law_cut⟩)
    (c__law_cut : PySem.W.codeIn K cd__law_cut "_law_cut" = true)
    (k__law_cut : PySem.W.keepIn K (.ref f__law_cut) = true)
    (a__law_fits : PySem.W.nsIn K mainGlobals "_law_fits" = some (some (.ref f__law_fits)))
    (l__law_fits : K.lookup f__law_fits = some ⟨oc__law_fits, od__law_fits, .func (PySem.W.fnOf "_law_fits" "_law_fits" (defArgs (topS 31)) (defBody (topS 31)) (defScope (topS 31)) .none kV__law_fits dc__law_fits pm__law_fits an__law_fits cd__law_fits ct__law_fits), sl__law_fits⟩)
    (c__law_fits : PySem.W.codeIn K cd__law_fits "_law_fits" = true)
    (k__law_fits : PySem.W.keepIn K (.ref f__law_fits) = true)
    (a__law_colour : PySem.W.nsIn K mainGlobals "_law_colour" = some (some (.ref f__law_colour)))
    (l__law_colour : K.lookup f__law_colour = some ⟨oc__law_colour, od__law_colour, .func (PySem.W.fnOf "_law_colour" "_law_colour" (defArgs (topS 30)) (defBody (topS 30)) (defScope (topS 30)) .none kV__law_colour dc__law_colour pm__law_colour an__law_colour cd__law_colour ct__law_colour), sl__law_colour⟩)
    (c__law_colour : PySem.W.codeIn K cd__law_colour "_law_colour" = true)
    (k__law_colour : PySem.W.keepIn K (.ref f__law_colour) = true)
    (a__law_part : PySem.W.nsIn K mainGlobals "_law_part" = some (some (.ref f__law_part)))
    (l__law_part : K.lookup f__law_part = some ⟨oc__law_part, od__law_part, .func (PySem.W.fnOf "_law_part" "_law_part" (defArgs (topS 32)) (defBody (topS 32)) (defScope (topS 32)) .none kV__law_part dc__law_part pm__law_part an__law_part cd__law_part ct__law_part), sl__law_part⟩)
    (c__law_part : PySem.W.codeIn K cd__law_part "_law_part" = true)
    (k__law_part : PySem.W.keepIn K (.ref f__law_part) = true)
    (a__law_saying : PySem.W.nsIn K mainGlobals "_law_saying" = some (some (.ref f__law_saying)))
    (l__law_saying : K.lookup f__law_saying = some ⟨oc__law_saying, od__law_saying, .func (PySem.W.fnOf "_law_saying" "_law_saying" (defArgs (topS 33)) (defBody (topS 33)) (defScope (topS 33)) .none kV__law_saying dc__law_saying pm__law_saying an__law_saying cd__law_saying ct__law_saying), sl__law_saying⟩)
    (c__law_saying : PySem.W.codeIn K cd__law_saying "_law_saying" = true)
    (k__law_saying : PySem.W.keepIn K (.ref f__law_saying) = true)
    (a__law_is_own : PySem.W.nsIn K mainGlobals "_law_is_own" = some (some (.ref f__law_is_own)))
    (l__law_is_own : K.lookup f__law_is_own = some ⟨oc__law_is_own, od__law_is_own, .func (PySem.W.fnOf "_law_is_own" "_law_is_own" (defArgs (topS 36)) (defBody (topS 36)) (defScope (topS 36)) .none kV__law_is_own dc__law_is_own pm__law_is_own an__law_is_own cd__law_is_own ct__law_is_own), sl__law_is_own⟩)
    (c__law_is_own : PySem.W.codeIn K cd__law_is_own "_law_is_own" = true)
    (k__law_is_own : PySem.W.keepIn K (.ref f__law_is_own) = true)
    (a__law_behind : PySem.W.nsIn K mainGlobals "_law_behind" = some (some (.ref f__law_behind)))
    (l__law_behind : K.lookup f__law_behind = some ⟨oc__law_behind, od__law_behind, .func (PySem.W.fnOf "_law_behind" "_law_behind" (defArgs (topS 35)) (defBody (topS 35)) (defScope (topS 35)) .none kV__law_behind dc__law_behind pm__law_behind an__law_behind cd__law_behind ct__law_behind), sl__law_behind⟩)
    (c__law_behind : PySem.W.codeIn K cd__law_behind "_law_behind" = true)
    (k__law_behind : PySem.W.keepIn K (.ref f__law_behind) = true)
    (a__law_cell : PySem.W.nsIn K mainGlobals "_law_cell" = some (some (.ref f__law_cell)))
    (l__law_cell : K.lookup f__law_cell = some ⟨oc__law_cell, od__law_cell, .func (PySem.W.fnOf "_law_cell" "_law_cell" (defArgs (topS 37)) (defBody (topS 37)) (defScope (topS 37)) .none kV__law_cell dc__law_cell pm__law_cell an__law_cell cd__law_cell ct__law_cell), sl__law_cell⟩)
    (c__law_cell : PySem.W.codeIn K cd__law_cell "_law_cell" = true)
    (k__law_cell : PySem.W.keepIn K (.ref f__law_cell) = true)
    (a__law_drawing : PySem.W.nsIn K mainGlobals "_law_drawing" = some (some (.ref f__law_drawing)))
    (l__law_drawing : K.lookup f__law_drawing = some ⟨oc__law_drawing, od__law_drawing, .func (PySem.W.fnOf "_law_drawing" "_law_drawing" (defArgs (topS 38)) (defBody (topS 38)) (defScope (topS 38)) .none kV__law_drawing dc__law_drawing pm__law_drawing an__law_drawing cd__law_drawing ct__law_drawing), sl__law_drawing⟩)
    (c__law_drawing : PySem.W.codeIn K cd__law_drawing "_law_drawing" = true)
    (k__law_drawing : PySem.W.keepIn K (.ref f__law_drawing) = true)
    (a_need_size : PySem.W.nsIn K mainGlobals "need_size" = some (some (.ref f_need_size)))
    (l_need_size : K.lookup f_need_size = some ⟨oc_need_size, od_need_size, .func (PySem.W.fnOf "need_size" "need_size" (defArgs (topS 8)) (defBody (topS 8)) (defScope (topS 8)) .none kV_need_size dc_need_size pm_need_size an_need_size cd_need_size ct_need_size), sl_need_size⟩)
    (c_need_size : PySem.W.codeIn K cd_need_size "need_size" = true)
    (k_need_size : PySem.W.keepIn K (.ref f_need_size) = true)
    (a_can_stand : PySem.W.nsIn K mainGlobals "can_stand" = some (some (.ref f_can_stand)))
    (l_can_stand : K.lookup f_can_stand = some ⟨oc_can_stand, od_can_stand, .func (PySem.W.fnOf "can_stand" "can_stand" (defArgs (topS 15)) (defBody (topS 15)) (defScope (topS 15)) .none kV_can_stand dc_can_stand pm_can_stand an_can_stand cd_can_stand ct_can_stand), sl_can_stand⟩)
    (c_can_stand : PySem.W.codeIn K cd_can_stand "can_stand" = true)
    (k_can_stand : PySem.W.keepIn K (.ref f_can_stand) = true)
    (a__sizes_behind : PySem.W.nsIn K mainGlobals "_sizes_behind" = some (some (.ref f__sizes_behind)))
    (l__sizes_behind : K.lookup f__sizes_behind = some ⟨oc__sizes_behind, od__sizes_behind, .func (PySem.W.fnOf "_sizes_behind" "_sizes_behind" (defArgs (topS 16)) (defBody (topS 16)) (defScope (topS 16)) .none kV__sizes_behind dc__sizes_behind pm__sizes_behind an__sizes_behind cd__sizes_behind ct__sizes_behind), sl__sizes_behind⟩)
    (c__sizes_behind : PySem.W.codeIn K cd__sizes_behind "_sizes_behind" = true)
    (k__sizes_behind : PySem.W.keepIn K (.ref f__sizes_behind) = true)
    (a_word_sizes : PySem.W.nsIn K mainGlobals "word_sizes" = some (some (.ref f_word_sizes)))
    (l_word_sizes : K.lookup f_word_sizes = some ⟨oc_word_sizes, od_word_sizes, .func (PySem.W.fnOf "word_sizes" "word_sizes" (defArgs (topS 14)) (defBody (topS 14)) (defScope (topS 14)) .none kV_word_sizes dc_word_sizes pm_word_sizes an_word_sizes cd_word_sizes ct_word_sizes), sl_word_sizes⟩)
    (c_word_sizes : PySem.W.codeIn K cd_word_sizes "word_sizes" = true)
    (k_word_sizes : PySem.W.keepIn K (.ref f_word_sizes) = true)
    (a_filled : PySem.W.nsIn K mainGlobals "filled" = some (some (.ref f_filled)))
    (l_filled : K.lookup f_filled = some ⟨oc_filled, od_filled, .func (PySem.W.fnOf "filled" "filled" (defArgs (topS 13)) (defBody (topS 13)) (defScope (topS 13)) .none kV_filled dc_filled pm_filled an_filled cd_filled ct_filled), sl_filled⟩)
    (c_filled : PySem.W.codeIn K cd_filled "filled" = true)
    (k_filled : PySem.W.keepIn K (.ref f_filled) = true)
    (a__law_other : PySem.W.nsIn K mainGlobals "_law_other" = some (some (.ref f__law_other)))
    (l__law_other : K.lookup f__law_other = some ⟨oc__law_other, od__law_other, .func (PySem.W.fnOf "_law_other" "_law_other" (defArgs (topS 39)) (defBody (topS 39)) (defScope (topS 39)) .none kV__law_other dc__law_other pm__law_other an__law_other cd__law_other ct__law_other), sl__law_other⟩)
    (c__law_other : PySem.W.codeIn K cd__law_other "_law_other" = true)
    (k__law_other : PySem.W.keepIn K (.ref f__law_other) = true)
    (a__law_alike : PySem.W.nsIn K mainGlobals "_law_alike" = some (some (.ref f__law_alike)))
    (l__law_alike : K.lookup f__law_alike = some ⟨oc__law_alike, od__law_alike, .func (PySem.W.fnOf "_law_alike" "_law_alike" (defArgs (topS 28)) (defBody (topS 28)) (defScope (topS 28)) .none kV__law_alike dc__law_alike pm__law_alike an__law_alike cd__law_alike ct__law_alike), sl__law_alike⟩)
    (c__law_alike : PySem.W.codeIn K cd__law_alike "_law_alike" = true)
    (k__law_alike : PySem.W.keepIn K (.ref f__law_alike) = true)
    (a__plain : PySem.W.nsIn K mainGlobals "_plain" = some (some (.ref f__plain)))
    (l__plain : K.lookup f__plain = some ⟨oc__plain, od__plain, .func (PySem.W.fnOf "_plain" "_plain" (defArgs (topS 23)) (defBody (topS 23)) (defScope (topS 23)) .none kV__plain dc__plain pm__plain an__plain cd__plain ct__plain), sl__plain⟩)
    (c__plain : PySem.W.codeIn K cd__plain "_plain" = true)
    (k__plain : PySem.W.keepIn K (.ref f__plain) = true)
    (a__beside : PySem.W.nsIn K mainGlobals "_beside" = some (some (.ref f__beside)))
    (l__beside : K.lookup f__beside = some ⟨oc__beside, od__beside, .func (PySem.W.fnOf "_beside" "_beside" (defArgs (topS 25)) (defBody (topS 25)) (defScope (topS 25)) .none kV__beside dc__beside pm__beside an__beside cd__beside ct__beside), sl__beside⟩)
    (c__beside : PySem.W.codeIn K cd__beside "_beside" = true)
    (k__beside : PySem.W.keepIn K (.ref f__beside) = true)
    (a__is_own : PySem.W.nsIn K mainGlobals "_is_own" = some (some (.ref f__is_own)))
    (l__is_own : K.lookup f__is_own = some ⟨oc__is_own, od__is_own, .func (PySem.W.fnOf "_is_own" "_is_own" (defArgs (topS 22)) (defBody (topS 22)) (defScope (topS 22)) .none kV__is_own dc__is_own pm__is_own an__is_own cd__is_own ct__is_own), sl__is_own⟩)
    (c__is_own : PySem.W.codeIn K cd__is_own "_is_own" = true)
    (k__is_own : PySem.W.keepIn K (.ref f__is_own) = true)
    (a_overlaid : PySem.W.nsIn K mainGlobals "overlaid" = some (some (.ref f_overlaid)))
    (l_overlaid : K.lookup f_overlaid = some ⟨oc_overlaid, od_overlaid, .func (PySem.W.fnOf "overlaid" "overlaid" (defArgs (topS 21)) (defBody (topS 21)) (defScope (topS 21)) .none kV_overlaid dc_overlaid pm_overlaid an_overlaid cd_overlaid ct_overlaid), sl_overlaid⟩)
    (c_overlaid : PySem.W.codeIn K cd_overlaid "overlaid" = true)
    (k_overlaid : PySem.W.keepIn K (.ref f_overlaid) = true)
    (a__joined : PySem.W.nsIn K mainGlobals "_joined" = some (some (.ref f__joined)))
    (l__joined : K.lookup f__joined = some ⟨oc__joined, od__joined, .func (PySem.W.fnOf "_joined" "_joined" (defArgs (topS 24)) (defBody (topS 24)) (defScope (topS 24)) .none kV__joined dc__joined pm__joined an__joined cd__joined ct__joined), sl__joined⟩)
    (c__joined : PySem.W.codeIn K cd__joined "_joined" = true)
    (k__joined : PySem.W.keepIn K (.ref f__joined) = true)
    (a_drawings : PySem.W.nsIn K mainGlobals "drawings" = some (some (.ref f_drawings)))
    (l_drawings : K.lookup f_drawings = some ⟨oc_drawings, od_drawings, .func (PySem.W.fnOf "drawings" "drawings" (defArgs (topS 19)) (defBody (topS 19)) (defScope (topS 19)) .none kV_drawings dc_drawings pm_drawings an_drawings cd_drawings ct_drawings), sl_drawings⟩)
    (c_drawings : PySem.W.codeIn K cd_drawings "drawings" = true)
    (k_drawings : PySem.W.keepIn K (.ref f_drawings) = true)
    (a_drawn : PySem.W.nsIn K mainGlobals "drawn" = some (some (.ref f_drawn)))
    (l_drawn : K.lookup f_drawn = some ⟨oc_drawn, od_drawn, .func (PySem.W.fnOf "drawn" "drawn" (defArgs (topS 18)) (defBody (topS 18)) (defScope (topS 18)) .none kV_drawn dc_drawn pm_drawn an_drawn cd_drawn ct_drawn), sl_drawn⟩)
    (c_drawn : PySem.W.codeIn K cd_drawn "drawn" = true)
    (k_drawn : PySem.W.keepIn K (.ref f_drawn) = true)
    (a_alike : PySem.W.nsIn K mainGlobals "alike" = some (some (.ref f_alike)))
    (l_alike : K.lookup f_alike = some ⟨oc_alike, od_alike, .func (PySem.W.fnOf "alike" "alike" (defArgs (topS 20)) (defBody (topS 20)) (defScope (topS 20)) .none kV_alike dc_alike pm_alike an_alike cd_alike ct_alike), sl_alike⟩)
    (c_alike : PySem.W.codeIn K cd_alike "alike" = true)
    (k_alike : PySem.W.keepIn K (.ref f_alike) = true)
    (a_law : PySem.W.nsIn K mainGlobals "law" = some (some (.ref f_law)))
    (l_law : K.lookup f_law = some ⟨oc_law, od_law, .func (PySem.W.fnOf "law" "law" (defArgs (topS 40)) (defBody (topS 40)) (defScope (topS 40)) .none kV_law dc_law pm_law an_law cd_law ct_law), sl_law⟩)
    (c_law : PySem.W.codeIn K cd_law "law" = true)
    (k_law : PySem.W.keepIn K (.ref f_law) = true)
    (z_len : PySem.W.nsIn K mainGlobals "len" = some none)
    (z_int : PySem.W.nsIn K mainGlobals "int" = some none)
    (z_abs : PySem.W.nsIn K mainGlobals "abs" = some none)
    (z_min : PySem.W.nsIn K mainGlobals "min" = some none)
    (z_range : PySem.W.nsIn K mainGlobals "range" = some none)
    (z_tuple : PySem.W.nsIn K mainGlobals "tuple" = some none)
    (z_enumerate : PySem.W.nsIn K mainGlobals "enumerate" = some none)
    (z_isinstance : PySem.W.nsIn K mainGlobals "isinstance" = some none)
    (z_list : PySem.W.nsIn K mainGlobals "list" = some none)
    (z_bool : PySem.W.nsIn K mainGlobals "bool" = some none)
    (z_str : PySem.W.nsIn K mainGlobals "str" = some none)
    (z_zip : PySem.W.nsIn K mainGlobals "zip" = some none)
    (z_reversed : PySem.W.nsIn K mainGlobals "reversed" = some none)
    (a_SIDES : PySem.W.nsIn K mainGlobals "SIDES" = some (some (.ref f_SIDES)))
    (l_SIDES : K.lookup f_SIDES = some ⟨.type "tuple", d_SIDES, .seq #[.int 1 tSIDES_0, .int 2 tSIDES_1, .int 4 tSIDES_2, .int 8 tSIDES_3] n_SIDES, sl_SIDES⟩)
    (a_COLOURS : PySem.W.nsIn K mainGlobals "COLOURS" = some (some (.ref f_COLOURS)))
    (l_COLOURS : K.lookup f_COLOURS = some ⟨.type "tuple", d_COLOURS, .seq #[.str "white" tCOLOURS_0, .str "yellow" tCOLOURS_1, .str "black" tCOLOURS_2, .str "blue" tCOLOURS_3, .str "green" tCOLOURS_4, .str "red" tCOLOURS_5] n_COLOURS, sl_COLOURS⟩)
    (a_LEAST : PySem.W.nsIn K mainGlobals "LEAST" = some (some (.ref f_LEAST)))
    (l_LEAST : K.lookup f_LEAST = some ⟨.type "dict", none, .dict es_LEAST n_LEAST, #[]⟩)
    (y_LEAST : PySem.W.KeysLit w.params es_LEAST.toList)
    (v_LEAST : (f_LEAST == sysModules) = false)
    (e_LEAST_party : PySem.W.nsIn K f_LEAST "party" = some (some (.ref f_LEAST_party)))
    (l_LEAST_party : K.lookup f_LEAST_party = some ⟨.type "tuple", d_LEAST_party, .seq #[.int 2 tLEAST_party_0, .int 1 tLEAST_party_1] n_LEAST_party, sl_LEAST_party⟩)
    (e_LEAST_cut : PySem.W.nsIn K f_LEAST "cut" = some (some (.ref f_LEAST_cut)))
    (l_LEAST_cut : K.lookup f_LEAST_cut = some ⟨.type "tuple", d_LEAST_cut, .seq #[.int 1 tLEAST_cut_0, .int 2 tLEAST_cut_1] n_LEAST_cut, sl_LEAST_cut⟩)
    (e_LEAST_quartered : PySem.W.nsIn K f_LEAST "quartered" = some (some (.ref f_LEAST_quartered)))
    (l_LEAST_quartered : K.lookup f_LEAST_quartered = some ⟨.type "tuple", d_LEAST_quartered, .seq #[.int 2 tLEAST_quartered_0, .int 2 tLEAST_quartered_1] n_LEAST_quartered, sl_LEAST_quartered⟩)
    (e_LEAST_pillar : PySem.W.nsIn K f_LEAST "pillar" = some (some (.ref f_LEAST_pillar)))
    (l_LEAST_pillar : K.lookup f_LEAST_pillar = some ⟨.type "tuple", d_LEAST_pillar, .seq #[.int 4 tLEAST_pillar_0, .int 1 tLEAST_pillar_1] n_LEAST_pillar, sl_LEAST_pillar⟩)
    (e_LEAST_band : PySem.W.nsIn K f_LEAST "band" = some (some (.ref f_LEAST_band)))
    (l_LEAST_band : K.lookup f_LEAST_band = some ⟨.type "tuple", d_LEAST_band, .seq #[.int 1 tLEAST_band_0, .int 4 tLEAST_band_1] n_LEAST_band, sl_LEAST_band⟩)
    (e_LEAST_head : PySem.W.nsIn K f_LEAST "head" = some (some (.ref f_LEAST_head)))
    (l_LEAST_head : K.lookup f_LEAST_head = some ⟨.type "tuple", d_LEAST_head, .seq #[.int 1 tLEAST_head_0, .int 4 tLEAST_head_1] n_LEAST_head, sl_LEAST_head⟩)
    (e_LEAST_edge : PySem.W.nsIn K f_LEAST "edge" = some (some (.ref f_LEAST_edge)))
    (l_LEAST_edge : K.lookup f_LEAST_edge = some ⟨.type "tuple", d_LEAST_edge, .seq #[.int 4 tLEAST_edge_0, .int 4 tLEAST_edge_1] n_LEAST_edge, sl_LEAST_edge⟩)
    (a_PIECES : PySem.W.nsIn K mainGlobals "PIECES" = some (some (.ref f_PIECES)))
    (l_PIECES : K.lookup f_PIECES = some ⟨.type "tuple", d_PIECES, .seq #[.str "pillar" tPIECES_0, .str "band" tPIECES_1, .str "head" tPIECES_2, .str "edge" tPIECES_3] n_PIECES, sl_PIECES⟩)
    (a_CELL : PySem.W.nsIn K mainGlobals "CELL" = some (some (.ref f_CELL)))
    (l_CELL : K.lookup f_CELL = some ⟨.type "tuple", d_CELL, .seq #[.int 1 tCELL_0, .int 1 tCELL_1] n_CELL, sl_CELL⟩)
    (a_WHITE : PySem.W.nsIn K mainGlobals "WHITE" = some (some (.str "white" t_WHITE)))
    : ∃ fd : FuncData, (∀ (s : Shared) (v : Value), BindsTo s fd ⟨[v], []⟩ [("_law_script", v)]) ∧ ∀ base : Heap, K.In base → base.Ns mainGlobals mg → FnOk P w K mg base CX0 43 fa fd ["_law_script"] (spLaw K) := by
  have F__law_taken : Fun K "_law_taken" "_law_taken" s__law_taken f__law_taken _ := fun_mk l__law_taken c__law_taken k__law_taken
  have b__law_taken := F__law_taken.binds (ps := ["_law_row", "_law_many"]) fun _ _ _ _ _ _ us hl => match us, hl with | [_, _], _ => rfl
  have m__law_taken := PySem.W.mg_of X G a__law_taken
  have F__law_size : Fun K "_law_size" "_law_size" s__law_size f__law_size _ := fun_mk l__law_size c__law_size k__law_size
  have b__law_size := F__law_size.binds (ps := ["_law_row", "_law_most"]) fun _ _ _ _ _ _ us hl => match us, hl with | [_, _], _ => rfl
  have m__law_size := PySem.W.mg_of X G a__law_size
  have F__law_cut : Fun K "_law_cut" "_law_cut" s__law_cut f__law_cut _ := fun_mk l__law_cut c__law_cut k__law_cut
  have b__law_cut := F__law_cut.binds (ps := ["_law_row", "_law_words"]) fun _ _ _ _ _ _ us hl => match us, hl with | [_, _], _ => rfl
  have m__law_cut := PySem.W.mg_of X G a__law_cut
  have F__law_fits : Fun K "_law_fits" "_law_fits" s__law_fits f__law_fits _ := fun_mk l__law_fits c__law_fits k__law_fits
  have b__law_fits := F__law_fits.binds (ps := ["_law_size_here", "_law_word"]) fun _ _ _ _ _ _ us hl => match us, hl with | [_, _], _ => rfl
  have m__law_fits := PySem.W.mg_of X G a__law_fits
  have F__law_colour : Fun K "_law_colour" "_law_colour" s__law_colour f__law_colour _ := fun_mk l__law_colour c__law_colour k__law_colour
  have b__law_colour := F__law_colour.binds (ps := ["_law_row"]) fun _ _ _ _ _ _ us hl => match us, hl with | [_], _ => rfl
  have m__law_colour := PySem.W.mg_of X G a__law_colour
  have F__law_part : Fun K "_law_part" "_law_part" s__law_part f__law_part _ := fun_mk l__law_part c__law_part k__law_part
  have b__law_part := F__law_part.binds (ps := ["_law_size_here", "_law_word"]) fun _ _ _ _ _ _ us hl => match us, hl with | [_, _], _ => rfl
  have m__law_part := PySem.W.mg_of X G a__law_part
  have F__law_saying : Fun K "_law_saying" "_law_saying" s__law_saying f__law_saying _ := fun_mk l__law_saying c__law_saying k__law_saying
  have b__law_saying := F__law_saying.binds (ps := ["_law_row", "_law_size_here", "_law_deep"]) fun _ _ _ _ _ _ us hl => match us, hl with | [_, _, _], _ => rfl
  have m__law_saying := PySem.W.mg_of X G a__law_saying
  have F__law_is_own : Fun K "_law_is_own" "_law_is_own" s__law_is_own f__law_is_own _ := fun_mk l__law_is_own c__law_is_own k__law_is_own
  have b__law_is_own := F__law_is_own.binds (ps := ["_law_size_here", "_law_piece", "_law_row", "_law_column"]) fun _ _ _ _ _ _ us hl => match us, hl with | [_, _, _, _], _ => rfl
  have m__law_is_own := PySem.W.mg_of X G a__law_is_own
  have F__law_behind : Fun K "_law_behind" "_law_behind" s__law_behind f__law_behind _ := fun_mk l__law_behind c__law_behind k__law_behind
  have b__law_behind := F__law_behind.binds (ps := ["_law_words", "_law_at"]) fun _ _ _ _ _ _ us hl => match us, hl with | [_, _], _ => rfl
  have m__law_behind := PySem.W.mg_of X G a__law_behind
  have F__law_cell : Fun K "_law_cell" "_law_cell" s__law_cell f__law_cell _ := fun_mk l__law_cell c__law_cell k__law_cell
  have b__law_cell := F__law_cell.binds (ps := ["_law_words", "_law_at", "_law_size_here", "_law_row", "_law_column"]) fun _ _ _ _ _ _ us hl => match us, hl with | [_, _, _, _, _], _ => rfl
  have m__law_cell := PySem.W.mg_of X G a__law_cell
  have F__law_drawing : Fun K "_law_drawing" "_law_drawing" s__law_drawing f__law_drawing _ := fun_mk l__law_drawing c__law_drawing k__law_drawing
  have b__law_drawing := F__law_drawing.binds (ps := ["_law_words", "_law_size_here"]) fun _ _ _ _ _ _ us hl => match us, hl with | [_, _], _ => rfl
  have m__law_drawing := PySem.W.mg_of X G a__law_drawing
  have F_need_size : Fun K "need_size" "need_size" s_need_size f_need_size _ := fun_mk l_need_size c_need_size k_need_size
  have b_need_size := F_need_size.binds (ps := ["size"]) fun _ _ _ _ _ _ us hl => match us, hl with | [_], _ => rfl
  have m_need_size := PySem.W.mg_of X G a_need_size
  have F_can_stand : Fun K "can_stand" "can_stand" s_can_stand f_can_stand _ := fun_mk l_can_stand c_can_stand k_can_stand
  have b_can_stand := F_can_stand.binds (ps := ["size", "word"]) fun _ _ _ _ _ _ us hl => match us, hl with | [_, _], _ => rfl
  have m_can_stand := PySem.W.mg_of X G a_can_stand
  have F__sizes_behind : Fun K "_sizes_behind" "_sizes_behind" s__sizes_behind f__sizes_behind _ := fun_mk l__sizes_behind c__sizes_behind k__sizes_behind
  have b__sizes_behind := F__sizes_behind.binds (ps := ["size", "word"]) fun _ _ _ _ _ _ us hl => match us, hl with | [_, _], _ => rfl
  have m__sizes_behind := PySem.W.mg_of X G a__sizes_behind
  have F_word_sizes : Fun K "word_sizes" "word_sizes" s_word_sizes f_word_sizes _ := fun_mk l_word_sizes c_word_sizes k_word_sizes
  have b_word_sizes := F_word_sizes.binds (ps := ["size", "words"]) fun _ _ _ _ _ _ us hl => match us, hl with | [_, _], _ => rfl
  have m_word_sizes := PySem.W.mg_of X G a_word_sizes
  have F_filled : Fun K "filled" "filled" s_filled f_filled _ := fun_mk l_filled c_filled k_filled
  have b_filled := F_filled.binds (ps := ["size", "words"]) fun _ _ _ _ _ _ us hl => match us, hl with | [_, _], _ => rfl
  have m_filled := PySem.W.mg_of X G a_filled
  have F__law_other : Fun K "_law_other" "_law_other" s__law_other f__law_other _ := fun_mk l__law_other c__law_other k__law_other
  have b__law_other := F__law_other.binds (ps := ["_law_row", "_law_words", "_law_size_here"]) fun _ _ _ _ _ _ us hl => match us, hl with | [_, _, _], _ => rfl
  have m__law_other := PySem.W.mg_of X G a__law_other
  have F__law_alike : Fun K "_law_alike" "_law_alike" s__law_alike f__law_alike _ := fun_mk l__law_alike c__law_alike k__law_alike
  have b__law_alike := F__law_alike.binds (ps := ["_law_found", "_law_due"]) fun _ _ _ _ _ _ us hl => match us, hl with | [_, _], _ => rfl
  have m__law_alike := PySem.W.mg_of X G a__law_alike
  have F__plain : Fun K "_plain" "_plain" s__plain f__plain _ := fun_mk l__plain c__plain k__plain
  have b__plain := F__plain.binds (ps := ["size", "colour"]) fun _ _ _ _ _ _ us hl => match us, hl with | [_, _], _ => rfl
  have m__plain := PySem.W.mg_of X G a__plain
  have F__beside : Fun K "_beside" "_beside" s__beside f__beside _ := fun_mk l__beside c__beside k__beside
  have b__beside := F__beside.binds (ps := ["left", "right"]) fun _ _ _ _ _ _ us hl => match us, hl with | [_, _], _ => rfl
  have m__beside := PySem.W.mg_of X G a__beside
  have F__is_own : Fun K "_is_own" "_is_own" s__is_own f__is_own _ := fun_mk l__is_own c__is_own k__is_own
  have b__is_own := F__is_own.binds (ps := ["size", "piece", "row", "column"]) fun _ _ _ _ _ _ us hl => match us, hl with | [_, _, _, _], _ => rfl
  have m__is_own := PySem.W.mg_of X G a__is_own
  have F_overlaid : Fun K "overlaid" "overlaid" s_overlaid f_overlaid _ := fun_mk l_overlaid c_overlaid k_overlaid
  have b_overlaid := F_overlaid.binds (ps := ["piece", "colour", "rows"]) fun _ _ _ _ _ _ us hl => match us, hl with | [_, _, _], _ => rfl
  have m_overlaid := PySem.W.mg_of X G a_overlaid
  have F__joined : Fun K "_joined" "_joined" s__joined f__joined _ := fun_mk l__joined c__joined k__joined
  have b__joined := F__joined.binds (ps := ["word", "first", "second"]) fun _ _ _ _ _ _ us hl => match us, hl with | [_, _, _], _ => rfl
  have m__joined := PySem.W.mg_of X G a__joined
  have F_drawings : Fun K "drawings" "drawings" s_drawings f_drawings _ := fun_mk l_drawings c_drawings k_drawings
  have b_drawings := F_drawings.binds (ps := ["size", "words"]) fun _ _ _ _ _ _ us hl => match us, hl with | [_, _], _ => rfl
  have m_drawings := PySem.W.mg_of X G a_drawings
  have F_drawn : Fun K "drawn" "drawn" s_drawn f_drawn _ := fun_mk l_drawn c_drawn k_drawn
  have b_drawn := F_drawn.binds (ps := ["size", "words"]) fun _ _ _ _ _ _ us hl => match us, hl with | [_, _], _ => rfl
  have m_drawn := PySem.W.mg_of X G a_drawn
  have F_alike : Fun K "alike" "alike" s_alike f_alike _ := fun_mk l_alike c_alike k_alike
  have b_alike := F_alike.binds (ps := ["size", "one", "other"]) fun _ _ _ _ _ _ us hl => match us, hl with | [_, _, _], _ => rfl
  have m_alike := PySem.W.mg_of X G a_alike
  have F_law : Fun K "law" "law" s_law f_law _ := fun_mk l_law c_law k_law
  have b_law := F_law.binds (ps := ["_law_script"]) fun _ _ _ _ _ _ us hl => match us, hl with | [_], _ => rfl
  have m_law := PySem.W.mg_of X G a_law
  have m_len := PySem.W.mg_none_of X G z_len
  have m_int := PySem.W.mg_none_of X G z_int
  have m_abs := PySem.W.mg_none_of X G z_abs
  have m_min := PySem.W.mg_none_of X G z_min
  have m_range := PySem.W.mg_none_of X G z_range
  have m_tuple := PySem.W.mg_none_of X G z_tuple
  have m_enumerate := PySem.W.mg_none_of X G z_enumerate
  have m_isinstance := PySem.W.mg_none_of X G z_isinstance
  have m_list := PySem.W.mg_none_of X G z_list
  have m_bool := PySem.W.mg_none_of X G z_bool
  have m_str := PySem.W.mg_none_of X G z_str
  have m_zip := PySem.W.mg_none_of X G z_zip
  have m_reversed := PySem.W.mg_none_of X G z_reversed
  have m_SIDES := PySem.W.mg_of X G a_SIDES
  have t_SIDES : KT K f_SIDES [.int 1, .int 2, .int 4, .int 8] := ⟨_, _, _, l_SIDES, rfl, rfl, Nat.le_of_ble_eq_true rfl, .cons ⟨_, rfl⟩ <| .cons ⟨_, rfl⟩ <| .cons ⟨_, rfl⟩ <| .cons ⟨_, rfl⟩ <| .nil⟩
  have m_COLOURS := PySem.W.mg_of X G a_COLOURS
  have t_COLOURS : KT K f_COLOURS [.str "white", .str "yellow", .str "black", .str "blue", .str "green", .str "red"] := ⟨_, _, _, l_COLOURS, rfl, rfl, Nat.le_of_ble_eq_true rfl, .cons ⟨_, rfl⟩ <| .cons ⟨_, rfl⟩ <| .cons ⟨_, rfl⟩ <| .cons ⟨_, rfl⟩ <| .cons ⟨_, rfl⟩ <| .cons ⟨_, rfl⟩ <| .nil⟩
  have m_LEAST := PySem.W.mg_of X G a_LEAST
  have t_LEAST : LeastK K w f_LEAST := ⟨⟨_, _, l_LEAST, y_LEAST, v_LEAST⟩, fun x => (match x with | .party => ⟨_, e_LEAST_party, ⟨_, _, _, l_LEAST_party, rfl, rfl, Nat.le_of_ble_eq_true rfl, .cons ⟨_, rfl⟩ <| .cons ⟨_, rfl⟩ <| .nil⟩⟩ | .cut => ⟨_, e_LEAST_cut, ⟨_, _, _, l_LEAST_cut, rfl, rfl, Nat.le_of_ble_eq_true rfl, .cons ⟨_, rfl⟩ <| .cons ⟨_, rfl⟩ <| .nil⟩⟩ | .quartered => ⟨_, e_LEAST_quartered, ⟨_, _, _, l_LEAST_quartered, rfl, rfl, Nat.le_of_ble_eq_true rfl, .cons ⟨_, rfl⟩ <| .cons ⟨_, rfl⟩ <| .nil⟩⟩), fun x => (match x with | .pillar => ⟨_, e_LEAST_pillar, ⟨_, _, _, l_LEAST_pillar, rfl, rfl, Nat.le_of_ble_eq_true rfl, .cons ⟨_, rfl⟩ <| .cons ⟨_, rfl⟩ <| .nil⟩⟩ | .band => ⟨_, e_LEAST_band, ⟨_, _, _, l_LEAST_band, rfl, rfl, Nat.le_of_ble_eq_true rfl, .cons ⟨_, rfl⟩ <| .cons ⟨_, rfl⟩ <| .nil⟩⟩ | .head => ⟨_, e_LEAST_head, ⟨_, _, _, l_LEAST_head, rfl, rfl, Nat.le_of_ble_eq_true rfl, .cons ⟨_, rfl⟩ <| .cons ⟨_, rfl⟩ <| .nil⟩⟩ | .edge => ⟨_, e_LEAST_edge, ⟨_, _, _, l_LEAST_edge, rfl, rfl, Nat.le_of_ble_eq_true rfl, .cons ⟨_, rfl⟩ <| .cons ⟨_, rfl⟩ <| .nil⟩⟩)⟩
  have m_PIECES := PySem.W.mg_of X G a_PIECES
  have t_PIECES : KT K f_PIECES [.str "pillar", .str "band", .str "head", .str "edge"] := ⟨_, _, _, l_PIECES, rfl, rfl, Nat.le_of_ble_eq_true rfl, .cons ⟨_, rfl⟩ <| .cons ⟨_, rfl⟩ <| .cons ⟨_, rfl⟩ <| .cons ⟨_, rfl⟩ <| .nil⟩
  have m_CELL := PySem.W.mg_of X G a_CELL
  have t_CELL : KT K f_CELL [.int 1, .int 1] := ⟨_, _, _, l_CELL, rfl, rfl, Nat.le_of_ble_eq_true rfl, .cons ⟨_, rfl⟩ <| .cons ⟨_, rfl⟩ <| .nil⟩
  have m_WHITE := PySem.W.mg_of X G a_WHITE
  obtain rfl : fa = f_law := by rw [m_law] at hfa; cases hfa; rfl
  refine ⟨PySem.W.fnOf "law" "law" (defArgs (topS 40)) (defBody (topS 40)) (defScope (topS 40)) .none kV_law dc_law pm_law an_law cd_law ct_law, fun s v => .of_eq rfl, fun base _ _ => ?_⟩
  have P__law_taken : FnOk P w K mg base CX0 1 f__law_taken _ ["_law_row", "_law_many"] (spTaken K) := ok__law_taken (k := 0) F__law_taken m_len
  have P__law_size : FnOk P w K mg base CX0 2 f__law_size _ ["_law_row", "_law_most"] (spSize K) := ok__law_size (k := 1) F__law_size m_len (P__law_taken.mono (by decide)) m__law_taken k__law_taken b__law_taken
  have P__law_cut : FnOk P w K mg base CX0 3 f__law_cut _ ["_law_row", "_law_words"] (spCut K) := ok__law_cut (k := 2) F__law_cut m_len (P__law_taken.mono (by decide)) m__law_taken k__law_taken b__law_taken
  have P__law_fits : FnOk P w K mg base CX0 4 f__law_fits _ ["_law_size_here", "_law_word"] (spFits K) := ok__law_fits (k := 3) F__law_fits 
  have P__law_colour : FnOk P w K mg base CX0 5 f__law_colour _ ["_law_row"] (spColour K) := ok__law_colour (k := 4) F__law_colour (P__law_taken.mono (by decide)) m__law_taken k__law_taken b__law_taken
  have P__law_part : FnOk P w K mg base CX0 6 f__law_part _ ["_law_size_here", "_law_word"] (spPart K) := ok__law_part (k := 5) F__law_part m_int
  have P__law_saying : ∀ n, FnOk P w K mg base CX0 (6 + n) f__law_saying _ ["_law_row", "_law_size_here", "_law_deep"] (spSaying K n) := fun n => by
    induction n with
    | zero => exact fnok_none fun vs H Q E h => by obtain ⟨_, _, _, _, _, _, h, _⟩ := h; exact absurd h (Nat.not_lt_zero _)
    | succ n ih => exact ok__law_saying (n := n) (k := 6 + n) F__law_saying m_len (P__law_fits.mono (by omega)) m__law_fits k__law_fits b__law_fits (P__law_taken.mono (by omega)) m__law_taken k__law_taken b__law_taken (P__law_colour.mono (by omega)) m__law_colour k__law_colour b__law_colour (P__law_part.mono (by omega)) m__law_part k__law_part b__law_part ih m__law_saying k__law_saying b__law_saying
  have P__law_saying : FnOk P w K mg base CX0 15 f__law_saying _ ["_law_row", "_law_size_here", "_law_deep"] (spSaying K 9) := P__law_saying 9
  have P__law_is_own : FnOk P w K mg base CX0 16 f__law_is_own _ ["_law_size_here", "_law_piece", "_law_row", "_law_column"] (spOwn K) := ok__law_is_own (k := 15) F__law_is_own m_abs m_min
  have P__law_behind : FnOk P w K mg base CX0 17 f__law_behind _ ["_law_words", "_law_at"] (spBehind K) := ok__law_behind (k := 16) F__law_behind m_int
  have P__law_cell : FnOk P w K mg base CX0 18 f__law_cell _ ["_law_words", "_law_at", "_law_size_here", "_law_row", "_law_column"] (spCell K) := ok__law_cell (k := 17) F__law_cell (P__law_is_own.mono (by decide)) m__law_is_own k__law_is_own b__law_is_own (P__law_part.mono (by decide)) m__law_part k__law_part b__law_part (P__law_behind.mono (by decide)) m__law_behind k__law_behind b__law_behind
  have P__law_drawing : FnOk P w K mg base CX0 19 f__law_drawing _ ["_law_words", "_law_size_here"] (spDrawing K) := ok__law_drawing (k := 18) F__law_drawing m_range m_tuple (P__law_cell.mono (by decide)) m__law_cell k__law_cell b__law_cell
  have P_need_size : FnOk P w K mg base CX0 20 f_need_size _ ["size"] (spNeed K) := ok_need_size (k := 19) F_need_size m_SIDES t_SIDES
  have P_can_stand : FnOk P w K mg base CX0 21 f_can_stand _ ["size", "word"] (spCan K) := ok_can_stand (k := 20) F_can_stand m_COLOURS t_COLOURS m_LEAST t_LEAST
  have P__sizes_behind : FnOk P w K mg base CX0 22 f__sizes_behind _ ["size", "word"] (spBhd K) := ok__sizes_behind (k := 21) F__sizes_behind m_COLOURS t_COLOURS m_PIECES t_PIECES m_CELL t_CELL
  have P_word_sizes : FnOk P w K mg base CX0 23 f_word_sizes _ ["size", "words"] (spSizes K) := ok_word_sizes (k := 22) F_word_sizes m_enumerate (P_need_size.mono (by decide)) m_need_size k_need_size b_need_size (P_can_stand.mono (by decide)) m_can_stand k_can_stand b_can_stand (P__sizes_behind.mono (by decide)) m__sizes_behind k__sizes_behind b__sizes_behind
  have P_filled : FnOk P w K mg base CX0 24 f_filled _ ["size", "words"] (spFilled K) := ok_filled (k := 23) F_filled m_len (P_word_sizes.mono (by decide)) m_word_sizes k_word_sizes b_word_sizes m_WHITE
  have P__law_other : FnOk P w K mg base CX0 25 f__law_other _ ["_law_row", "_law_words", "_law_size_here"] (spOther K) := ok__law_other (k := 24) F__law_other (P__law_taken.mono (by decide)) m__law_taken k__law_taken b__law_taken (P__law_saying.mono (by decide)) m__law_saying k__law_saying b__law_saying (P__law_fits.mono (by decide)) m__law_fits k__law_fits b__law_fits (P__law_colour.mono (by decide)) m__law_colour k__law_colour b__law_colour (P__law_drawing.mono (by decide)) m__law_drawing k__law_drawing b__law_drawing (P_filled.mono (by decide)) m_filled k_filled b_filled
  have P__law_alike : ∀ n, FnOk P w K mg base CX0 (25 + n) f__law_alike _ ["_law_found", "_law_due"] (spLawAlike K n) := fun n => by
    induction n with
    | zero => exact fnok_none fun vs H Q E h => by obtain ⟨_, _, _, _, _, _, _, h, _⟩ := h; exact absurd h (Nat.not_lt_zero _)
    | succ n ih => exact ok__law_alike (n := n) (k := 25 + n) F__law_alike m_isinstance m_list m_tuple m_len m_range m_bool m_str m_int ih m__law_alike k__law_alike b__law_alike
  have P__law_alike : FnOk P w K mg base CX0 34 f__law_alike _ ["_law_found", "_law_due"] (spLawAlike K 9) := P__law_alike 9
  have P__plain : FnOk P w K mg base CX0 35 f__plain _ ["size", "colour"] (spPlain K) := ok__plain (k := 34) F__plain 
  have P__beside : FnOk P w K mg base CX0 36 f__beside _ ["left", "right"] (spBeside K) := ok__beside (k := 35) F__beside m_tuple m_zip
  have P__is_own : FnOk P w K mg base CX0 37 f__is_own _ ["size", "piece", "row", "column"] (spIsOwn K) := ok__is_own (k := 36) F__is_own 
  have P_overlaid : FnOk P w K mg base CX0 38 f_overlaid _ ["piece", "colour", "rows"] (spOverlaid K) := ok_overlaid (k := 37) F_overlaid m_len m_enumerate m_tuple (P__is_own.mono (by decide)) m__is_own k__is_own b__is_own
  have P__joined : FnOk P w K mg base CX0 39 f__joined _ ["word", "first", "second"] (spJoined K) := ok__joined (k := 38) F__joined (P__beside.mono (by decide)) m__beside k__beside b__beside (P_overlaid.mono (by decide)) m_overlaid k_overlaid b_overlaid
  have P_drawings : FnOk P w K mg base CX0 40 f_drawings _ ["size", "words"] (spDrawings K) := ok_drawings (k := 39) F_drawings m_reversed m_list m_zip (P_filled.mono (by decide)) m_filled k_filled b_filled (P_word_sizes.mono (by decide)) m_word_sizes k_word_sizes b_word_sizes (P__plain.mono (by decide)) m__plain k__plain b__plain (P__joined.mono (by decide)) m__joined k__joined b__joined m_COLOURS t_COLOURS
  have P_drawn : FnOk P w K mg base CX0 41 f_drawn _ ["size", "words"] (spDrawn K) := ok_drawn (k := 40) F_drawn (P_drawings.mono (by decide)) m_drawings k_drawings b_drawings
  have P_alike : FnOk P w K mg base CX0 42 f_alike _ ["size", "one", "other"] (spAlike K) := ok_alike (k := 41) F_alike (P_drawn.mono (by decide)) m_drawn k_drawn b_drawn
  have P_law : FnOk P w K mg base CX0 43 fa _ ["_law_script"] (spLaw K) := ok_law (k := 42) F_law m_range (P__law_size.mono (by decide)) m__law_size k__law_size b__law_size (P__law_cut.mono (by decide)) m__law_cut k__law_cut b__law_cut (P__law_saying.mono (by decide)) m__law_saying k__law_saying b__law_saying (P__law_taken.mono (by decide)) m__law_taken k__law_taken b__law_taken (P__law_other.mono (by decide)) m__law_other k__law_other b__law_other (P__law_drawing.mono (by decide)) m__law_drawing k__law_drawing b__law_drawing (P__law_alike.mono (by decide)) m__law_alike k__law_alike b__law_alike (P_drawn.mono (by decide)) m_drawn k_drawn b_drawn (P_filled.mono (by decide)) m_filled k_filled b_filled (P_alike.mono (by decide)) m_alike k_alike b_alike
  exact P_law
theorem walk {l : PySem.W.OpenLaw} {q : Program} {loose : List Str} {XP : (Str → Option Value) → Heap → Prop} {YP : World → Heap → Prop} {d : DefRec} {K : Params → PySem.W.Frag} (hn : l.most = some 63) (hdf : d.params.defaults = [])
    (hY : ∀ (w : World) (h : Heap), YP w h → (K w.params).In h)
    (F : ∀ (w : World) (mg : Str → Option Value) (fa : Addr) (h : Heap), (K w.params).In h → h.Ns mainGlobals mg → mg d.name = some (.ref fa) →
      ∃ fd : FuncData, (∀ (s : Shared) (u : Value), BindsTo s fd ⟨[u], []⟩ [("_law_script", u)]) ∧ ∀ base : Heap, (K w.params).In base → base.Ns mainGlobals mg → FnOk l.prog w (K w.params) mg base CX0 43 fa fd ["_law_script"] (spLaw (K w.params))) :
    PySem.W.WalkO q loose XP YP l.row.toRowW d [] (fun f vs => PySem.call f vs) :=
  L2.walk_of (n := 63) (k := 43) (x := "_law_script") (CX := fun _ => CX0) (sp := fun w => spLaw (K w.params)) hn (by decide) hdf ⟨rfl, by decide, by decide⟩ hY F (fun _ _ a ns hl hO hS => ⟨a, ns, rfl, sqF_of hO hS, hl, fun _ => rfl⟩) fun _ _ _ _ _ z => z
end Bz
open PySem PySem.W PyProof.Rows
set_option maxRecDepth 100000 in
set_option maxHeartbeats 0 in
theorem PySem.Challenge.cw_blazonry_k03_sayings_drawn_holds : PySem.Challenge.rw_blazonry_k03_sayings_drawn.Holds := by
  w_on; o_law; k_head; (case hw => w_witness2)
  k_fill
  refine Bz.walk (l := PySem.Challenge.rw_blazonry_k03_sayings_drawn) rfl rfl (fun w h Y => PySem.W.kIn_of Y) ?F
  case F =>
    intro w mg fa h KX G hmg
    refine' Bz.all_mk KX G hmg ?a__law_taken ?l__law_taken ?c__law_taken ?k__law_taken ?a__law_size ?l__law_size ?c__law_size ?k__law_size ?a__law_cut ?l__law_cut ?c__law_cut ?k__law_cut ?a__law_fits ?l__law_fits ?c__law_fits ?k__law_fits ?a__law_colour ?l__law_colour ?c__law_colour ?k__law_colour ?a__law_part ?l__law_part ?c__law_part ?k__law_part ?a__law_saying ?l__law_saying ?c__law_saying ?k__law_saying ?a__law_is_own ?l__law_is_own ?c__law_is_own ?k__law_is_own ?a__law_behind ?l__law_behind ?c__law_behind ?k__law_behind ?a__law_cell ?l__law_cell ?c__law_cell ?k__law_cell ?a__law_drawing ?l__law_drawing ?c__law_drawing ?k__law_drawing ?a_need_size ?l_need_size ?c_need_size ?k_need_size ?a_can_stand ?l_can_stand ?c_can_stand ?k_can_stand ?a__sizes_behind ?l__sizes_behind ?c__sizes_behind ?k__sizes_behind ?a_word_sizes ?l_word_sizes ?c_word_sizes ?k_word_sizes ?a_filled ?l_filled ?c_filled ?k_filled ?a__law_other ?l__law_other ?c__law_other ?k__law_other ?a__law_alike ?l__law_alike ?c__law_alike ?k__law_alike ?a__plain ?l__plain ?c__plain ?k__plain ?a__beside ?l__beside ?c__beside ?k__beside ?a__is_own ?l__is_own ?c__is_own ?k__is_own ?a_overlaid ?l_overlaid ?c_overlaid ?k_overlaid ?a__joined ?l__joined ?c__joined ?k__joined ?a_drawings ?l_drawings ?c_drawings ?k_drawings ?a_drawn ?l_drawn ?c_drawn ?k_drawn ?a_alike ?l_alike ?c_alike ?k_alike ?a_law ?l_law ?c_law ?k_law ?z_len ?z_int ?z_abs ?z_min ?z_range ?z_tuple ?z_enumerate ?z_isinstance ?z_list ?z_bool ?z_str ?z_zip ?z_reversed ?a_SIDES ?l_SIDES ?a_COLOURS ?l_COLOURS ?a_LEAST ?l_LEAST ?y_LEAST ?v_LEAST ?e_LEAST_party ?l_LEAST_party ?e_LEAST_cut ?l_LEAST_cut ?e_LEAST_quartered ?l_LEAST_quartered ?e_LEAST_pillar ?l_LEAST_pillar ?e_LEAST_band ?l_LEAST_band ?e_LEAST_head ?l_LEAST_head ?e_LEAST_edge ?l_LEAST_edge ?a_PIECES ?l_PIECES ?a_CELL ?l_CELL ?a_WHITE
    (case a__law_taken => k_is)
    (case l__law_taken => k_is)
    (case c__law_taken => k_is)
    (case k__law_taken => k_is)
    (case a__law_size => k_is)
    (case l__law_size => k_is)
    (case c__law_size => k_is)
    (case k__law_size => k_is)
    (case a__law_cut => k_is)
    (case l__law_cut => k_is)
    (case c__law_cut => k_is)
    (case k__law_cut => k_is)
    (case a__law_fits => k_is)
    (case l__law_fits => k_is)
    (case c__law_fits => k_is)
    (case k__law_fits => k_is)
    (case a__law_colour => k_is)
    (case l__law_colour => k_is)
    (case c__law_colour => k_is)
    (case k__law_colour => k_is)
    (case a__law_part => k_is)
    (case l__law_part => k_is)
    (case c__law_part => k_is)
    (case k__law_part => k_is)
    (case a__law_saying => k_is)
    (case l__law_saying => k_is)
    (case c__law_saying => k_is)
    (case k__law_saying => k_is)
    (case a__law_is_own => k_is)
    (case l__law_is_own => k_is)
    (case c__law_is_own => k_is)
    (case k__law_is_own => k_is)
    (case a__law_behind => k_is)
    (case l__law_behind => k_is)
    (case c__law_behind => k_is)
    (case k__law_behind => k_is)
    (case a__law_cell => k_is)
    (case l__law_cell => k_is)
    (case c__law_cell => k_is)
    (case k__law_cell => k_is)
    (case a__law_drawing => k_is)
    (case l__law_drawing => k_is)
    (case c__law_drawing => k_is)
    (case k__law_drawing => k_is)
    (case a_need_size => k_is)
    (case l_need_size => k_is)
    (case c_need_size => k_is)
    (case k_need_size => k_is)
    (case a_can_stand => k_is)
    (case l_can_stand => k_is)
    (case c_can_stand => k_is)
    (case k_can_stand => k_is)
    (case a__sizes_behind => k_is)
    (case l__sizes_behind => k_is)
    (case c__sizes_behind => k_is)
    (case k__sizes_behind => k_is)
    (case a_word_sizes => k_is)
    (case l_word_sizes => k_is)
    (case c_word_sizes => k_is)
    (case k_word_sizes => k_is)
    (case a_filled => k_is)
    (case l_filled => k_is)
    (case c_filled => k_is)
    (case k_filled => k_is)
    (case a__law_other => k_is)
    (case l__law_other => k_is)
    (case c__law_other => k_is)
    (case k__law_other => k_is)
    (case a__law_alike => k_is)
    (case l__law_alike => k_is)
    (case c__law_alike => k_is)
    (case k__law_alike => k_is)
    (case a__plain => k_is)
    (case l__plain => k_is)
    (case c__plain => k_is)
    (case k__plain => k_is)
    (case a__beside => k_is)
    (case l__beside => k_is)
    (case c__beside => k_is)
    (case k__beside => k_is)
    (case a__is_own => k_is)
    (case l__is_own => k_is)
    (case c__is_own => k_is)
    (case k__is_own => k_is)
    (case a_overlaid => k_is)
    (case l_overlaid => k_is)
    (case c_overlaid => k_is)
    (case k_overlaid => k_is)
    (case a__joined => k_is)
    (case l__joined => k_is)
    (case c__joined => k_is)
    (case k__joined => k_is)
    (case a_drawings => k_is)
    (case l_drawings => k_is)
    (case c_drawings => k_is)
    (case k_drawings => k_is)
    (case a_drawn => k_is)
    (case l_drawn => k_is)
    (case c_drawn => k_is)
    (case k_drawn => k_is)
    (case a_alike => k_is)
    (case l_alike => k_is)
    (case c_alike => k_is)
    (case k_alike => k_is)
    (case a_law => k_is)
    (case l_law => k_is)
    (case c_law => k_is)
    (case k_law => k_is)
    (case z_len => k_is)
    (case z_int => k_is)
    (case z_abs => k_is)
    (case z_min => k_is)
    (case z_range => k_is)
    (case z_tuple => k_is)
    (case z_enumerate => k_is)
    (case z_isinstance => k_is)
    (case z_list => k_is)
    (case z_bool => k_is)
    (case z_str => k_is)
    (case z_zip => k_is)
    (case z_reversed => k_is)
    (case a_SIDES => k_is)
    (case l_SIDES => k_is)
    (case a_COLOURS => k_is)
    (case l_COLOURS => k_is)
    (case a_LEAST => k_is)
    (case l_LEAST => k_is)
    (case y_LEAST => exact ⟨⟨_, _, rfl, rfl⟩, ⟨⟨_, _, rfl, rfl⟩, ⟨⟨_, _, rfl, rfl⟩, ⟨⟨_, _, rfl, rfl⟩, ⟨⟨_, _, rfl, rfl⟩, ⟨⟨_, _, rfl, rfl⟩, ⟨⟨_, _, rfl, rfl⟩, trivial⟩⟩⟩⟩⟩⟩⟩)
    (case v_LEAST => first | rfl | decide)
    (case e_LEAST_party => k_is)
    (case l_LEAST_party => k_is)
    (case e_LEAST_cut => k_is)
    (case l_LEAST_cut => k_is)
    (case e_LEAST_quartered => k_is)
    (case l_LEAST_quartered => k_is)
    (case e_LEAST_pillar => k_is)
    (case l_LEAST_pillar => k_is)
    (case e_LEAST_band => k_is)
    (case l_LEAST_band => k_is)
    (case e_LEAST_head => k_is)
    (case l_LEAST_head => k_is)
    (case e_LEAST_edge => k_is)
    (case l_LEAST_edge => k_is)
    (case a_PIECES => k_is)
    (case l_PIECES => k_is)
    (case a_CELL => k_is)
    (case l_CELL => k_is)
    (case a_WHITE => k_is)
