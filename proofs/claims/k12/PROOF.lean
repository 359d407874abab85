import PyProof.Rows.All
import Wide.All
import OpenK.AllK
import Wide.FinOn
import HandS.ForMost
import HandS.ForExc
import HandS.TupAny
import HandS.TupMul
import HandS.IsInst
import HandS.Style
import HandS.Flow
import HandS.Strs
import HandS.Rev
import HandS.Zip
import HandS.EndBits
import HandS.More
import KE.GoesEnum
import PyProof.Rows.SortShellAny
import HandS.Walk
import HandS.Deep
import KE.GoesZip
import KE.GoesMore
import KE.KDictKeyed
import KE.DataCmp
import HandS.Small
import HandS.Dict
import KE.KMinKey
import HandS.SortKw
import HandS.Iter
import HandS.SetBool
import HandS.SetKeys
import HandS.ExcIs
import HandS.SetFor
import PyProof.MinMaxWalk
import HandS.ExcInit
import HandS.ClsMeth
import HandS.FStr
import HandS.ExcField
import PySem.Challenge.RW_blazonry_k12_texts
set_option Elab.async false
set_option linter.all false
set_option maxRecDepth 100000
set_option synthInstance.maxSize 100000
set_option synthInstance.maxHeartbeats 0
set_option maxHeartbeats 0
namespace Bz
open PySem PySem.Spec PyProof.Rows L2

/-! ### heaps -/
/-- what can't be changed stays -/
def Imm (H H' : Hp) : Prop := (∀ b xs, H b = some (.tup xs) → H' b = some (.tup xs)) ∧ ∀ b o u, H b = some (.frz o u) → H' b = some (.frz o u)
/-- r alone may be changed -/
def Chg (r : Addr) (H H' : Hp) : Prop := Imm H H' ∧ ∀ b o, b ≠ r → H b = some o → H' b = some o
theorem Imm.refl (H : Hp) : Imm H H := ⟨fun _ _ h => h, fun _ _ _ h => h⟩
theorem Imm.trans {H H1 H2 : Hp} (a : Imm H H1) (b : Imm H1 H2) : Imm H H2 := ⟨fun c xs h => b.1 c xs (a.1 c xs h), fun c o u h => b.2 c o u (a.2 c o u h)⟩
theorem imm_of_same {H H' : Hp} (s : Same H H') : Imm H H' := ⟨fun b xs h => s b _ h, fun b o u h => s b _ h⟩
theorem Chg.refl (r : Addr) (H : Hp) : Chg r H H := ⟨Imm.refl H, fun _ _ _ h => h⟩
theorem Chg.trans {r : Addr} {H H1 H2 : Hp} (a : Chg r H H1) (b : Chg r H1 H2) : Chg r H H2 := ⟨a.1.trans b.1, fun c o n h => b.2 c o n (a.2 c o n h)⟩
theorem chg_of_same {r : Addr} {H H' : Hp} (s : Same H H') : Chg r H H' := ⟨imm_of_same s, fun b o _ h => s b o h⟩
theorem same_new {H : Hp} {p : Addr} {o : HO} (n : H p = none) : Same H (upd H p o) := fun b x e => by
  rw [upd_ne (ne_of_none e n)]; exact e
theorem same_upd {H0 H : Hp} {p : Addr} {o : HO} (s : Same H0 H) (n : H0 p = none) : Same H0 (upd H p o) := fun b x e => by
  rw [upd_ne (ne_of_none e n)]; exact s _ _ e
theorem chg_upd {r : Addr} {H0 H : Hp} {p : Addr} {o : HO} (s : Chg r H0 H) (n : H0 p = none) : Chg r H0 (upd H p o) :=
  ⟨⟨fun b xs e => by rw [upd_ne (ne_of_none e n)]; exact s.1.1 _ _ e, fun b x u e => by rw [upd_ne (ne_of_none e n)]; exact s.1.2 _ _ _ e⟩,
   fun b x nb e => by rw [upd_ne (ne_of_none e n)]; exact s.2 _ _ nb e⟩
/-- a list is written -/
theorem chg_lst {H : Hp} {r : Addr} {xs : List V} {o : HO} (h : H r = some (.lst xs)) : Chg r H (upd H r o) :=
  ⟨⟨fun b ys e => by rw [upd_ne (ne_of e h (by intro z; cases z))]; exact e, fun b x u e => by rw [upd_ne (ne_of e h (by intro z; cases z))]; exact e⟩,
   fun b x nb e => by rw [upd_ne nb]; exact e⟩
theorem Imm.sqT {K : PySem.W.Frag} {H H' : Hp} {a : Addr} {xs : List V} (e : Imm H H') (h : SqT K H a xs) : SqT K H' a xs := by
  rcases h with (h | ⟨o, h⟩) | h
  · exact .inl (.inl (e.1 _ _ h))
  · exact .inl (.inr ⟨o, e.2 _ _ _ h⟩)
  · exact .inr h
/-- a list that nobody writes -/
def SqF (K : PySem.W.Frag) (H : Hp) (a : Addr) (xs : List V) : Prop :=
  (∃ o, H a = some (.frz o (.lst xs))) ∨
    ∃ (o : Obj) (its : Array Value) (n : Nat), K.lookup a = some o ∧ o.cls = .type "list" ∧ o.dict = none ∧ o.data = .seq its n ∧ its.size ≤ sizeLine ∧ Vals xs its.toList
theorem SqF.seq {K : PySem.W.Frag} {H : Hp} {a : Addr} {xs : List V} (h : SqF K H a xs) : SqL K H a xs := by
  rcases h with ⟨o, h⟩ | h
  · exact .inl (.inr ⟨o, h⟩)
  · exact .inr h
theorem Imm.sqF {K : PySem.W.Frag} {H H' : Hp} {a : Addr} {xs : List V} (e : Imm H H') (h : SqF K H a xs) : SqF K H' a xs := by
  rcases h with ⟨o, h⟩ | h
  · exact .inl ⟨o, e.2 _ _ _ h⟩
  · exact .inr h
theorem sqF_of {K : PySem.W.Frag} {H : Hp} {a : Addr} {xs : List V} (o : Only H) (h : SqL K H a xs) : SqF K H a xs := by
  rcases h with (h | h) | h
  · rcases o a with q | ⟨o, ys, q⟩
    · rw [q] at h; cases h
    · rw [q] at h; cases h
  · exact .inl h
  · exact .inr h

theorem Chg.imm {r : Addr} {H H' : Hp} (c : Chg r H H') : Imm H H' := c.1
theorem SqF.chg {K : PySem.W.Frag} {H H' : Hp} {a r : Addr} {xs : List V} (h : SqF K H a xs) (e : Chg r H H') : SqF K H' a xs := e.1.sqF h
theorem SqF.same {K : PySem.W.Frag} {H H' : Hp} {a : Addr} {xs : List V} (h : SqF K H a xs) (e : Same H H') : SqF K H' a xs := (imm_of_same e).sqF h
/-- the reader of a script: the list at r -/
def Row (K : PySem.W.Frag) (H : Hp) (r : Addr) : Prop :=
  ∃ (s : Addr) (ns : List Int) (i m g : Int), H r = some (.lst [.ref s, .int i, .int m, .int g]) ∧ SqF K H s (ns.map V.int) ∧ 0 ≤ i ∧ 0 ≤ m ∧ m < 2147483647 ∧ 0 ≤ g ∧ ns.length ≤ 1000
theorem Row.same {K : PySem.W.Frag} {H H' : Hp} {r : Addr} (s : Same H H') (h : Row K H r) : Row K H' r := by
  obtain ⟨a, ns, i, m, g, h1, h2, h3⟩ := h
  exact ⟨a, ns, i, m, g, s _ _ h1, (imm_of_same s).sqF h2, h3⟩
theorem Row.lst {K : PySem.W.Frag} {H : Hp} {r : Addr} (h : Row K H r) : ∃ xs, H r = some (.lst xs) := by
  obtain ⟨a, ns, i, m, g, h1, _⟩ := h
  exact ⟨_, h1⟩
theorem Row.ne {K : PySem.W.Frag} {H : Hp} {r D : Addr} (h : Row K H r) (n : H D = none) : D ≠ r := by
  obtain ⟨xs, e⟩ := h.lst
  exact (ne_of_none e n).symm

/-! ### readings -/
section
variable {σ : L2.St} {H : Hp} {Q : VK}
theorem rVar {i : Nat} {v : V} (h : σ[i]? = some (some v)) (q : Q v H) : tVar i σ H Q := ⟨v, h, q⟩
theorem rC {v : V} (q : Q v H) : tC v σ H Q := q
theorem rOp {r : R2} {ta tb : TE} (h : ta σ H fun x H1 => tb σ H1 fun y H2 => r x y H2 Q) : tOp r ta tb σ H Q := h
theorem rUn {r : V → Hp → VK → Prop} {ta : TE} (h : ta σ H fun x H1 => r x H1 Q) : tUn r ta σ H Q := h
theorem rI0_ {g : Int → Int → V} {i j : Int} (q : Q (g i j) H) : rI0 g (.int i) (.int j) H Q := ⟨i, j, rfl, rfl, q⟩
theorem rI_ {C : Int → Int → Prop} {g : Int → Int → V} {i j : Int} (c : C i j) (q : Q (g i j) H) : rI C g (.int i) (.int j) H Q := ⟨i, j, rfl, rfl, c, q⟩
theorem rEq_ {x y : V} (c : scal x y = true) (q : Q (.bl (decide (x = y))) H) : rEq x y H Q := ⟨c, q⟩
theorem rNe_ {x y : V} (c : scal x y = true) (q : Q (.bl (!decide (x = y))) H) : rNe x y H Q := ⟨c, q⟩
theorem rIxL_ {K : PySem.W.Frag} {p : Addr} {xs : List V} {i : Int} {v : V} (h : SqL K H p xs) (e : atI xs i = some v) (q : Q v H) : rIxL K (.ref p) (.int i) H Q := ⟨p, xs, i, v, rfl, rfl, h, e, q⟩
theorem rIxT_ {K : PySem.W.Frag} {p : Addr} {xs : List V} {i : Int} {v : V} (h : SqT K H p xs) (e : atI xs i = some v) (q : Q v H) : rIxT K (.ref p) (.int i) H Q := ⟨p, xs, i, v, rfl, rfl, h, e, q⟩
theorem rNil {QA : List V → Hp → Prop} (q : QA [] H) : tNil σ H QA := q
theorem rCons {ta : TE} {tr : TA} {QA : List V → Hp → Prop} (h : ta σ H fun x H1 => tr σ H1 fun xs H2 => QA (x :: xs) H2) : tCons ta tr σ H QA := h
/-- a new tuple, a new list -/
def NewT (Q : VK) (xs : List V) (H : Hp) : Prop := xs.length ≤ sizeLine ∧ ∀ p, H p = none → Q (.ref p) (upd H p (.tup xs))
def NewL (Q : VK) (xs : List V) (H : Hp) : Prop := xs.length ≤ sizeLine ∧ ∀ p, H p = none → Q (.ref p) (upd H p (.lst xs))
theorem rTup {t : TA} (h : t σ H (NewT Q)) : tTup t σ H Q := h
theorem rLst {t : TA} (h : t σ H (NewL Q)) : tLst t σ H Q := h
theorem rNewT {xs : List V} (l : xs.length ≤ sizeLine) (q : ∀ p H2, H p = none → Same H H2 → H2 p = some (.tup xs) → Q (.ref p) H2) : NewT Q xs H := ⟨l, fun p n => q p _ n (same_new n) upd_same⟩
theorem rNewL {xs : List V} (l : xs.length ≤ sizeLine) (q : ∀ p H2, H p = none → Same H H2 → H2 p = some (.lst xs) → Q (.ref p) H2) : NewL Q xs H := ⟨l, fun p n => q p _ n (same_new n) upd_same⟩
theorem rCall {sp : Sp} {dvs : List V} {E : XK} {t : TA} (h : t σ H fun vs H1 => sp (vs ++ dvs) H1 Q E) : tCall sp dvs E t σ H Q := h
theorem rCB {r : List V → Hp → VK → Prop} {t : TA} (h : t σ H fun vs H1 => r vs H1 Q) : tCB r t σ H Q := h
theorem rTest {t : TE} {QB : Bool → Hp → Prop} (h : t σ H fun x H' => ∃ k, x = .bl k ∧ QB k H') : tTest t σ H QB := h
theorem rB {t : TE} {QB : Bool → Hp → Prop} (h : t σ H fun x H' => ∃ k, x = .bl k ∧ QB k H') : tB t σ H QB := h
theorem rBl {b : Bool} {QB : Bool → Prop} (q : QB b) : ∃ k, V.bl b = .bl k ∧ QB k := ⟨b, rfl, q⟩
theorem rSeq {t u : TS} {D : Ends} (h : t { D with nx := u D } σ H) : tSeq t u D σ H := h
theorem rAsg {te : TE} {g : TG} {D : Ends} (h : te σ H fun x H1 => g x σ H1 D.nx) : tAsg te g D σ H := h
theorem rName {i : Nat} {v : V} {QS : L2.St → Hp → Prop} (q : QS (σ.set i (some v)) H) : gName i v σ H QS := q
theorem rSub {to ti : TE} {t : TSet} {v : V} {QS : L2.St → Hp → Prop} (h : to σ H fun o H1 => ti σ H1 fun i H2 => t o i v H2 fun H3 => QS σ H3) : gSub to ti t v σ H QS := h
theorem rSetL_ {p : Addr} {xs : List V} {i : Int} {v : V} {j : Nat} {QH : Hp → Prop} (h : H p = some (.lst xs)) (e : ixN xs.length i = some j) (q : QH (upd H p (.lst (xs.set j v)))) : rSetL (.ref p) (.int i) v H QH := ⟨p, xs, i, j, rfl, rfl, h, e, q⟩
theorem rSetL2 {p : Addr} {xs : List V} {i : Int} {v : V} {j : Nat} {QH : Hp → Prop} (h : H p = some (.lst xs)) (e : ixN xs.length i = some j) (q : ∀ H2, Chg p H H2 → H2 p = some (.lst (xs.set j v)) → QH H2) : rSetL (.ref p) (.int i) v H QH :=
  ⟨p, xs, i, j, rfl, rfl, h, e, q _ (chg_lst h) upd_same⟩
theorem rRet {te : TE} {D : Ends} (h : te σ H D.rt) : tRet te D σ H := h
theorem rDrop {te : TE} {D : Ends} (h : te σ H fun _ H1 => D.nx σ H1) : tDrop te D σ H := h
theorem rIfS {c : TT} {t u : TS} {D : Ends} (h : c σ H fun b H1 => if b = true then t D σ H1 else u D σ H1) : tIfS c t u D σ H := h
theorem rNext {D : Ends} (h : D.nx σ H) : tNext D σ H := h
theorem rIte {p : Prop} {d : Decidable p} {A B : Prop} (h1 : p → A) (h2 : ¬ p → B) : if (@decide p d) = true then A else B := by
  by_cases h : p
  · rw [decide_eq_true h]; exact iteT (h1 h)
  · rw [decide_eq_false h]; exact iteF (h2 h)
theorem rIteN {p : Prop} {d : Decidable p} {A B : Prop} (h1 : ¬ p → A) (h2 : p → B) : if (!(@decide p d)) = true then A else B := by
  by_cases h : p
  · rw [decide_eq_true h]; exact iteF (h2 h)
  · rw [decide_eq_false h]; exact iteT (h1 h)
end
/-- len of a tuple or a list -/
def rLn (K : PySem.W.Frag) : List V → Hp → VK → Prop := fun xs H Q => ∃ x n, xs = [x] ∧ LenV K x H n ∧ Q (.int n) H
theorem z_len {X : Cx} : CallR X (.builtin "len") (rLn X.K) := call_len
theorem rLnT {K : PySem.W.Frag} {H : Hp} {Q : VK} {p : Addr} {xs : List V} (h : SqT K H p xs) (q : Q (.int (xs.length : Nat)) H) : rLn K [.ref p] H Q := ⟨_, _, rfl, .inr ⟨xs, h, rfl⟩, q⟩
theorem rLnL {K : PySem.W.Frag} {H : Hp} {Q : VK} {p : Addr} {xs : List V} (h : SqL K H p xs) (q : Q (.int (xs.length : Nat)) H) : rLn K [.ref p] H Q := ⟨_, _, rfl, .inl ⟨xs, h, rfl⟩, q⟩

/-! ### more readings -/
/-- tuple(x), list(x), int(x) -/
def rTupOf (K : PySem.W.Frag) : List V → Hp → VK → Prop := fun xs H Q => ∃ p ys, xs = [.ref p] ∧ ((SqL K H p ys ∧ ∀ l, H l = none → Q (.ref l) (upd H l (.tup ys))) ∨ (SqT K H p ys ∧ Q (.ref p) H))
theorem z_tuple {X : Cx} : CallR X (.type "tuple") (rTupOf X.K) := call_tuple_of
def rLstOf (K : PySem.W.Frag) : List V → Hp → VK → Prop := fun xs H Q => ∃ p ys, xs = [.ref p] ∧ (SqL K H p ys ∨ SqT K H p ys) ∧ ∀ l, H l = none → Q (.ref l) (upd H l (.lst ys))
theorem z_list {X : Cx} : CallR X (.type "list") (rLstOf X.K) := call_list_of
def rInt1 : List V → Hp → VK → Prop := fun xs H Q => (∃ i, xs = [.int i] ∧ Q (.int i) H) ∨ ∃ k, xs = [.bl k] ∧ Q (.int (if k then 1 else 0)) H
theorem z_int {X : Cx} : CallR X (.type "int") rInt1 := call_int1
def rAbs1 : List V → Hp → VK → Prop := fun xs H Q => ∃ i, xs = [.int i] ∧ Q (.int (if i < 0 then -i else i)) H
theorem z_abs {X : Cx} : CallR X (.builtin "abs") rAbs1 := call_abs
section
variable {σ : L2.St} {H : Hp} {Q : VK} {K : PySem.W.Frag}
theorem rTupL {p : Addr} {ys : List V} (h : SqL K H p ys) (q : ∀ l H2, H l = none → Same H H2 → H2 l = some (.tup ys) → Q (.ref l) H2) : rTupOf K [.ref p] H Q := ⟨p, ys, rfl, .inl ⟨h, fun l n => q l _ n (same_new n) upd_same⟩⟩
theorem rTupT {p : Addr} {ys : List V} (h : SqT K H p ys) (q : Q (.ref p) H) : rTupOf K [.ref p] H Q := ⟨p, ys, rfl, .inr ⟨h, q⟩⟩
theorem rIntI {i : Int} (q : Q (.int i) H) : rInt1 [.int i] H Q := .inl ⟨i, rfl, q⟩
theorem rIntB {b : Bool} (q : Q (.int (if b then 1 else 0)) H) : rInt1 [.bl b] H Q := .inr ⟨b, rfl, q⟩
theorem rAbsI {i : Int} (q : Q (.int (if i < 0 then -i else i)) H) : rAbs1 [.int i] H Q := ⟨i, rfl, q⟩
theorem rInT {x : V} {p : Addr} {xs : List V} (h : SqT K H p xs) (fx : flatV x = true) (fs : xs.all flatV = true) (q : Q (.bl (inV x xs)) H) : rIn K false x (.ref p) H Q := ⟨p, xs, rfl, .inr h, fx, fs, q⟩
theorem rNotInT {x : V} {p : Addr} {xs : List V} (h : SqT K H p xs) (fx : flatV x = true) (fs : xs.all flatV = true) (q : Q (.bl (!inV x xs)) H) : rIn K true x (.ref p) H Q := ⟨p, xs, rfl, .inr h, fx, fs, q⟩
theorem rIfE {t : TT} {ta tb : TE} (h : t σ H fun c H1 => if c = true then ta σ H1 Q else tb σ H1 Q) : tIf t ta tb σ H Q := h
theorem rAnd {t u : TT} {QB : Bool → Hp → Prop} (h : t σ H fun c H1 => if c = true then u σ H1 QB else QB false H1) : tAnd t u σ H QB := h
theorem rOr {t u : TT} {QB : Bool → Hp → Prop} (h : t σ H fun c H1 => if c = true then QB true H1 else u σ H1 QB) : tOr t u σ H QB := h
theorem rNot {t : TT} {QB : Bool → Hp → Prop} (h : t σ H fun c H1 => QB (!c) H1) : tNot t σ H QB := h
theorem rAndV {ta tb : TE} (h : ta σ H fun x H1 => ∃ c, x = .bl c ∧ if c = true then tb σ H1 Q else Q (.bl false) H1) : tAndV ta tb σ H Q := h
theorem rOrV {ta tb : TE} (h : ta σ H fun x H1 => ∃ c, x = .bl c ∧ if c = true then Q (.bl true) H1 else tb σ H1 Q) : tOrV ta tb σ H Q := h
theorem rNotV {ta : TE} (h : ta σ H fun x H1 => ∃ c, x = .bl c ∧ Q (.bl (!c)) H1) : tNotV ta σ H Q := h
theorem rT {c : Bool} {A B : Prop} (hb : c = true) (a : A) : if c = true then A else B := by rw [hb]; exact iteT a
theorem rF {c : Bool} {A B : Prop} (hb : c = false) (b : B) : if c = true then A else B := by rw [hb]; exact iteF b
def ITupQ (K : PySem.W.Frag) (R : It → Hp → Prop) : VK := fun x H1 => ∃ a, x = .ref a ∧ (∃ xs, SqT K H1 a xs) ∧ R (Itt K a) H1
def IListQ (K : PySem.W.Frag) (R : It → Hp → Prop) : VK := fun x H1 => ∃ a, x = .ref a ∧ (∃ xs, SqL K H1 a xs) ∧ R (Itl K a) H1
def IRng1Q (R : It → Hp → Prop) : List V → Hp → Prop := fun vs H1 => ∃ j : Int, vs = [.int j] ∧ -(2 ^ 62) ≤ j ∧ j < 2 ^ 62 ∧ R (Itr 0 j.toNat) H1
theorem rITup {R : It → Hp → Prop} {p : Addr} {xs : List V} (h : SqT K H p xs) (q : R (Itt K p) H) : ITupQ K R (.ref p) H := ⟨p, rfl, ⟨xs, h⟩, q⟩
theorem rIList {R : It → Hp → Prop} {p : Addr} {xs : List V} (h : SqL K H p xs) (q : R (Itl K p) H) : IListQ K R (.ref p) H := ⟨p, rfl, ⟨xs, h⟩, q⟩
theorem rIRng1 {R : It → Hp → Prop} {n : Nat} (l : n ≤ 1000000) (q : R (Itr 0 n) H) : IRng1Q R [V.int (n : Nat)] H := ⟨n, rfl, by omega, by omega, q⟩
theorem riTup {tl : TE} {R : It → Hp → Prop} (h : tl σ H (ITupQ K R)) : iTup K tl σ H R := h
theorem riList {tl : TE} {R : It → Hp → Prop} (h : tl σ H (IListQ K R)) : iList K tl σ H R := h
theorem riRng1 {ta : TA} {R : It → Hp → Prop} (h : ta σ H (IRng1Q R)) : iRng1 ta σ H R := h
theorem rSlice {r : V → Option Int → Option Int → Hp → VK → Prop} {te : TE} {tl th : TO} (h : te σ H fun x H1 => tl σ H1 fun l H2 => th σ H2 fun u H3 => r x l u H3 Q) : tSl r te tl th σ H Q := h
theorem rNoPart {QO : Option Int → Hp → Prop} (q : QO none H) : tNoPart σ H QO := q
theorem rPart {t : TE} {QO : Option Int → Hp → Prop} (h : t σ H fun x H1 => ∃ i, x = .int i ∧ QO (some i) H1) : tPart t σ H QO := h
theorem rPart_ {i : Int} {QI : Int → Prop} (q : QI i) : ∃ j, V.int i = .int j ∧ QI j := ⟨i, rfl, q⟩
/-- t + u: some tuple that holds both -/
theorem rCat {a b : Addr} {xs ys : List V} (ha : SqT K H a xs) (hb : SqT K H b ys) (l : xs.length + ys.length ≤ sizeLine) (q : ∀ p H2, Same H H2 → SqT K H2 p (xs ++ ys) → Q (.ref p) H2) : rCatA K (.ref a) (.ref b) H Q :=
  ⟨a, b, xs, ys, rfl, rfl, ha, hb, l, fun e => q b H (Same.refl H) (by rw [e]; exact hb), fun _ e => q a H (Same.refl H) (by rw [e, List.append_nil]; exact ha), fun _ _ p n => q p _ (same_new n) (SqT.of upd_same)⟩
theorem sIx_zero (n : Nat) : HT.sIx n 0 none = 0 := HT.sIx_none n 0
/-- t[lo:hi]: some tuple of them -/
theorem rSl {a : Addr} {xs : List V} {lo hi : Option Int} (ha : SqT K H a xs) (q : ∀ p H2, Same H H2 → SqT K H2 p (cutV xs lo hi) → Q (.ref p) H2) : rSlA K (.ref a) lo hi H Q := by
  refine ⟨a, xs, rfl, ha, fun e => q a H (Same.refl H) ?_, fun _ p n => q p _ (same_new n) (SqT.of upd_same)⟩
  have : cutV xs lo hi = xs := by
    unfold cutV
    rw [e.1, e.2, List.drop_zero, Nat.sub_zero, List.take_length]
  rw [this]; exact ha
theorem rLc {wi : TI} {g : TG} {tt : TT} {te : TE} {vs : List Nat} (h : wi σ H fun J H1 => ∀ D, H1 D = none → ∃ W : Nat → Nat → Hp → Prop, (∃ m, W 0 m (upd H1 D (.lst []))) ∧ ∀ i m H, W i m H →
  (J.stop i H ∧ Q (.ref D) H) ∨ (J.go i H ∧ ∃ Nx : Hp → Prop, (∀ H', Nx H' → ∃ m', m' < m ∧ W (i + 1) m' H') ∧ ∀ x H', J.yld i H x H' → g x (wipe σ vs) H' fun σ2 H2 => wipe σ2 vs = wipe σ vs ∧ tt σ2 H2 fun b H3 =>
    if b = true then te σ2 H3 fun y H4 => ∃ acc, H4 D = some (.lst acc) ∧ acc.length < sizeLine ∧ Nx (upd H4 D (.lst (acc ++ [y]))) else Nx H3)) : tLc wi g tt te vs σ H Q := h
theorem rYes {QB : Bool → Hp → Prop} (q : QB true H) : tYes σ H QB := q
theorem rFor {wi : TI} {g : TG} {tb : TS} {D : Ends} (h : wi σ H fun J H1 => ∃ W : Nat → Nat → L2.St → Hp → Prop, (∃ m, W 0 m σ H1) ∧ ∀ i m σ H, W i m σ H →
  (J.stop i H ∧ D.nx σ H) ∨ (J.go i H ∧ ∃ N : L2.St → Hp → Prop, (∀ σ' H', N σ' H' → ∃ m', m' < m ∧ W (i + 1) m' σ' H') ∧ ∀ x H', J.yld i H x H' → g x σ H' fun σ2 H2 => tb { D with nx := N, ct := N, bk := D.nx } σ2 H2)) : tFor wi g tb D σ H := h
/-- what a comprehension has made -/
def Made (D : Addr) (Iv : Nat → List V → Hp → Prop) (i : Nat) (H : Hp) : Prop := ∃ acc, H D = some (.lst acc) ∧ acc.length ≤ i ∧ Iv i acc H
theorem made0 {D : Addr} {Iv : Nat → List V → Hp → Prop} {H : Hp} (h : Iv 0 [] (upd H D (.lst []))) : Made D Iv 0 (upd H D (.lst [])) := ⟨[], upd_same, Nat.le_refl _, h⟩
theorem madeS {D : Addr} {Iv : Nat → List V → Hp → Prop} {H : Hp} {i : Nat} {acc : List V} {y : V} (e : H D = some (.lst acc)) (l : acc.length ≤ i) (hi : i < 100000) (h : Iv (i + 1) (acc ++ [y]) (upd H D (.lst (acc ++ [y])))) :
    ∃ acc, H D = some (.lst acc) ∧ acc.length < sizeLine ∧ Made D Iv (i + 1) (upd H D (.lst (acc ++ [y]))) :=
  ⟨acc, e, Nat.lt_of_le_of_lt l (Nat.lt_of_lt_of_le hi (by decide)), _, upd_same, by rw [List.length_append]; simp; exact l, h⟩
theorem atI_lt {xs : List V} {k : Int} (h0 : 0 ≤ k) (h1 : k < xs.length) : ∃ v, atI xs k = some v ∧ v ∈ xs := by
  obtain ⟨n, rfl⟩ := Int.eq_ofNat_of_zero_le h0
  have hlt : n < xs.length := by omega
  exact ⟨xs[n], atI_nat (List.getElem?_eq_getElem hlt), List.getElem_mem hlt⟩
end

/-! ### the mathematics: words, sayings, cells -/
inductive Co | white | yellow | black | blue | green | red
  deriving DecidableEq
inductive Du | party | cut | quartered
  deriving DecidableEq
inductive Pi | pillar | band | head | edge
  deriving DecidableEq
def Co.s : Co → Str
  | .white => "white" | .yellow => "yellow" | .black => "black" | .blue => "blue" | .green => "green" | .red => "red"
def Du.s : Du → Str
  | .party => "party" | .cut => "cut" | .quartered => "quartered"
def Pi.s : Pi → Str
  | .pillar => "pillar" | .band => "band" | .head => "head" | .edge => "edge"
inductive Tr | col (c : Co) | two (d : Du) (a b : Tr) | pc (p : Pi) (c : Co) (b : Tr)
def Tr.wds : Tr → List Str
  | .col c => [c.s]
  | .two d a b => d.s :: (a.wds ++ b.wds)
  | .pc p c b => p.s :: c.s :: b.wds
def Du.fits (w h : Nat) : Du → Bool
  | .party => 2 ≤ w | .cut => 2 ≤ h | .quartered => 2 ≤ w && 2 ≤ h
def Du.pw (w : Nat) : Du → Nat
  | .party => w / 2 | .cut => w | .quartered => w / 2
def Du.ph (h : Nat) : Du → Nat
  | .party => h | .cut => h / 2 | .quartered => h / 2
def Pi.fits (w h : Nat) : Pi → Bool
  | .pillar => 4 ≤ w | .band => 4 ≤ h | .head => 4 ≤ h | .edge => 4 ≤ w && 4 ≤ h
def Tr.ok : Nat → Nat → Tr → Prop
  | _, _, .col _ => True
  | w, h, .two d a b => d.fits w h = true ∧ a.ok (d.pw w) (d.ph h) ∧ b.ok (d.pw w) (d.ph h)
  | w, h, .pc p _ b => p.fits w h = true ∧ b.ok w h
def Pi.own (w h r c : Nat) : Pi → Bool
  | .pillar => w / 4 ≤ c && c < w - w / 4
  | .band => h / 4 ≤ r && r < h - h / 4
  | .head => r < h / 4
  | .edge => r == 0 || r == h - 1 || c == 0 || c == w - 1
def Tr.cell : Nat → Nat → Tr → Nat → Nat → Co
  | _, _, .col c, _, _ => c
  | w, h, .two d a b, r, c =>
    if (c / d.pw w + r / d.ph h) % 2 = 0 then a.cell (d.pw w) (d.ph h) (r % d.ph h) (c % d.pw w) else b.cell (d.pw w) (d.ph h) (r % d.ph h) (c % d.pw w)
  | w, h, .pc p k b, r, c => if p.own w h r c then k else b.cell w h r c
def Side (n : Nat) : Prop := n = 1 ∨ n = 2 ∨ n = 4 ∨ n = 8
def grid (w h : Nat) (f : Nat → Nat → Co) : List (List Co) := (List.range h).map fun r => (List.range w).map fun c => f r c
def cs (l : List Co) : List V := l.map fun c => V.str c.s
/-- a drawing at p -/
def Drw (K : PySem.W.Frag) (H : Hp) (p : Addr) (rows : List (List Co)) : Prop := ∃ as : List Addr, SqT K H p (as.map V.ref) ∧ Paired (fun a row => SqT K H a (cs row)) as rows
theorem Imm.drw {K : PySem.W.Frag} {H H' : Hp} {p : Addr} {rows : List (List Co)} (e : Imm H H') (h : Drw K H p rows) : Drw K H' p rows := by
  obtain ⟨as, h1, h2⟩ := h
  exact ⟨as, e.sqT h1, Paired.mapP h2 fun _ _ z => e.sqT z⟩
def ws (l : List Str) : List V := l.map V.str
theorem Co.mem (c : Co) : c.s ∈ [Co.white.s, Co.yellow.s, Co.black.s, Co.blue.s, Co.green.s, Co.red.s] := by cases c <;> simp [Co.s]

/-! ### data that is compared -/
theorem eqvAll_map {α : Type} [DecidableEq α] {f : α → PyData} (h : ∀ x y, PyData.eqv (f x) (f y) = decide (x = y)) : ∀ a b : List α, PyData.eqvAll (a.map f) (b.map f) = decide (a = b)
  | [], [] => by simp [PyData.eqvAll]
  | [], y :: ys => by simp [PyData.eqvAll]
  | x :: xs, [] => by simp [PyData.eqvAll]
  | x :: xs, y :: ys => by
    rw [List.map_cons, List.map_cons, PyData.eqvAll, h, eqvAll_map h xs ys]
    by_cases e : x = y
    · subst e; simp
    · simp [e]
theorem eqv_str (x y : Str) : PyData.eqv (.str x) (.str y) = decide (x = y) := by
  rw [PyData.eqv]
  by_cases e : x = y
  · subst e; simp
  · rw [decide_eq_false e]; exact beq_eq_false_iff_ne.mpr e
theorem can_map {α : Type} {f : α → PyData} (h : ∀ x, (f x).canLay0 = true) : ∀ a : List α, PyData.canLayAll0 (a.map f) = true
  | [] => by simp [PyData.canLayAll0]
  | x :: xs => by rw [List.map_cons, PyData.canLayAll0, h x, can_map h xs]; rfl
theorem depth_map {α : Type} {f : α → PyData} {n : Nat} (h : ∀ x, (f x).depth ≤ n) : ∀ a : List α, PyData.depthAll (a.map f) ≤ n
  | [] => by simp [PyData.depthAll]
  | x :: xs => by
    rw [List.map_cons, PyData.depthAll]
    exact Nat.max_le.mpr ⟨h x, depth_map h xs⟩
/-- words that are compared -/
inductive Kw | c (c : Co) | d (d : Du) | p (p : Pi)
  deriving DecidableEq
def Kw.s : Kw → Str
  | .c x => x.s | .d x => x.s | .p x => x.s
theorem Kw.inj {a b : Kw} (h : a.s = b.s) : a = b := by
  revert h
  rcases a with c | c | c <;> rcases b with e | e | e <;> cases c <;> cases e <;> first | (intro _; rfl) | (intro h; exact absurd h (by decide +kernel))
theorem Kw.eqv (a b : Kw) : PyData.eqv (.str a.s) (.str b.s) = decide (a = b) := by
  rw [eqv_str]
  by_cases e : a = b
  · subst e; simp
  · rw [decide_eq_false e, decide_eq_false (fun h => e (Kw.inj h))]
theorem Kw.can (a : Kw) : (PyData.str a.s).canLay0 = true := by
  rcases a with c | c | c <;> cases c <;> decide +kernel
theorem Co.inj {a b : Co} (h : a.s = b.s) : a = b := by
  have := Kw.inj (a := .c a) (b := .c b) h
  cases this; rfl
theorem Co.eqv (a b : Co) : PyData.eqv (.str a.s) (.str b.s) = decide (a = b) := by
  have := Kw.eqv (.c a) (.c b)
  rw [show PyData.eqv (.str a.s) (.str b.s) = PyData.eqv (.str (Kw.c a).s) (.str (Kw.c b).s) from rfl, this]
  by_cases e : a = b
  · subst e; simp
  · simp [e]
theorem Co.can (a : Co) : (PyData.str a.s).canLay0 = true := Kw.can (.c a)
def dKws (l : List Kw) : List PyData := l.map fun k => .str k.s
def dRow (l : List Co) : PyData := .tuple (l.map fun c => .str c.s)
def dRows (l : List (List Co)) : PyData := .tuple (l.map dRow)
theorem dRow_eqv (a b : List Co) : PyData.eqv (dRow a) (dRow b) = decide (a = b) := by
  unfold dRow
  rw [PyData.eqv]
  exact eqvAll_map Co.eqv a b
theorem dRows_eqv (a b : List (List Co)) : PyData.eqv (dRows a) (dRows b) = decide (a = b) := by
  unfold dRows
  rw [PyData.eqv]
  exact eqvAll_map dRow_eqv a b
theorem dRow_can (a : List Co) : (dRow a).canLay0 = true := by
  unfold dRow
  rw [PyData.canLay0]
  exact can_map Co.can a
theorem dRow_depth (a : List Co) : (dRow a).depth ≤ 1 := by
  unfold dRow
  rw [PyData.depth]
  exact Nat.succ_le_succ (depth_map (n := 0) (fun x => by rw [PyData.depth]; exact Nat.le_refl _) a)
theorem dRows_shaped (a : List (List Co)) : SeqAt.shaped (dRows a) = true := by
  unfold SeqAt.shaped dRows
  rw [PyData.canLay0, can_map dRow_can, PyData.depth]
  have := depth_map (n := 1) dRow_depth a
  simp; omega
theorem dKws_shaped (l : List Kw) : SeqAt.shaped (.list (dKws l)) = true := by
  unfold SeqAt.shaped dKws
  rw [PyData.canLay0, can_map Kw.can, PyData.depth]
  have := depth_map (n := 0) (f := fun k : Kw => PyData.str k.s) (fun x => by rw [PyData.depth]; exact Nat.le_refl _) l
  simp; omega
section
variable {K : PySem.W.Frag} {H : Hp}
theorem dpAll_map {α : Type} {f : α → V} {g : α → PyData} (h : ∀ x, Dp K H (f x) (g x)) : ∀ l : List α, DpAll K H (l.map f) (l.map g)
  | [] => .nil
  | x :: xs => .cons (h x) (dpAll_map h xs)
theorem dpAll_pair {α β : Type} {f : α → V} {g : β → PyData} : ∀ {l : List α} {m : List β}, Paired (fun x y => Dp K H (f x) (g y)) l m → DpAll K H (l.map f) (m.map g)
  | _, _, .nil => .nil
  | _, _, .cons r t => .cons r (dpAll_pair t)
theorem Drw.dp {p : Addr} {rows : List (List Co)} (h : Drw K H p rows) : Dp K H (.ref p) (dRows rows) := by
  obtain ⟨as, h1, h2⟩ := h
  exact .tup h1 (dpAll_pair (Paired.mapP h2 fun a b z => .tup z (dpAll_map (f := fun c : Co => V.str c.s) (fun c => .str _) b)))
theorem dp_kws {p : Addr} {l : List Kw} (h : SqL K H p (l.map fun k => V.str k.s)) : Dp K H (.ref p) (.list (dKws l)) := .lst h (dpAll_map (f := fun k : Kw => V.str k.s) (fun k => .str _) l)
end
section
variable {σ : L2.St} {H : Hp} {Q : VK} {K : PySem.W.Frag}
/-- two drawings -/
theorem rEqDrw {p q : Addr} {a b : List (List Co)} (ha : Drw K H p a) (hb : Drw K H q b) (k : Q (.bl (decide (a = b))) H) : rEqD K (.ref p) (.ref q) H Q :=
  ⟨_, _, ha.dp, hb.dp, dRows_shaped a, dRows_shaped b, by rw [dRows_eqv]; exact k⟩
theorem rNeDrw {p q : Addr} {a b : List (List Co)} (ha : Drw K H p a) (hb : Drw K H q b) (k : Q (.bl (!decide (a = b))) H) : rNeD K (.ref p) (.ref q) H Q :=
  ⟨_, _, ha.dp, hb.dp, dRows_shaped a, dRows_shaped b, by rw [dRows_eqv]; exact k⟩
theorem rEqKws {p q : Addr} {a b : List Kw} (ha : SqL K H p (a.map fun k => V.str k.s)) (hb : SqL K H q (b.map fun k => V.str k.s)) (k : Q (.bl (decide (a = b))) H) : rEqD K (.ref p) (.ref q) H Q :=
  ⟨_, _, dp_kws ha, dp_kws hb, dKws_shaped a, dKws_shaped b, by rw [PyData.eqv, show PyData.eqvAll (dKws a) (dKws b) = decide (a = b) from eqvAll_map Kw.eqv a b]; exact k⟩
theorem rPairs0 {QP : List (V × V) → Hp → Prop} (q : QP [] H) : tPairs [] σ H QP := q
theorem rPairsS {tk tv : TE} {r : List (TE × TE)} {QP : List (V × V) → Hp → Prop} (h : tk σ H fun x H1 => tv σ H1 fun y H2 => tPairs r σ H2 fun ps H3 => QP ((x, y) :: ps) H3) : tPairs ((tk, tv) :: r) σ H QP := h
def DispQ (Q : VK) (p : Addr) : List (V × V) → Hp → Prop := fun ps H2 => H2 p = some (.dK []) ∧ ∃ kvs : List (Key × V), ps = kvs.map (fun kv => (kV kv.1, kv.2)) ∧ kvs.length ≤ 15 ∧ Q (.ref p) (upd H2 p (.dK (mergeK [] kvs)))
theorem rDisp {trs : List (TE × TE)} (h : ∀ p H1, H p = none → Same H H1 → H1 p = some (.dK []) → tPairs trs σ H1 (DispQ Q p)) : tDisp trs σ H Q :=
  fun p n => h p _ n (same_new n) upd_same
theorem chg_dk {H : Hp} {r : Addr} {xs : List (Key × V)} {o : HO} (h : H r = some (.dK xs)) : Chg r H (upd H r o) :=
  ⟨⟨fun b ys e => by rw [upd_ne (ne_of e h (by intro z; cases z))]; exact e, fun b x u e => by rw [upd_ne (ne_of e h (by intro z; cases z))]; exact e⟩,
   fun b x nb e => by rw [upd_ne nb]; exact e⟩
theorem rDispEnd {p : Addr} {ps : List (V × V)} (kvs : List (Key × V)) (h : H p = some (.dK [])) (e : ps = kvs.map (fun kv => (kV kv.1, kv.2))) (l : kvs.length ≤ 15)
    (q : ∀ H3, Chg p H H3 → H3 p = some (.dK (mergeK [] kvs)) → Q (.ref p) H3) : DispQ Q p ps H := ⟨h, kvs, e, l, q _ (chg_dk h) upd_same⟩
theorem same_chg {H0 H1 H2 : Hp} {p : Addr} (a : Same H0 H1) (c : Chg p H1 H2) (n : H0 p = none) : Same H0 H2 := fun b o e => c.2 b o (ne_of_none e n) (a b o e)
theorem rDGet2 {td ty tx : TE} (h : td σ H fun x H1 => ∃ a, x = .ref a ∧ IsD H1 a ∧ ty σ H1 fun y H2 => tx σ H2 fun z H3 => ∃ o, DGet H3 a y o ∧ Q (o.getD z) H3) : tDGet2 td ty tx σ H Q := h
theorem rGTup {n : Nat} {t : TGs} {a : Addr} {xs : List V} {QS : L2.St → Hp → Prop} (h : SqT K H a xs) (l : xs.length = n) (q : t xs σ H QS) : gTup K n t (.ref a) σ H QS := ⟨a, xs, rfl, h, l, q⟩
theorem rGTupE {n : Nat} {t : TGs} {a : Addr} {xs : List V} {v : V} {QS : L2.St → Hp → Prop} (e : v = .ref a) (h : SqT K H a xs) (l : xs.length = n) (q : t xs σ H QS) : gTup K n t v σ H QS := ⟨a, xs, e, h, l, q⟩
theorem rGCons {t : TG} {u : TGs} {v : V} {r : List V} {QS : L2.St → Hp → Prop} (q : t v σ H fun σ' H' => u r σ' H' QS) : gCons t u (v :: r) σ H QS := ⟨v, r, rfl, q⟩
theorem rGNil {QS : L2.St → Hp → Prop} (q : QS σ H) : gNil [] σ H QS := ⟨rfl, q⟩
theorem same_at {H' : Hp} {p : Addr} {o : HO} (s : Same H H') (h : H p = some o) : H' p = some o := s _ _ h
/-- from an inner heap to one behind it where only what is new was changed -/
theorem same_back {H0 H1 H2 : Hp} {p : Addr} {o : HO} (a : Same H0 H1) (n : H0 p = none) (b : Same H1 H2) : Same H0 (upd H2 p o) := same_upd (a.trans b) n
end
theorem fnok_none {P : Program} {w : World} {K : PySem.W.Frag} {mg : Str → Option Value} {base : Heap} {CX : CXT} {j : Nat} {f : Addr} {fd : FuncData} {ps : List Str} {sp : Sp} (no : ∀ vs H Q E, ¬ sp vs H Q E) : FnOk P w K mg base CX j f fd ps sp :=
  ⟨fun vs H Q E h => absurd h (no vs H Q E), fun A outer s H args us vs Q E _ _ _ _ h => absurd h (no vs H Q E)⟩

theorem inV_du (x : Du) : inV (.str x.s) [.str "party", .str "cut", .str "quartered"] = true := by cases x <;> decide +kernel
theorem inV_pi (x : Pi) : inV (.str x.s) [.str "party", .str "cut", .str "quartered"] = false := by cases x <;> decide +kernel
theorem ws_len (l : List Str) : (ws l).length = l.length := List.length_map _
theorem ws_app (a b : List Str) : ws (a ++ b) = ws a ++ ws b := List.map_append
theorem le_line {n : Nat} (h : n ≤ 100000) : n ≤ sizeLine := Nat.le_trans h (by decide)
theorem get_map {α : Type} {f : α → V} {l : List α} {i : Nat} {x : V} (h : (l.map f)[i]? = some x) : ∃ z, l[i]? = some z ∧ x = f z := by
  rw [List.getElem?_map] at h
  cases hq : l[i]? with
  | none => rw [hq] at h; cases h
  | some z => rw [hq] at h; exact ⟨z, rfl, (Option.some.inj h).symm⟩
theorem take_next {α : Type} {l : List α} {i : Nat} {z : α} (h : l[i]? = some z) : l.take (i + 1) = l.take i ++ [z] := by
  rw [List.take_add_one, h]; rfl
/-- min of four ints -/
theorem four_args (a b c d : Value) : argsOk "min" ⟨[a, b, c, d], []⟩ := by
  unfold argsOk
  kernel_rfl
def quad (a b c d : Int × Tok) : Array (Int × Tok) := #[a, b, c, d]
theorem min_four {prog : Program} {w : World} {A : Around} {E : Value → Shared → Prop} {s : Shared} {a b c d : Int × Tok} {R : Value → Shared → Prop} (hot : A.handled = none)
    (k : ∀ m h' tk, (∃ t, m = .int (numAt (quad a b c d) (argBest (fun i j => decide (numAt (quad a b c d) i < numAt (quad a b c d) j)) 3)) t) →
      (∀ p o, s.heap.get? p = some o → h'.get? p = some o) → R m { s with heap := h', toks := tk }) :
    wpAny (model prog w) A (call (.builtin "min") [.int a.1 a.2, .int b.1 b.2, .int c.1 c.2, .int d.1 d.2]) R E s := by
  have loopName : (toString "min" ++
      toString ".loop" : String) = "min.loop" := by decide
  refine call_function_tree F.kind_min F.plain_min F.entry_min
    (four_args _ _ _ _) ?_
  show wpAny _ _ (Builtin.Builtins.bindParams "min" ["key", "default"] 0
    ⟨[], []⟩ >>= _) _ _ _
  refine wpAny_bind (wpAny_of_eq (show Builtin.Builtins.bindParams "min"
    ["key", "default"] 0 ⟨[], []⟩ = pure [none, none] from rfl) ?_)
  show wpAny _ _ (newTuple [.int a.1 a.2, .int b.1 b.2, .int c.1 c.2, .int d.1 d.2] >>= _) _ _ _
  refine wpAny_bind (wpAny_newObj_type ?_)
  have tup : (s.heap.push { cls := .type "tuple", data := .seq (intItems (quad a b c d)) }).IsTuple s.heap.objs.size (intItems (quad a b c d)) :=
    ⟨_, Heap.get?_push_size _ rfl, rfl, 0, rfl⟩
  have size1 : (s.heap.push { cls := .type "tuple", data := .seq (intItems (quad a b c d)) }).objs.size = s.heap.objs.size + 1 := by
    rw [Heap.size_push]
  have Wk := Walks.tuple (prog := prog) (w := w) (A := A.in1) hot (s.heap.objs.size + 1) s.heap.objs.size (Nat.ne_of_lt (Nat.lt_succ_self _)) (intItems (quad a b c d))
  have lit : intItems (quad a b c d) = #[.int a.1 a.2, .int b.1 b.2, .int c.1 c.2, .int d.1 d.2] := by
    simp [intItems, quad]
  have at_ : ∀ (i : Nat) (v : Value), (#[.int a.1 a.2, .int b.1 b.2, .int c.1 c.2, .int d.1 d.2] : Array Value)[i]? = some v → ∃ t, v = .int (numAt (quad a b c d) i) t := fun i v e => by
    rw [← lit] at e
    exact intItems_at e
  rw [lit] at tup size1 Wk
  refine wpAny_bind (wpAny_pyIter_tuple tup ?_)
  rw [size1]
  refine wpAny_bind (wpAny_newObj_type ?_)
  have old : ∀ p o, s.heap.get? p = some o → p < s.heap.objs.size := fun p o e => Heap.lt_size e
  rw [loopName]
  refine wpAny_pure ⟨plainId_quiet F.plain_min_loop _, ?_⟩
  refine codeAny_min_loop_first Wk _ (CmpOf.ints_lt (numAt (quad a b c d)) at_) _ ?_ (show 0 < 4 by decide) ?_ (Heap.get?_push_size _ rfl) ?_
  · rw [Heap.size_push, size1]
    intro z
    rcases List.mem_cons.mp z with z | z
    · exact absurd z (Nat.ne_of_gt (Nat.lt_succ_self _))
    · exact absurd (List.mem_singleton.mp z) (Nat.ne_of_gt (Nat.lt_succ_of_lt (Nat.lt_succ_self _)))
  · refine ⟨⟨_, Heap.get?_push_of_some _ (by rw [← size1]; exact Heap.get?_push_size _ rfl), rfl, rfl⟩, ?_⟩
    exact (tup.push _).push _
  · intro m h' tk hm kept
    refine k m h' tk (at_ _ _ hm) fun p o e => kept p o ?_ ?_ ?_
    · intro z
      exact absurd (List.mem_singleton.mp z) (Nat.ne_of_lt (Nat.lt_succ_of_lt (old p o e)))
    · rw [Heap.size_push, size1]
      exact Nat.ne_of_lt (Nat.lt_succ_of_lt (Nat.lt_succ_of_lt (old p o e)))
    · exact Heap.get?_push_of_some _ (Heap.get?_push_of_some _ (Heap.get?_push_of_some _ e))
def rMin4 : List V → Hp → VK → Prop := fun xs H Q => ∃ a b c d, xs = [.int a, .int b, .int c, .int d] ∧
  ∀ m, m ≤ a → m ≤ b → m ≤ c → m ≤ d → (m = a ∨ m = b ∨ m = c ∨ m = d) → Q (.int m) H
theorem z_min4 {X : Cx} (calm : X.calm = true) : CallR X (.builtin "min") rMin4 := by
  intro pins s σ H xs us Q I r h
  obtain ⟨a, b, c, d, rfl, q⟩ := h
  cases r with
  | cons r1 r => cases r with
  | cons r2 r => cases r with
  | cons r3 r => cases r with
  | cons r4 r =>
    cases r
    obtain ⟨t1, rfl⟩ := r1
    obtain ⟨t2, rfl⟩ := r2
    obtain ⟨t3, rfl⟩ := r3
    obtain ⟨t4, rfl⟩ := r4
    refine min_four (a := (a, t1)) (b := (b, t2)) (c := (c, t3)) (d := (d, t4)) (I.ok.hd calm) fun m h' tk hm kept => ?_
    obtain ⟨t, rfl⟩ := hm
    obtain ⟨least1, least2⟩ := argBest_lt (numAt (quad (a, t1) (b, t2) (c, t3) (d, t4))) 3
    have n0 := least2 0 (by decide)
    have n1 := least2 1 (by decide)
    have n2 := least2 2 (by decide)
    have n3 := least2 3 (by decide)
    generalize argBest (fun i j => decide (numAt (quad (a, t1) (b, t2) (c, t3) (d, t4)) i < numAt (quad (a, t1) (b, t2) (c, t3) (d, t4)) j)) 3 = z at *
    refine ⟨.int _, H, I.kept kept, ⟨t, rfl⟩, q _ n0 n1 n2 n3 ?_⟩
    match z, least1 with
    | 0, _ => exact .inl rfl
    | 1, _ => exact .inr (.inl rfl)
    | 2, _ => exact .inr (.inr (.inl rfl))
    | 3, _ => exact .inr (.inr (.inr rfl))

section
variable {σ : L2.St} {H : Hp} {Q : VK} {K : PySem.W.Frag}
theorem rMin4_ {a b c d : Int} (q : ∀ m, m ≤ a → m ≤ b → m ≤ c → m ≤ d → (m = a ∨ m = b ∨ m = c ∨ m = d) → Q (.int m) H) : rMin4 [.int a, .int b, .int c, .int d] H Q := ⟨a, b, c, d, rfl, q⟩
theorem rWhile {c : TT} {tb : TS} {D : Ends} (W : Nat → L2.St → Hp → Prop) (h0 : ∃ m, W m σ H) (hs : ∀ m σ H, W m σ H → c σ H fun b H1 => if b = true then ∃ N : L2.St → Hp → Prop, (∀ σ' H', N σ' H' → ∃ m', m' < m ∧ W m' σ' H') ∧
  tb { D with nx := N, ct := N, bk := D.nx } σ H1 else D.nx σ H1) : tWhile c tb D σ H := ⟨W, h0, hs⟩
/-- a slice, by numbers that are not negative -/
theorem cut_to (xs : List V) (n : Nat) : cutV xs none (some (n : Int)) = xs.take n := by
  unfold cutV
  rw [HT.sIx_none, HT.sIx_nat, List.drop_zero, Nat.sub_zero]
  by_cases h : n ≤ xs.length
  · rw [Nat.min_eq_left h]
  · rw [Nat.min_eq_right (by omega), List.take_length, List.take_of_length_le (by omega)]
theorem cut_from (xs : List V) (n : Nat) : cutV xs (some (n : Int)) none = xs.drop n := by
  unfold cutV
  rw [HT.sIx_none, HT.sIx_nat]
  by_cases h : n ≤ xs.length
  · rw [Nat.min_eq_left h, List.take_of_length_le (by rw [List.length_drop]; exact Nat.le_refl _)]
  · rw [Nat.min_eq_right (by omega), List.drop_length, List.drop_of_length_le (by omega), List.take_nil]
theorem cut_one (xs : List V) (n : Nat) : cutV xs (some (n : Int)) (some ((n : Int) + 1)) = (xs.drop n).take 1 := by
  unfold cutV
  rw [show ((n : Int) + 1) = ((n + 1 : Nat) : Int) from rfl, HT.sIx_nat, HT.sIx_nat]
  by_cases h : n < xs.length
  · rw [Nat.min_eq_left (by omega), Nat.min_eq_left (by omega), Nat.add_sub_cancel_left]
  · rw [Nat.min_eq_right (by omega), Nat.min_eq_right (by omega), List.drop_length, List.drop_of_length_le (by omega), List.take_nil, List.take_nil]
theorem one_or (l : List Str) (n : Nat) (w : Str) : (((ws l).drop n).take 1 ++ [.str w])[0]? = some (.str (l.getD n w)) := by
  rw [List.getD_eq_getElem?_getD]
  cases h : l[n]? with
  | none =>
    have : l.length ≤ n := List.getElem?_eq_none_iff.mp h
    rw [List.drop_of_length_le (by rw [ws_len]; exact this), List.take_nil]
    rfl
  | some z =>
    have hn : n < l.length := (List.getElem?_eq_some_iff.mp h).1
    have hz : (ws l)[n]? = some (.str z) := by unfold ws; rw [List.getElem?_map, h]; rfl
    have hn' : n < (ws l).length := by rw [ws_len]; exact hn
    rw [List.drop_eq_getElem_cons hn']
    rw [List.getElem?_eq_getElem hn'] at hz
    rw [Option.some.inj hz]
    rfl
end
theorem inV_pcs (x : Pi) : inV (.str x.s) [.str "pillar", .str "band", .str "head", .str "edge"] = true := by cases x <;> decide +kernel
theorem inV_pcs_du (x : Du) : inV (.str x.s) [.str "pillar", .str "band", .str "head", .str "edge"] = false := by cases x <;> decide +kernel
theorem inV_pcs_co (x : Co) : inV (.str x.s) [.str "pillar", .str "band", .str "head", .str "edge"] = false := by cases x <;> decide +kernel
theorem inV_du_co (x : Co) : inV (.str x.s) [.str "party", .str "cut", .str "quartered"] = false := by cases x <;> decide +kernel
/-- a saying's words as they are seen: those that are left out are white -/
def Seen (F l : List Str) : Prop := ∀ i, l.getD i Co.white.s = F.getD i Co.white.s

section
variable {σ : L2.St} {H : Hp} {Q : VK} {K : PySem.W.Frag}
theorem rBM {T : String} {r : V → List V → Hp → VK → Prop} {to : TE} {t : TA} (h : to σ H fun x H1 => tyV K T x H1 ∧ t σ H1 fun xs H2 => r x xs H2 Q) : tBM K T r to t σ H Q := h
theorem rBM0 {T : String} {r : V → List V → Hp → VK → Prop} {to : TE} (h : to σ H fun x H1 => tyV K T x H1 ∧ r x [] H1 Q) : tBM0 K T r to σ H Q := h
theorem rTyL {p : Addr} {xs : List V} {B : Prop} (h : SqL K H p xs) (q : B) : tyV K "list" (.ref p) H ∧ B := ⟨.inl ⟨rfl, _, h⟩, q⟩
theorem rAppend_ {l : Addr} {xs : List V} {y : V} (h : H l = some (.lst xs)) (n : xs.length < sizeLine) (q : ∀ H2, Chg l H H2 → H2 l = some (.lst (xs ++ [y])) → Q .non H2) : rAppend (.ref l) [y] H Q :=
  ⟨l, xs, y, rfl, rfl, h, n, q _ (chg_lst h) upd_same⟩
theorem rPop_ {l : Addr} {xs : List V} {y : V} (h : H l = some (.lst (xs ++ [y]))) (q : ∀ H2, Chg l H H2 → H2 l = some (.lst xs) → Q y H2) : rPop (.ref l) [] H Q :=
  ⟨l, xs ++ [y], y, rfl, rfl, h, by simp, by rw [List.dropLast_concat]; exact q _ (chg_lst h) upd_same⟩
theorem paired_snoc {α β : Type} {F : α → β → Prop} {x : α} {y : β} (f : F x y) : ∀ {l : List α} {m : List β}, Paired F l m → Paired F (l ++ [x]) (m ++ [y])
  | _, _, .nil => .cons f .nil
  | _, _, .cons r t => .cons r (paired_snoc f t)
theorem paired_len {α β : Type} {F : α → β → Prop} : ∀ {l : List α} {m : List β}, Paired F l m → l.length = m.length
  | _, _, .nil => rfl
  | _, _, .cons _ t => congrArg (· + 1) (paired_len t)
theorem lt_line {n : Nat} (h : n ≤ 100000) : n < sizeLine := Nat.lt_of_le_of_lt h (by decide)
end

/-! ### enumerate over a tuple -/
set_option maxHeartbeats 1000000 in
theorem enum1_new {v : Value} {ob : Obj} {G : Heap → Prop} (B : Begins v ob G) :
    Meets (Builtin.«enumerate.__new__» ⟨[.type "enumerate", v], []⟩) (fun _ R s => G s.heap ∧
      R (.ok (.ret (.ref (s.heap.push ob).objs.size)))
        { s with heap := (s.heap.push ob).push { cls := .type "enumerate", data := .fields #[.none, .bool false, .ref s.heap.objs.size, rawInt 0, .none, .none] } }) :=
  .of_wp fun prog w A R s both => by
    obtain ⟨hp, gs, dr, tk, os⟩ := s
    obtain ⟨g1, both⟩ := both
    have subs := sub_enumerate
    have begins : ∀ {A' : Around} {E Q' : Value → Shared → Prop}, Q' (.ref hp.objs.size) ⟨hp.push ob, gs, dr, tk, os⟩ →
        wpAny (model prog w) A' (pyIter v) Q' E ⟨hp, gs, dr, tk, os⟩ := fun z => B.iter prog w _ _ ⟨hp, gs, dr, tk, os⟩ _ g1 z
    wp_walk using begins
    refine wpAny_stack_any fun _ => wpAny_pure ?_
    split
    · rename_i c _ _ _ _ _
      cases (c == Value.type "enumerate")
      · wp_walk using begins
        exact ⟨_, rfl, both⟩
      · wp_walk using begins
        exact ⟨_, rfl, both⟩
    · wp_walk using begins
      exact ⟨_, rfl, both⟩
theorem enum1_begins {prog : Program} {w : World} {A : Around} {E : Value → Shared → Prop} {s : Shared} {v : Value} {ob : Obj} {G : Heap → Prop} {R : Value → Shared → Prop} (B : Begins v ob G) (g1 : G s.heap)
    (k : ∀ h', IsEnum h' (s.heap.objs.size + 1) s.heap.objs.size 0 .none → h'.get? s.heap.objs.size = some ob → (∀ b o, s.heap.get? b = some o → h'.get? b = some o) →
      R (.ref (s.heap.objs.size + 1)) { s with heap := h' }) : wpAny (model prog w) A (call (.type "enumerate") [v]) R E s := by
  refine callType_new F.called_enumerate (by decide) (F.typeCall_enumerate_1 _)
    (F.newCall_enumerate_1 _) (fun z => F.args_object_init_2 z _) F.entry_enumerate_new (enum1_new B) ⟨g1, ?_⟩
  have size1 : (s.heap.push ob).objs.size = s.heap.objs.size + 1 := by rw [Heap.size_push]
  show _ ∧ _
  rw [size1]
  have made : IsEnum ((s.heap.push ob).push { cls := .type "enumerate", data := .fields #[.none, .bool false, .ref s.heap.objs.size, rawInt 0, .none, .none] })
      (s.heap.objs.size + 1) s.heap.objs.size 0 .none := by
    have z := Heap.get?_push_size (s.heap.push ob) (o := { cls := .type "enumerate", data := .fields #[.none, .bool false, .ref s.heap.objs.size, rawInt 0, .none, .none] }) rfl
    rwa [size1] at z
  exact ⟨⟨_, made, rfl⟩, k _ made (Heap.get?_push_of_some _ (Heap.get?_push_size _ B.free)) fun b o e => Heap.get?_push_of_some _ (Heap.get?_push_of_some _ e)⟩
/-- the tuple at t as it stands at each turn, with its number -/
def IteT (K : PySem.W.Frag) (t : Addr) : It :=
  ⟨fun i H => ∃ (xs : List V) (x : V), SqT K H t xs ∧ xs[i]? = some x,
    fun i H v H' => ∃ T x, v = .ref T ∧ H T = none ∧ H' = upd H T (.tup [.int (i : Nat), x]) ∧ ∀ xs, SqT K H t xs → xs[i]? = some x,
    fun i H => ∃ xs : List V, SqT K H t xs ∧ xs.length = i⟩
theorem turn_enumT {P : Program} {w : World} {K : PySem.W.Frag} {elts : List Expr} {kk : Nat} {tpos : Pos} (t e it : Addr) :
    Turn P w K (.Tuple elts kk tpos) (IteT K t) [e, it] e (fun i h => (∃ old, IsEnum h e it ((i : Nat) : Int) old) ∧ h.IsTupleIter it t i ∧ e ≠ it ∧ t ≠ it ∧ e ≠ t) where
  mem := List.mem_cons_self
  obj := fun i h st b hb => by
    obtain ⟨⟨old, he⟩, ⟨o, ho, hc, hd⟩, _⟩ := st
    rcases List.mem_cons.mp hb with z | z
    · rw [z]
      exact ⟨_, he, fun v q => nomatch q⟩
    · refine ⟨o, by rw [List.mem_singleton.mp z]; exact ho, fun v q => ?_⟩
      rw [hd] at q
      cases q
  keep := fun i h h' st k => by
    obtain ⟨⟨old, he⟩, ht, ne⟩ := st
    exact ⟨⟨old, k e List.mem_cons_self _ he⟩, ht.at fun o z => k it (List.mem_cons_of_mem _ List.mem_cons_self) o z, ne⟩
  item := by
    intro X eP ew eK calm i pins s σ H E I fresh st go
    subst eP ew eK
    obtain ⟨⟨old, he⟩, hit, ne1, ne2, ne3⟩ := st
    obtain ⟨xs, x, hq, hx⟩ := go
    obtain ⟨its, rv, tup, _⟩ := I.tuple hq
    obtain ⟨u, hu, ru⟩ := rv.get hx
    have lt1 : e < s.heap.objs.size := Heap.lt_size he
    have lt2 : it < s.heap.objs.size := by
      obtain ⟨_, z, _⟩ := hit
      exact Heap.lt_size z
    have D := Draws.tuple (prog := X.prog) (w := X.w) (A := X.A.in1) (I.ok.hd calm) it t ne2 its.toArray
    have lt3 : i < its.toArray.size := by
      rw [List.size_toArray]
      exact (List.getElem?_eq_some_iff.mp hu).1
    refine wpAny_pyNext_enum_itemC D he ⟨hit, tup⟩ lt3 ne1 (by simp [ne1, ne3]) fun y h' tk hy out st' new _ kept => ?_
    have hy' : y = u := by
      rw [List.getElem?_toArray, hu] at hy
      exact (Option.some.inj hy).symm
    subst hy'
    refine ⟨_, rfl, wpAny_letOwnedTupleGo_enum (s := { s with heap := h', toks := tk + 1 }) out fun h'' he' sb => ?_⟩
    have same2 : h''.get? s.heap.objs.size = some { cls := .type "tuple", data := .seq #[.int i tk, y] } := (sb.2 _ (Nat.ne_of_gt lt1)).trans new
    have okT : ObjOk X.prog X.w (upd H s.heap.objs.size (.tup [.int (i : Nat), x])) h'' s.heap.objs.size (.tup [.int (i : Nat), x]) :=
      ⟨Nat.le_of_ble_eq_true rfl, [.int i tk, y], .cons ⟨_, rfl⟩ (.cons ru .nil), ⟨_, same2, rfl, _, rfl⟩⟩
    have I1 : Inv X pins σ (upd H s.heap.objs.size (.tup [.int (i : Nat), x])) { s with heap := h'', toks := tk + 1 } :=
      I.turnedNew (ch := [e, it]) (fun b ob nb q => (sb.2 b (fun z => nb (by simp [z]))).trans (kept b ob (fun z => nb (by simp [z])) (fun z => nb (by simp [z])) q)) fresh (Nat.le_refl _) okT
    refine ⟨.ref s.heap.objs.size, _, I1, rfl, ⟨_, x, rfl, I.hok.fresh (Nat.le_refl _), rfl, fun ys hy => ?_⟩, ⟨⟨y, ?_⟩, ?_, ne1, ne2, ne3⟩, fun b hb => ?_⟩
    · rw [I.tuple_inj hy hq]
      exact hx
    · rw [show ((i + 1 : Nat) : Int) = (i : Int) + 1 by omega]
      exact he'
    · exact st'.1.at fun o q => (sb.2 it (Ne.symm ne1)).trans q
    · have small : b < s.heap.objs.size := by
        rcases List.mem_cons.mp hb with z | z
        · rw [z]; exact lt1
        · rw [List.mem_singleton.mp z]; exact lt2
      rw [upd_ne (Nat.ne_of_lt small)]
      exact (fresh b hb).1
  done := by
    intro X eP ew eK calm i pins s σ H E I fresh st stop
    subst eP ew eK
    obtain ⟨⟨old, he⟩, hit, ne1, ne2, ne3⟩ := st
    obtain ⟨xs, hq, hx⟩ := stop
    obtain ⟨its, rv, tup, _⟩ := I.tuple hq
    obtain ⟨f0, f1, f2, f3, f4, f5⟩ := fresh it (List.mem_cons_of_mem _ List.mem_cons_self)
    have len := rv.length
    have D := Draws.tuple (prog := X.prog) (w := X.w) (A := X.A.in1) (I.ok.hd calm) it t ne2 its.toArray
    have atEnd : its.toArray.size = i := by rw [List.size_toArray]; omega
    exact wpAny_pyNext_enum_endD D he (by rw [atEnd]; exact ⟨hit, tup⟩) fun h' eb => ⟨rfl, I.turned (t' := s.toks) (fun b o nb q => eb b o nb q) f0 f1 f3 f4 f5⟩
  self := fun A i s Q E st q => by
    obtain ⟨⟨_, he⟩, _⟩ := st
    exact wpAny_pyIter_enum he q
def IEnumTQ (K : PySem.W.Frag) (R : It → Hp → Prop) : List V → Hp → Prop := fun vs H1 => ∃ t xs, vs = [.ref t] ∧ SqT K H1 t xs ∧ R (IteT K t) H1
def iEnumT (K : PySem.W.Frag) (ta : TA) : TI := fun σ H R => ta σ H (IEnumTQ K R)
theorem pi_enumT {X : Cx} {e : Expr} {ta : TA} {p pos tpos : Pos} {elts : List Expr} {kk : Nat} (hg : Gl X "enumerate") (hm : X.mg "enumerate" = none) (ha : PA X [e] ta)
    (plain : starEach [e] X.env = [(false, eval e X.env)] := by rfl) : PI X (.Tuple elts kk tpos) (.Call (.Name "enumerate" p) [e] [] pos) (iEnumT X.K ta) := by
  refine ⟨fun pins s σ H R I want => ?_⟩
  refine Call_ (ld_blt I hg hm boot_enumerate (callWith_type1 (thn (ha.run pos pins s σ H _ I want) fun us s1 ⟨vs, H1, I1, rel, got⟩ => ?_) plain rfl))
  obtain ⟨t, xs, rfl, hq, got⟩ := got
  cases rel with
  | cons r1 rest =>
    cases rest
    cases r1
    obtain ⟨its, rv, tup, _⟩ := I1.tuple hq
    have low : t < s1.heap.objs.size := by
      obtain ⟨o, z, _⟩ := tup
      exact Heap.lt_size z
    refine enum1_begins (begins_tuple t its.toArray) tup fun h' made iter kept => wpAny_pyIter_enum made ?_
    have I2 : Inv X pins σ H1 { s1 with heap := h' } := I1.kept (t' := s1.toks) kept
    refine ⟨s1.heap.objs.size + 1, [s1.heap.objs.size + 1, s1.heap.objs.size], _, _, H1, rfl, I2, turn_enumT t (s1.heap.objs.size + 1) s1.heap.objs.size,
      ⟨⟨.none, made⟩, ⟨_, iter, rfl, rfl⟩, Nat.succ_ne_self _, Nat.ne_of_lt low, Nat.ne_of_gt (Nat.lt_succ_of_lt low)⟩, fun b hb => ?_, got⟩
    have young : s1.heap.objs.size ≤ b := by
      rcases List.mem_cons.mp hb with z | z
      · rw [z]; exact Nat.le_succ _
      · rw [List.mem_singleton.mp z]; exact Nat.le_refl _
    exact I1.fpOk young (I1.hok.fresh young)
section
variable {σ : L2.St} {H : Hp} {K : PySem.W.Frag}
theorem riEnumT {ta : TA} {R : It → Hp → Prop} (h : ta σ H (IEnumTQ K R)) : iEnumT K ta σ H R := h
theorem rIEnumT {R : It → Hp → Prop} {p : Addr} {xs : List V} (h : SqT K H p xs) (q : R (IteT K p) H) : IEnumTQ K R [.ref p] H := ⟨p, xs, rfl, h, q⟩
/-- for i, x in enumerate(a tuple that stands) -/
theorem for_enumT {a : Addr} {xs : List V} {g : TG} {tb : TS} {D : Ends} (Pv : Nat → L2.St → Hp → Prop) (h0 : Pv 0 σ H) (hl : ∀ i σ H, i ≤ xs.length → Pv i σ H → SqT K H a xs)
    (hs : ∀ i x σ H T H', xs[i]? = some x → Pv i σ H → H T = none → Same H H' → H' T = some (.tup [.int (i : Nat), x]) → g (.ref T) σ H' fun σ2 H2 => tb { D with nx := Pv (i + 1), ct := Pv (i + 1), bk := D.nx } σ2 H2)
    (hd : ∀ σ H, Pv xs.length σ H → D.nx σ H) : ∃ W : Nat → Nat → L2.St → Hp → Prop, (∃ m, W 0 m σ H) ∧ ∀ i m σ H, W i m σ H → ((IteT K a).stop i H ∧ D.nx σ H) ∨
      ((IteT K a).go i H ∧ ∃ N : L2.St → Hp → Prop, (∀ σ' H', N σ' H' → ∃ m', m' < m ∧ W (i + 1) m' σ' H') ∧ ∀ x H', (IteT K a).yld i H x H' → g x σ H' fun σ2 H2 => tb { D with nx := N, ct := N, bk := D.nx } σ2 H2) := by
  refine ⟨fun i m σ H => m = xs.length - i ∧ i ≤ xs.length ∧ Pv i σ H, ⟨xs.length, by simp, Nat.zero_le _, h0⟩, ?_⟩
  rintro i m σ H ⟨rfl, hi, p⟩
  have q := hl i σ H hi p
  rcases Nat.lt_or_ge i xs.length with lt | ge
  · refine .inr ⟨⟨xs, xs[i], q, List.getElem?_eq_getElem lt⟩, Pv (i + 1), fun σ' H' p' => ⟨xs.length - (i + 1), by omega, rfl, lt, p'⟩, ?_⟩
    rintro v H' ⟨T, x, rfl, nT, rfl, y⟩
    exact hs i x σ H T _ (y xs q) p nT (same_new nT) upd_same
  · have e : i = xs.length := by omega
    subst e
    exact .inl ⟨⟨xs, q, rfl⟩, hd σ H p⟩
/-- [.. for i, x in enumerate(a tuple that stands)] -/
theorem lc_enumT {a : Addr} {xs : List V} {g : TG} {tt : TT} {te : TE} {vs : List Nat} {H1 : Hp} {D : Addr} {Qd : Hp → Prop} (Pv : Nat → Hp → Prop) (h0 : Pv 0 (upd H1 D (.lst []))) (hl : ∀ i H, i ≤ xs.length → Pv i H → SqT K H a xs)
    (hs : ∀ i x H T H', xs[i]? = some x → Pv i H → H T = none → Same H H' → H' T = some (.tup [.int (i : Nat), x]) → g (.ref T) (wipe σ vs) H' fun σ2 H2 => wipe σ2 vs = wipe σ vs ∧ tt σ2 H2 fun b H3 =>
      if b = true then te σ2 H3 fun y H4 => ∃ acc, H4 D = some (.lst acc) ∧ acc.length < sizeLine ∧ Pv (i + 1) (upd H4 D (.lst (acc ++ [y]))) else Pv (i + 1) H3) (hd : ∀ H, Pv xs.length H → Qd H) :
    ∃ W : Nat → Nat → Hp → Prop, (∃ m, W 0 m (upd H1 D (.lst []))) ∧ ∀ i m H, W i m H →
      ((IteT K a).stop i H ∧ Qd H) ∨ ((IteT K a).go i H ∧ ∃ Nx : Hp → Prop, (∀ H', Nx H' → ∃ m', m' < m ∧ W (i + 1) m' H') ∧ ∀ x H', (IteT K a).yld i H x H' → g x (wipe σ vs) H' fun σ2 H2 => wipe σ2 vs = wipe σ vs ∧ tt σ2 H2 fun b H3 =>
        if b = true then te σ2 H3 fun y H4 => ∃ acc, H4 D = some (.lst acc) ∧ acc.length < sizeLine ∧ Nx (upd H4 D (.lst (acc ++ [y]))) else Nx H3) := by
  refine ⟨fun i m H => m = xs.length - i ∧ i ≤ xs.length ∧ Pv i H, ⟨xs.length, by simp, Nat.zero_le _, h0⟩, ?_⟩
  rintro i m H ⟨rfl, hi, p⟩
  have q := hl i H hi p
  rcases Nat.lt_or_ge i xs.length with lt | ge
  · refine .inr ⟨⟨xs, xs[i], q, List.getElem?_eq_getElem lt⟩, Pv (i + 1), fun H' p' => ⟨xs.length - (i + 1), by omega, rfl, lt, p'⟩, ?_⟩
    rintro v H' ⟨T, x, rfl, nT, rfl, y⟩
    exact hs i x H T _ (y xs q) p nT (same_new nT) upd_same
  · have e : i = xs.length := by omega
    subst e
    exact .inl ⟨⟨xs, q, rfl⟩, hd H p⟩
end

/-! ### list(zip(..)): the pairs stay -/
/-- a zip whose first pair is still held by somebody -/
abbrev ZipHeld (h : Heap) (z TI TO T : Addr) (b : Bool) : Prop :=
  h.get? z = some { cls := .type "zip", dict := none, data := .fields #[rawInt T, .bool b, .bool false, .ref TI, .ref TO], slots := #[] }
section
variable {prog : Program} {w : World} {A : Around} {E : Value → Shared → Prop} {s : Shared} {z TI TO T i1 i2 : Addr} {fp1 fp2 : List Addr} {n1 n2 i : Nat} {P1 P2 : Nat → Value → Prop} {St1 St2 : Nat → Heap → Prop} {b : Bool}
theorem alive_read {a : Addr} {R : Option Obj → Shared → Prop} (k : R (s.heap.get? a) s) : wpAny (model prog w) A (Sem.loadIfAlive a Sem.pure) R E s := fun Γ p hΓ => by
  rw [Sem.wp_loadIfAlive]
  exact wpAny_pure k Γ p hΓ
theorem held_asked {R : Bool → Shared → Prop} (hz : ZipHeld s.heap z TI TO T b) (alive : ∃ o, s.heap.get? T = some o)
    (k : ∀ h', ZipHeld h' z TI TO T true → Heap.SameBut z s.heap h' → R false { s with heap := h' }) :
    wpAny (model prog w) A (Builtin.SmallTypes.ownedTupleIsFree (.ref z)) R E s := by
  obtain ⟨ob, al⟩ := alive
  unfold Builtin.SmallTypes.ownedTupleIsFree
  refine wpAny_bind (wpAny_field hz rfl (x := rawInt T) rfl ?_)
  refine wpAny_bind (alive_read ?_)
  rw [show (Int.toNat (T : Int)) = T from rfl, al]
  show wpAny _ _ (field (.ref z) 1 >>= _) _ _ _
  refine wpAny_bind (wpAny_field hz rfl (x := .bool b) rfl ?_)
  cases b with
  | true =>
    show wpAny _ _ (if (Value.bool true != Value.bool true) = true then _ else _) _ _ _
    rw [if_neg (by decide)]
    exact wpAny_pure (k s.heap hz ⟨rfl, fun _ _ => rfl⟩)
  | false =>
    show wpAny _ _ (if (Value.bool false != Value.bool true) = true then _ else _) _ _ _
    rw [if_pos (by decide)]
    refine wpAny_bind (wpAny_setField_rec hz (by simp) fun h' hz' same => wpAny_pure (k h' hz' same))
theorem held_item {R : Value → Shared → Prop} (D1 : Draws prog w A i1 fp1 n1 P1 St1) (D2 : Draws prog w A i2 fp2 n2 P2 St2) (zf1 : z ∉ fp1) (zf2 : z ∉ fp2) (f12 : i1 ∉ fp2) (f21 : i2 ∉ fp1) (m1 : i1 ∈ fp1) (m2 : i2 ∈ fp2)
    (hz : ZipHeld s.heap z TI TO T b) (alive : ∃ o, s.heap.get? T = some o) (hTI : IsTupOf2 s.heap TI (.ref i1) (.ref i2)) (st1 : St1 i s.heap) (st2 : St2 i s.heap) (lt1 : i < n1) (lt2 : i < n2)
    (k : ∀ x1 x2 h' tk, P1 i x1 → P2 i x2 → ZipHeld h' z TI TO T true → St1 (i + 1) h' → St2 (i + 1) h' → IsTupOf2 h' s.heap.objs.size x1 x2 → h'.objs.size = s.heap.objs.size + 1 →
      (∀ c o, c ≠ z → c ≠ i1 → c ≠ i2 → s.heap.get? c = some o → h'.get? c = some o) → R (.ref s.heap.objs.size) { s with heap := h', toks := tk }) :
    wpAny (model prog w) A (Builtin.«zip.__next__» ⟨[.ref z], []⟩) (fun fin s' => ∃ v, fin = .done (.ret v) ∧ R v s') E s := by
  obtain ⟨hp, gs, dr, tk0, os⟩ := s
  show wpAny _ _ (field (.ref z) 2 >>= _) _ _ _
  refine wpAny_bind (wpAny_field hz rfl (x := .bool false) rfl ?_)
  show wpAny _ _ (field (.ref z) 3 >>= _) _ _ _
  refine wpAny_bind (wpAny_field hz rfl (x := .ref TI) rfl ?_)
  refine wpAny_bind (wpAny_seqItems hTI rfl ?_)
  show wpAny _ _ (Builtin.SmallTypes.ownedTupleIsFree (.ref z) >>= _) _ _ _
  refine wpAny_bind (held_asked hz alive fun h1 hz1 same1 => ?_)
  replace same1 : Heap.SameBut z hp h1 := same1
  rw [if_neg (by decide)]
  dsimp only
  refine wpAny_bind ?_
  simp only [List.forIn_toArray, List.forIn_cons, List.forIn_nil]
  refine wpAny_bind (wpAny_bind (wpAny_holding ?_))
  show wpAny _ _ (Builtin.SmallTypes.nextOf (.ref i1) >>= _) _ _ ⟨h1, gs, dr, tk0, os⟩
  refine wpAny_bind (D1.item i _ _ _ lt1 (D1.over st1 same1 zf1) fun x1 h2 tk1 hx1 st1' same2 => wpAny_pure ?_)
  replace same2 : Heap.SameBut i1 h1 h2 := same2
  refine wpAny_pure ?_
  dsimp only
  refine wpAny_bind (wpAny_bind (wpAny_holding ?_))
  show wpAny _ _ (Builtin.SmallTypes.nextOf (.ref i2) >>= _) _ _ ⟨h2, gs, dr, tk1, os⟩
  refine wpAny_bind (D2.item i _ _ _ lt2 (D2.over (D2.over st2 same1 zf2) same2 f12) fun x2 h3 tk2 hx2 st2' same3 => wpAny_pure ?_)
  replace same3 : Heap.SameBut i2 h2 h3 := same3
  refine wpAny_pure (wpAny_pure ?_)
  dsimp only
  refine wpAny_bind (wpAny_newTuple (hsz := (show 2 ≤ sizeLine by decide)) ?_)
  have z1 : z ≠ i1 := fun e => zf1 (by rw [e]; exact m1)
  have z2 : z ≠ i2 := fun e => zf2 (by rw [e]; exact m2)
  have size3 : h3.objs.size = hp.objs.size := by rw [same3.1, same2.1, same1.1]
  have hz3 : ZipHeld h3 z TI TO T true := same3.extBut _ _ z2 (same2.extBut _ _ z1 hz1)
  refine wpAny_pure ⟨_, rfl, ?_⟩
  show R (.ref h3.objs.size) ⟨h3.push { cls := .type "tuple", data := .seq #[x1, x2] }, gs, dr, tk2, os⟩
  have grow : ∀ c o, h3.get? c = some o → (h3.push { cls := .type "tuple", data := .seq #[x1, x2] }).get? c = some o := fun c o e => Heap.get?_push_of_some _ e
  have new : IsTupOf2 (h3.push { cls := .type "tuple", data := .seq #[x1, x2] }) h3.objs.size x1 x2 := Heap.get?_push_size _ rfl
  have sizeN : (h3.push { cls := .type "tuple", data := .seq #[x1, x2] }).objs.size = h3.objs.size + 1 := by rw [Heap.size_push]
  rw [size3] at new sizeN ⊢
  exact k x1 x2 _ tk2 hx1 hx2 (grow _ _ hz3) (D1.frame _ _ _ (D1.over st1' same3 f21) fun c _ o e => grow c o e) (D2.frame _ _ _ st2' fun c _ o e => grow c o e) new sizeN
    fun c o n0 n1 n2 e => grow c o (same3.extBut _ _ n2 (same2.extBut _ _ n1 (same1.extBut _ _ n0 e)))
theorem held_end {R : Fin → Shared → Prop} (D1 : Draws prog w A i1 fp1 n1 P1 St1) (zf1 : z ∉ fp1)
    (hz : ZipHeld s.heap z TI TO T b) (alive : ∃ o, s.heap.get? T = some o) (hTI : IsTupOf2 s.heap TI (.ref i1) (.ref i2)) (st1 : St1 n1 s.heap)
    (k : ∀ h' tk e, (∀ c o, c ≠ z → c ≠ i1 → s.heap.get? c = some o → h'.get? c = some o) → (∃ o, h'.get? e = some o ∧ o.cls = .type "StopIteration") → E (.ref e) { s with heap := h', toks := tk }) :
    wpAny (model prog w) A (Builtin.«zip.__next__» ⟨[.ref z], []⟩) R E s := by
  obtain ⟨hp, gs, dr, tk0, os⟩ := s
  show wpAny _ _ (field (.ref z) 2 >>= _) _ _ _
  refine wpAny_bind (wpAny_field hz rfl (x := .bool false) rfl ?_)
  show wpAny _ _ (field (.ref z) 3 >>= _) _ _ _
  refine wpAny_bind (wpAny_field hz rfl (x := .ref TI) rfl ?_)
  refine wpAny_bind (wpAny_seqItems hTI rfl ?_)
  show wpAny _ _ (Builtin.SmallTypes.ownedTupleIsFree (.ref z) >>= _) _ _ _
  refine wpAny_bind (held_asked hz alive fun h1 hz1 same1 => ?_)
  replace same1 : Heap.SameBut z hp h1 := same1
  rw [if_neg (by decide)]
  dsimp only
  refine wpAny_bind ?_
  simp only [List.forIn_toArray, List.forIn_cons, List.forIn_nil]
  refine wpAny_bind (wpAny_bind (wpAny_holding ?_))
  show wpAny _ _ (Builtin.SmallTypes.nextOf (.ref i1) >>= _) _ _ ⟨h1, gs, dr, tk0, os⟩
  refine wpAny_bind (D1.done ⟨h1, gs, dr, tk0, os⟩ _ _ (D1.over st1 same1 zf1) fun h2 e same2 stop => ?_)
  replace same2 : Heap.ExtBut i1 h1 h2 := same2
  exact k h2 tk0 e (fun c o n0 n1 x => same2 _ _ n1 (same1.extBut _ _ n0 x)) stop
end
section
variable {prog : Program} {w : World} {A : Around} {E : Value → Shared → Prop} {s : Shared} {z TI TO T i1 i2 : Addr} {fp1 fp2 : List Addr} {n1 n2 i : Nat} {P1 P2 : Nat → Value → Prop} {St1 St2 : Nat → Heap → Prop} {b : Bool}
theorem held_next {R : Option Value → Shared → Prop} (D1 : Draws prog w A.in1 i1 fp1 n1 P1 St1) (D2 : Draws prog w A.in1 i2 fp2 n2 P2 St2) (zf1 : z ∉ fp1) (zf2 : z ∉ fp2) (f12 : i1 ∉ fp2) (f21 : i2 ∉ fp1) (m1 : i1 ∈ fp1) (m2 : i2 ∈ fp2)
    (hz : ZipHeld s.heap z TI TO T b) (alive : ∃ o, s.heap.get? T = some o) (hTI : IsTupOf2 s.heap TI (.ref i1) (.ref i2)) (st1 : St1 i s.heap) (st2 : St2 i s.heap) (lt1 : i < n1) (lt2 : i < n2)
    (k : ∀ x1 x2 h' tk, P1 i x1 → P2 i x2 → ZipHeld h' z TI TO T true → St1 (i + 1) h' → St2 (i + 1) h' → IsTupOf2 h' s.heap.objs.size x1 x2 → h'.objs.size = s.heap.objs.size + 1 →
      (∀ c o, c ≠ z → c ≠ i1 → c ≠ i2 → s.heap.get? c = some o → h'.get? c = some o) → R (some (.ref s.heap.objs.size)) { s with heap := h', toks := tk }) :
    wpAny (model prog w) A (pyNext (.ref z)) R E s := by
  have ty : s.TypeIs (.ref z) "zip" := ⟨_, hz, rfl⟩
  unfold pyNext
  refine wpAny_bind (wpAny_attempt (wpAny_callSpecial?_slot (name := Str.ofString "__next__")
    ty F.slot_zip_next (wpAny_call_entry F.slot_zip_next ty F.entry_zip_next ?_ (F.args_zip_next_1 _))))
  exact held_item D1 D2 zf1 zf2 f12 f21 m1 m2 hz alive hTI st1 st2 lt1 lt2 fun x1 x2 h' tk a1 a2 a3 a4 a5 a6 a7 a8 => wpAny_pure (k x1 x2 h' tk a1 a2 a3 a4 a5 a6 a7 a8)
theorem held_done {R : Option Value → Shared → Prop} (D1 : Draws prog w A.in1 i1 fp1 n1 P1 St1) (zf1 : z ∉ fp1)
    (hz : ZipHeld s.heap z TI TO T b) (alive : ∃ o, s.heap.get? T = some o) (hTI : IsTupOf2 s.heap TI (.ref i1) (.ref i2)) (st1 : St1 n1 s.heap)
    (k : ∀ h' tk, (∀ c o, c ≠ z → c ≠ i1 → s.heap.get? c = some o → h'.get? c = some o) → R none { s with heap := h', toks := tk }) :
    wpAny (model prog w) A (pyNext (.ref z)) R E s := by
  have ty : s.TypeIs (.ref z) "zip" := ⟨_, hz, rfl⟩
  unfold pyNext
  refine wpAny_bind (wpAny_attempt (wpAny_callSpecial?_slot (name := Str.ofString "__next__")
    ty F.slot_zip_next (wpAny_call_entry F.slot_zip_next ty F.entry_zip_next ?_ (F.args_zip_next_1 _))))
  refine held_end D1 zf1 hz alive hTI st1 fun h' tk e kept stop => ?_
  obtain ⟨o, ho, hc⟩ := stop
  refine wpAny_bind (wpAny_isInstance (T := "StopIteration") (b := true) ⟨o, ho, hc⟩ isSubtype_stop ?_)
  exact wpAny_pure (k _ _ kept)
end
/-- the pairs that were made, by their places -/
structure PairsAt (P1 P2 : Nat → Value → Prop) (lo : Addr) (h : Heap) (as : List Addr) : Prop where
  above : ∀ a ∈ as, lo ≤ a
  pair : ∀ (j : Nat) (a : Addr), as[j]? = some a → ∃ x y, P1 j x ∧ P2 j y ∧ IsTupOf2 h a x y
  rise : as.Pairwise (· < ·)
theorem PairsAt.keep {P1 P2 : Nat → Value → Prop} {lo : Addr} {h h' : Heap} {as : List Addr} (g : PairsAt P1 P2 lo h as) (k : ∀ a o, lo ≤ a → h.get? a = some o → h'.get? a = some o) : PairsAt P1 P2 lo h' as :=
  ⟨g.above, fun j a e => by
    obtain ⟨x, y, h1, h2, h3⟩ := g.pair j a e
    exact ⟨x, y, h1, h2, k _ _ (g.above a (List.mem_of_getElem? e)) h3⟩, g.rise⟩
theorem PairsAt.more {P1 P2 : Nat → Value → Prop} {lo a : Addr} {h : Heap} {as : List Addr} {x y : Value} (g : PairsAt P1 P2 lo h as) (low : ∀ c ∈ as, c < a) (ha : lo ≤ a) (h1 : P1 as.length x) (h2 : P2 as.length y) (h3 : IsTupOf2 h a x y) : PairsAt P1 P2 lo h (as ++ [a]) := by
  refine ⟨fun c hc => ?_, fun j c e => ?_, ?_⟩
  · rcases List.mem_append.mp hc with hc | hc
    · exact g.above c hc
    · rw [List.mem_singleton.mp hc]; exact ha
  · rcases Nat.lt_trichotomy j as.length with l | l | l
    · rw [List.getElem?_append_left l] at e
      exact g.pair j c e
    · subst l
      have e' : a = c := by simpa using e
      subst e'
      exact ⟨x, y, h1, h2, h3⟩
    · rw [List.getElem?_eq_none (by rw [List.length_append, List.length_singleton]; omega)] at e
      cases e
  · refine List.pairwise_append.mpr ⟨g.rise, List.pairwise_singleton _ _, fun c hc d hd => ?_⟩
    rw [List.mem_singleton.mp hd]
    exact low c hc
section
variable {prog : Program} {w : World} {A : Around} {R : Result → Shared → Prop} {s : Shared} {z TI TO i1 i2 S : Addr} {fp1 fp2 : List Addr} {n : Nat} {P1 P2 : Nat → Value → Prop} {St1 St2 : Nat → Heap → Prop}
/-- where the zip stands behind i pairs -/
def ZipAt (z TI TO i1 i2 : Addr) (St1 St2 : Nat → Heap → Prop) (i : Nat) (h : Heap) (as : List Addr) : Prop :=
  IsTupOf2 h TI (.ref i1) (.ref i2) ∧ St1 i h ∧ St2 i h ∧
    ((i = 0 ∧ IsZip h z TI TO .none ∧ IsTupOf2 h TO .none .none) ∨ ∃ T b, T ∈ as ∧ ZipHeld h z TI TO T b)
theorem zip_loop (Z : ZipSep2 z TI TO i1 i2 fp1 fp2) (D1 : Draws prog w A.in1.in1 i1 fp1 n P1 St1) (D2 : Draws prog w A.in1.in1 i2 fp2 n P2 St2) (lo : Addr) (hlo : z < lo ∧ TI < lo ∧ TO < lo ∧ i1 < lo ∧ i2 < lo ∧ S < lo)
    (nS : S ≠ z ∧ S ≠ TI ∧ S ≠ TO ∧ S ∉ fp1 ∧ S ∉ fp2) (few : n ≤ sizeLine) (some1 : 1 ≤ n) (res : Value) {h0 : Heap}
    (fin : ∀ h' tk acc c as, (∀ b o, b ≠ S → b ≠ z → b ≠ TO → b ≠ i1 → b ≠ i2 → h0.get? b = some o → h'.get? b = some o) → h'.get? S = some { cls := .type "list", dict := none, data := .seq acc c, slots := #[] } →
      as.length = n → PairsAt P1 P2 lo h' as → acc.toList = as.map Value.ref → R (.ok (.ret res)) { s with heap := h', toks := tk }) :
    ∀ (k i : Nat) (h : Heap) (tk c : Nat) (acc : Array Value) (as : List Addr), n - i = k → i ≤ n → ZipAt z TI TO i1 i2 St1 St2 i h as → (∀ b o, b ≠ S → b ≠ z → b ≠ TO → b ≠ i1 → b ≠ i2 → h0.get? b = some o → h.get? b = some o) →
      h.get? S = some { cls := .type "list", dict := none, data := .seq acc c, slots := #[] } → acc.toList = as.map Value.ref → as.length = i → PairsAt P1 P2 lo h as → lo ≤ h.objs.size →
      codeAny (model prog w) A (.builtin "list.extend.loop" ⟨[.ref S, .ref z, res], []⟩) R { s with heap := h, toks := tk } := by
  have zi1 : z ≠ i1 := Z.zi1
  have zi2 : z ≠ i2 := Z.zi2
  have Si1 : S ≠ i1 := fun e => nS.2.2.2.1 (by rw [e]; exact Z.mem1)
  have Si2 : S ≠ i2 := fun e => nS.2.2.2.2 (by rw [e]; exact Z.mem2)
  intro k
  induction k with
  | zero =>
    intro i h tk c acc as hk hi at_ old hS hacc hlen pairs hsz
    have atEnd : i = n := by omega
    subst atEnd
    obtain ⟨hTI, st1, st2, free | ⟨T, b, mT, held⟩⟩ := at_
    · omega
    obtain ⟨j, hj⟩ := List.mem_iff_getElem?.mp mT
    obtain ⟨x, y, _, _, tT⟩ := pairs.pair j T hj
    refine codeAny_builtin F.entry_extend_loop
      ?_
    rw [Around.under_plainId F.plain_extend_loop]
    show wpAny _ _ (pyNext (.ref z) >>= _) _ _ _
    refine wpAny_bind (held_done (s := { s with heap := h, toks := tk }) D1 Z.zf1 held ⟨_, tT⟩ hTI st1 fun h' tk' kept => ?_)
    replace kept : ∀ c o, c ≠ z → c ≠ i1 → h.get? c = some o → h'.get? c = some o := kept
    refine wpAny_pure (fin h' tk' acc c as (fun b o b1 b2 b3 b4 b5 e => kept b o b2 b4 (old b o b1 b2 b3 b4 b5 e)) (kept S _ nS.1 Si1 hS) hlen (pairs.keep fun a o la e => kept a o ?_ ?_ e) hacc)
    · exact Nat.ne_of_gt (Nat.lt_of_lt_of_le hlo.1 la)
    · exact Nat.ne_of_gt (Nat.lt_of_lt_of_le hlo.2.2.2.1 la)
  | succ k ih =>
    intro i h tk c acc as hk hi at_ old hS hacc hlen pairs hsz
    have lt : i < n := by omega
    have asz : acc.size = i := by rw [← Array.length_toList, hacc, List.length_map, hlen]
    obtain ⟨hTI, st1, st2, way⟩ := at_
    refine codeAny_builtin F.entry_extend_loop
      ?_
    rw [Around.under_plainId F.plain_extend_loop]
    show wpAny _ _ (pyNext (.ref z) >>= _) _ _ _
    -- behind the next pair, however it was made
    have go : ∀ x1 x2 h' tk' b, P1 i x1 → P2 i x2 → (∃ T, T ∈ as ++ [h.objs.size] ∧ ZipHeld h' z TI TO T b) → St1 (i + 1) h' → St2 (i + 1) h' → IsTupOf2 h' h.objs.size x1 x2 → h'.objs.size = h.objs.size + 1 →
        (∀ c o, c ≠ z → c ≠ TO → c ≠ i1 → c ≠ i2 → h.get? c = some o → h'.get? c = some o) →
        wpAny (model prog w) A.in1 (updateSeq S (·.push (Value.ref h.objs.size)) >>= fun _ => again (.builtin "list.extend.loop" ⟨[.ref S, .ref z, res], []⟩))
          (fun fin s' => match fin with | .done f => R (.ok f) s' | .again c' => c'.quiet = true ∧ codeAny (model prog w) A c' R s') (fun e s' => R (.error e) s') { s with heap := h', toks := tk' } := by
      intro x1 x2 h' tk' b hx1 hx2 held st1' st2' new size' kept
      obtain ⟨T, mT, held⟩ := held
      have hS' := kept S _ nS.1 nS.2.2.1 Si1 Si2 hS
      have up : ∀ b o, b ≠ S → h'.get? b = some o → (h'.update S (Obj.mapSeq (·.push (Value.ref h.objs.size)))).get? b = some o :=
        fun b o hb e => (Heap.get?_update_other _ _ (Ne.symm hb)).trans e
      refine wpAny_bind ?_
      refine wpAny_updateSeq hS' rfl (wpAny_pure ⟨plainId_quiet F.plain_extend_loop _,
        ih (i + 1) _ tk' _ (acc.push (Value.ref h.objs.size)) (as ++ [h.objs.size]) (by omega) lt ⟨up _ _ (Ne.symm nS.2.1) (kept _ _ Z.TIz Z.TITO Z.TIi1 Z.TIi2 hTI),
          D1.frame _ _ _ st1' fun b hb o e => up b o (fun q => nS.2.2.2.1 (q ▸ hb)) e, D2.frame _ _ _ st2' fun b hb o e => up b o (fun q => nS.2.2.2.2 (q ▸ hb)) e, .inr ⟨T, b, mT, up _ _ (Ne.symm nS.1) held⟩⟩
          (fun b o b1 b2 b3 b4 b5 e => up b o b1 (kept b o b2 b3 b4 b5 (old b o b1 b2 b3 b4 b5 e))) (Heap.get?_update_self _ hS' rfl) (by rw [Array.toList_push, hacc, List.map_append]; rfl) (by rw [List.length_append, hlen]; rfl) ?_ ?_⟩)
        (by rw [asz]; omega) (by rw [Array.size_push, asz]; omega)
      · have p1 : PairsAt P1 P2 lo (h'.update S (Obj.mapSeq (·.push (Value.ref h.objs.size)))) as := pairs.keep fun a o la e =>
          up a o (Nat.ne_of_gt (Nat.lt_of_lt_of_le hlo.2.2.2.2.2 la)) (kept a o (Nat.ne_of_gt (Nat.lt_of_lt_of_le hlo.1 la)) (Nat.ne_of_gt (Nat.lt_of_lt_of_le hlo.2.2.1 la))
            (Nat.ne_of_gt (Nat.lt_of_lt_of_le hlo.2.2.2.1 la)) (Nat.ne_of_gt (Nat.lt_of_lt_of_le hlo.2.2.2.2.1 la)) e)
        refine p1.more (fun c hc => ?_) hsz (by rw [hlen]; exact hx1) (by rw [hlen]; exact hx2) (up _ _ (Nat.ne_of_gt (Nat.lt_of_lt_of_le hlo.2.2.2.2.2 hsz)) new)
        obtain ⟨j, hj⟩ := List.mem_iff_getElem?.mp hc
        obtain ⟨_, _, _, _, tc⟩ := pairs.pair j c hj
        exact Heap.lt_size tc
      · have e : (h'.update S (Obj.mapSeq (·.push (Value.ref h.objs.size)))).get? h.objs.size = _ := up _ _ (Nat.ne_of_gt (Nat.lt_of_lt_of_le hlo.2.2.2.2.2 hsz)) new
        exact Nat.le_trans hsz (Nat.le_of_lt (Heap.lt_size e))
    rcases way with ⟨e0, free, hTO⟩ | ⟨T, b, mT, held⟩
    · subst e0
      have e0 : as = [] := List.eq_nil_of_length_eq_zero hlen
      subst e0
      refine wpAny_bind (wpAny_pyNext_zipD2_item (s := { s with heap := h, toks := tk }) Z D1 D2 free hTI hTO st1 st2 lt lt fun x1 x2 h' tk' a1 a2 a3 a4 a5 a6 a7 a8 a9 => ?_)
      exact go x1 x2 h' tk' false a1 a2 ⟨h.objs.size, List.mem_singleton.mpr rfl, a3⟩ a5 a6 a7 a8 a9
    · obtain ⟨j, hj⟩ := List.mem_iff_getElem?.mp mT
      obtain ⟨x, y, _, _, tT⟩ := pairs.pair j T hj
      refine wpAny_bind (held_next (s := { s with heap := h, toks := tk }) D1 D2 Z.zf1 Z.zf2 ?_ ?_ Z.mem1 Z.mem2 held ⟨_, tT⟩ hTI st1 st2 lt lt fun x1 x2 h' tk' a1 a2 a3 a4 a5 a6 a7 a8 => ?_)
      · exact Z.sep1_2
      · exact Z.sep2_1
      · exact go x1 x2 h' tk' true a1 a2 ⟨T, List.mem_append_left _ mT, a3⟩ a4 a5 a6 a7 fun c o c1 c2 c3 c4 e => a8 c o c1 c3 c4 e
end
theorem nolen_zip : typeLookup (.type "zip") "__len__" = pure none := by
  rw [typeLookup_type, builtinLookup_eq_fast]
  kernel_rfl
theorem nohint_zip : typeLookup (.type "zip") "__length_hint__" = pure none := by
  rw [typeLookup_type, builtinLookup_eq_fast]
  kernel_rfl
section
variable {prog : Program} {w : World} {A : Around} {E : Value → Shared → Prop} {s : Shared} {z TI TO i1 i2 : Addr} {fp1 fp2 : List Addr} {n : Nat} {P1 P2 : Nat → Value → Prop} {St1 St2 : Nat → Heap → Prop}
theorem list_of_zip {R : Value → Shared → Prop} (Z : ZipSep2 z TI TO i1 i2 fp1 fp2) (D1 : Draws prog w A.in1.in1.in1 i1 fp1 n P1 St1) (D2 : Draws prog w A.in1.in1.in1 i2 fp2 n P2 St2)
    (below : z < s.heap.objs.size ∧ TI < s.heap.objs.size ∧ TO < s.heap.objs.size ∧ i1 < s.heap.objs.size ∧ i2 < s.heap.objs.size) (b1 : ∀ b ∈ fp1, b < s.heap.objs.size) (b2 : ∀ b ∈ fp2, b < s.heap.objs.size)
    (few : n ≤ sizeLine) (some1 : 1 ≤ n) (hz : IsZip s.heap z TI TO .none) (hTI : IsTupOf2 s.heap TI (.ref i1) (.ref i2)) (hTO : IsTupOf2 s.heap TO .none .none) (st1 : St1 0 s.heap) (st2 : St2 0 s.heap)
    (k : ∀ h' tk acc c as, (∀ b o, b ≠ z → b ≠ TO → b ≠ i1 → b ≠ i2 → s.heap.get? b = some o → h'.get? b = some o) → h'.get? s.heap.objs.size = some { cls := .type "list", dict := none, data := .seq acc c, slots := #[] } →
      as.length = n → PairsAt P1 P2 (s.heap.objs.size + 1) h' as → acc.toList = as.map Value.ref → R (.ref s.heap.objs.size) { s with heap := h', toks := tk }) :
    wpAny (model prog w) A (call (.type "list") [.ref z]) R E s := by
  refine callType_codes (Q₁ := fun obj s1 => obj = .ref s.heap.objs.size ∧ s1 = { s with heap := s.heap.push { cls := .type "list", data := .seq #[] } })
    F.called_list (F.typeCall_list_1 _) F.entry_list_init (code_list_new _ ⟨rfl, rfl⟩) fun obj s1 made => ?_
  obtain ⟨rfl, rfl⟩ := made
  have zS : z ≠ s.heap.objs.size := Nat.ne_of_lt below.1
  have hS0 : (s.heap.push { cls := .type "list", data := .seq #[] }).get? s.heap.objs.size = some { cls := .type "list", data := .seq #[] } := Heap.get?_push_size _ rfl
  have k0 : ∀ b o, s.heap.get? b = some o → (s.heap.push { cls := .type "list", data := .seq #[] }).get? b = some o := fun b o e => Heap.get?_push_of_some _ e
  refine ⟨⟨_, hS0, rfl⟩, F.args_list_init_2 _ _, ?_⟩
  show wpAny _ _ (do let old ← Builtin.List.listItems (.ref s.heap.objs.size)
                     Builtin.List.listUpdate (.ref s.heap.objs.size) (fun _ => #[])
                     letGo old.toList.reverse
                     Builtin.List.listExtendWith (.ref s.heap.objs.size) (.ref z) .none) _ _ _
  refine wpAny_bind ?_
  unfold Builtin.List.listItems
  refine wpAny_bind (wpAny_seqItems hS0 rfl (wpAny_pure ?_))
  show wpAny _ _ (updateSeq s.heap.objs.size (fun _ => #[]) >>= fun _ => letGo (#[] : Array Value).toList.reverse >>= fun _ =>
    Builtin.List.listExtendWith (.ref s.heap.objs.size) (.ref z) .none) _ _ _
  refine wpAny_bind (wpAny_updateSeq hS0 rfl ?_)
  have stay : ∀ (h : Heap) (f : Obj → Obj), (∀ b o, s.heap.get? b = some o → h.get? b = some o) → ∀ b o, s.heap.get? b = some o → (h.update s.heap.objs.size f).get? b = some o :=
    fun h f q b o e => (Heap.get?_update_other _ _ (Nat.ne_of_gt (Heap.lt_size e))).trans (q b o e)
  have hS1 := Heap.get?_update_self (Obj.mapSeq (fun _ => (#[] : Array Value))) hS0 rfl
  have k1 := stay _ (Obj.mapSeq (fun _ => (#[] : Array Value))) k0
  refine wpAny_bind (wpAny_letGo ?_)
  unfold Builtin.List.listExtendWith
  have ty : Shared.TypeIs { s with heap := (s.heap.push { cls := .type "list", data := .seq #[] }).update s.heap.objs.size (Obj.mapSeq (fun _ => (#[] : Array Value))) } (.ref z) "zip" := ⟨_, k1 _ _ hz, rfl⟩
  refine wpAny_bind (wpAny_typeOf ty ?_)
  have f1 : Builtin.List.listSameRef (.ref s.heap.objs.size) (.ref z) = false := by
    simp [Builtin.List.listSameRef, Ne.symm zS]
  have f2 : (Value.type "zip" == Value.type "list") = false := by decide
  have f3 : (Value.type "zip" == Value.type "tuple") = false := by decide
  simp only [f1, f2, f3, Bool.or_false, Bool.false_eq_true, if_false]
  refine wpAny_bind (wpAny_pyIter_zip (k1 _ _ hz) ?_)
  refine wpAny_bind (wpAny_holding ?_)
  unfold Builtin.List.listLengthHint
  refine wpAny_bind (wpAny_specialOf ty nolen_zip ?_)
  show wpAny _ _ (specialOf (Value.ref z) (Str.ofString "__length_hint__") >>= _) _ _ _
  refine wpAny_bind (wpAny_specialOf ty nohint_zip ?_)
  refine wpAny_pure ?_
  show wpAny _ _ (rule "list.extend.makes-room" >>= fun _ => Builtin.List.listTouch (.ref s.heap.objs.size) >>= fun _ =>
    again (.builtin "list.extend.loop" ⟨[.ref s.heap.objs.size, .ref z, .none], []⟩)) _ _ _
  refine wpAny_bind (wpAny_rule ?_)
  refine wpAny_bind ?_
  show wpAny _ _ (updateSeq s.heap.objs.size (·.push .none) >>= fun _ =>
    updateSeq s.heap.objs.size (·.pop)) _ _ _
  refine wpAny_bind (wpAny_updateSeq hS1 rfl ?_)
  have hS2 := Heap.get?_update_self (Obj.mapSeq (·.push Value.none)) hS1 rfl
  refine wpAny_updateSeq (hz := by seq_fits) hS2 rfl ?_
  have hS3 := Heap.get?_update_self (Obj.mapSeq (·.pop)) hS2 rfl
  have k3 := stay _ (Obj.mapSeq (·.pop)) (stay _ (Obj.mapSeq (·.push Value.none)) k1)
  have grown : ∀ (h : Heap) (f : Obj → Obj) (o : Obj), (∃ b, h.get? s.heap.objs.size = some b) → s.heap.objs.size + 1 ≤ h.objs.size := fun h f o ⟨b, e⟩ => Heap.lt_size e
  refine wpAny_pure ⟨plainId_quiet F.plain_extend_loop _, ?_⟩
  refine zip_loop (A := A.in1) (s := s) (h0 := s.heap) (n := n) Z D1 D2 (s.heap.objs.size + 1) ⟨Nat.lt_succ_of_lt below.1, Nat.lt_succ_of_lt below.2.1, Nat.lt_succ_of_lt below.2.2.1, Nat.lt_succ_of_lt below.2.2.2.1, Nat.lt_succ_of_lt below.2.2.2.2, Nat.lt_succ_self _⟩
    ⟨Ne.symm zS, Nat.ne_of_gt below.2.1, Nat.ne_of_gt below.2.2.1, fun m => Nat.lt_irrefl _ (b1 _ m), fun m => Nat.lt_irrefl _ (b2 _ m)⟩ few some1 .none
    (fun h' tk acc c as kept hS' hl pairs hacc => ⟨rfl, k h' tk acc c as (fun b o n1 n2 n3 n4 e => kept b o (Nat.ne_of_lt (Heap.lt_size e)) n1 n2 n3 n4 e) hS' hl pairs hacc⟩)
    n 0 _ _ _ _ [] (Nat.sub_zero _) (Nat.zero_le _) ⟨k3 _ _ hTI, D1.frame _ _ _ st1 fun b _ o e => k3 b o e, D2.frame _ _ _ st2 fun b _ o e => k3 b o e, .inl ⟨rfl, k3 _ _ hz, k3 _ _ hTO⟩⟩
    (fun b o _ _ _ _ _ e => k3 b o e) hS3 rfl rfl ⟨fun _ m => (nomatch m), fun j a e => by simp at e, List.Pairwise.nil⟩ (grown _ id default ⟨_, hS3⟩)
end
/-- many new objects are laid at once -/
theorem laidAll {X : Cx} {pins : List (Addr × Obj)} {σ : L2.St} {H H' : Hp} {s : Shared} {h' : Heap} {tk : Nat} (I : Inv X pins σ H s) (kept : ∀ b o, s.heap.get? b = some o → h'.get? b = some o)
    (same : Same H H') (off : ∀ b o, s.heap.get? b = some o → H b = none → H' b = none) (new : ∀ b u, H' b = some u → H b = none → ObjOk X.prog X.w H' h' b u) :
    Inv X pins σ H' { s with heap := h', toks := tk } := by
  refine I.call' (ch := []) rfl ⟨fun b o q _ _ _ => kept b o q, fun b o q _ _ _ => ⟨o.slots, kept b o q⟩, fun b o q n _ => off b o q n, fun b o q _ => ⟨o, kept b o q⟩,
    fun b xs q => same b _ q, fun b o u q => same b _ q, fun b ps q => ⟨#[], by rw [same b _ q]; simp⟩⟩ (fun b u q => ?_) I.bare fun b z => by simp at z
  cases e : H b with
  | none => exact new b u q e
  | some o =>
    have e2 := same b o e
    rw [q] at e2
    cases e2
    exact (I.hok b u e).stay (fun d v _ y => kept d v y) (fun d y => same d _ y) fun d xs y => same d _ y
def putP : Hp → List Addr → List (V × V) → Hp
  | H, a :: as, p :: ps => putP (upd H a (.tup [p.1, p.2])) as ps
  | H, _, _ => H
theorem putP_off {b : Addr} : ∀ (as : List Addr) (ps : List (V × V)) (H : Hp), b ∉ as → putP H as ps b = H b
  | [], _, _, _ => rfl
  | _ :: _, [], _, _ => rfl
  | a :: as, p :: ps, H, h => by
    show putP (upd H a (.tup [p.1, p.2])) as ps b = H b
    rw [putP_off as ps _ (fun z => h (List.mem_cons_of_mem _ z)), upd_ne (fun z => h (by rw [z]; exact List.mem_cons_self))]
theorem putP_at : ∀ (as : List Addr) (ps : List (V × V)) (H : Hp), as.length = ps.length → as.Nodup → ∀ (j : Nat) (a : Addr) (p : V × V), as[j]? = some a → ps[j]? = some p → putP H as ps a = some (.tup [p.1, p.2])
  | [], _, _, _, _, j, a, p, e, _ => by simp at e
  | _ :: _, [], _, l, _, _, _, _, _, _ => by simp at l
  | c :: as, q :: ps, H, l, nd, 0, a, p, e1, e2 => by
    have e1 : c = a := Option.some.inj e1
    have e2 : q = p := Option.some.inj e2
    subst e1 e2
    show putP (upd H c (.tup [q.1, q.2])) as ps c = _
    rw [putP_off as ps _ (List.nodup_cons.mp nd).1, upd_same]
  | c :: as, q :: ps, H, l, nd, j + 1, a, p, e1, e2 =>
    putP_at as ps _ (Nat.succ.inj l) (List.nodup_cons.mp nd).2 j a p e1 e2
def rListZip (K : PySem.W.Frag) : List V → Hp → VK → Prop := fun vs H Q => ∃ (a b : Addr) (xs ys : List V), vs = [.ref a, .ref b] ∧ SqL K H a xs ∧ SqT K H b ys ∧ xs.length = ys.length ∧ 1 ≤ xs.length ∧ xs.length ≤ 100000 ∧
  ∀ (H' : Hp) (D : Addr) (ts : List Addr), Same H H' → H D = none → H' D = some (.lst (ts.map V.ref)) → ts.length = xs.length →
    (∀ (j : Nat) (t : Addr), ts[j]? = some t → ∃ x y, xs[j]? = some x ∧ ys[j]? = some y ∧ H' t = some (.tup [x, y])) → Q (.ref D) H'
theorem refs_vals : ∀ as : List Addr, Vals (as.map V.ref) (as.map Value.ref)
  | [] => .nil
  | _ :: as => .cons rfl (refs_vals as)
/-- list(zip(a list, a tuple)) -/
theorem pe_listZip {X : Cx} {e1 e2 : Expr} {ta : TA} {p1 p2 pos pos2 : Pos} (calm : X.calm = true) (hg : Gl X "list") (hm : X.mg "list" = none) (hg2 : Gl X "zip") (hm2 : X.mg "zip" = none) (ha : PA X [e1, e2] ta)
    (plain2 : starEach [e1, e2] X.env = (false, eval e1 X.env) :: starEach [e2] X.env := by rfl) (rest2 : (backTo pos2 (starEach [e2] X.env)).any (·.1) = false := by rfl)
    (plain : starEach [.Call (.Name "zip" p2) [e1, e2] [] pos2] X.env = (false, eval (.Call (.Name "zip" p2) [e1, e2] [] pos2) X.env) :: starEach [] X.env := by rfl) :
    PE X (.Call (.Name "list" p1) [.Call (.Name "zip" p2) [e1, e2] [] pos2] [] pos) (tCB (rListZip X.K) ta) := by
  refine ⟨fun pins s σ H Q I want => ?_⟩
  refine wpAny_Call_Name_kw (ld_blt (u := .type "list") I hg hm (by decide +kernel) ?_)
  refine PyProof.Rows.callWith_type1 ?_ plain rfl
  rw [plain]
  show wpAny _ _ (spliced ((false, eval (.Call (.Name "zip" p2) [e1, e2] [] pos2) X.env) ::
    backTo pos (starEach [] X.env))) _ _ s
  refine Calls.spliced_cons ?_
  refine Call_ (ld_blt I hg2 hm2 boot_zip (PyProof.Rows.callWith_type1 (thn (ha.run pos2 pins s σ H _ I want) fun us s1 got => ?_) plain2 rest2))
  obtain ⟨vs, H1, I1, rel, a, b, xs, ys, rfl, hx, hy, leq, some1, few, k⟩ := got
  cases rel with | cons r1 rel => cases rel with | cons r2 rel =>
  cases rel
  cases r1
  cases r2
  obtain ⟨its, rv, lst, _⟩ := I1.list hx
  obtain ⟨its2, rv2, tup, _⟩ := I1.tuple hy
  have len1 := rv.length
  have len2 := rv2.length
  have lowA : a < s1.heap.objs.size := lst.lt
  have lowB : b < s1.heap.objs.size := by
    obtain ⟨o, z, _⟩ := tup
    exact Heap.lt_size z
  refine zip_begins2 (begins_list a its.toArray) (begins_tuple b its2.toArray) lst.isList tup fun h1 hz hTI hTO g1 g2 size1 kept1 => ?_
  refine Calls.spliced_nil ?_
  have hot := I1.ok.hd calm
  have Z := zip_sep2 (N := s1.heap.objs.size) (fp1 := [a]) (fp2 := [b]) (fun c hc => by rw [List.mem_singleton.mp hc]; exact lowA) (fun c hc => by rw [List.mem_singleton.mp hc]; exact lowB)
  have D1 := Draws.list (prog := X.prog) (w := X.w) (A := X.A.in1.in1.in1) hot s1.heap.objs.size a (Nat.ne_of_lt lowA) its.toArray
  have D2 := Draws.tuple (prog := X.prog) (w := X.w) (A := X.A.in1.in1.in1) hot (s1.heap.objs.size + 1) b (Nat.ne_of_lt (Nat.lt_succ_of_lt lowB)) its2.toArray
  have sz1 : its.toArray.size = xs.length := by rw [List.size_toArray, len1]
  have sz2 : its2.toArray.size = xs.length := by rw [List.size_toArray, leq, len2]
  rw [sz1] at D1
  rw [sz2] at D2
  refine list_of_zip (s := { s1 with heap := h1 }) (A := X.A) Z D1 D2 ?_ ?_ ?_ (le_line few) some1 hz hTI hTO ⟨⟨_, g1, rfl, rfl⟩, lst.isList.at fun o q => kept1 _ o q⟩ ⟨⟨_, g2, rfl, rfl⟩, ?_⟩ ?_
  · show _ < h1.objs.size ∧ _ < h1.objs.size ∧ _ < h1.objs.size ∧ _ < h1.objs.size ∧ _ < h1.objs.size
    rw [size1]
    exact ⟨by omega, by omega, by omega, by omega, by omega⟩
  · intro c hc
    show c < h1.objs.size
    rw [size1]
    rcases List.mem_cons.mp hc with e | hc
    · rw [e]; exact Nat.lt_add_of_pos_right (by decide)
    · rw [List.mem_singleton.mp hc]; exact Nat.lt_add_right 5 lowA
  · intro c hc
    show c < h1.objs.size
    rw [size1]
    rcases List.mem_cons.mp hc with e | hc
    · rw [e]; exact Nat.add_lt_add_left (by decide) _
    · rw [List.mem_singleton.mp hc]; exact Nat.lt_add_right 5 lowB
  · obtain ⟨o, q1, q2⟩ := tup
    exact ⟨o, kept1 _ _ q1, q2⟩
  · intro h' tk acc c as kept hD hl pairs hacc
    replace kept : ∀ (b : Addr) o, b ≠ s1.heap.objs.size + 4 → b ≠ s1.heap.objs.size + 3 → b ≠ s1.heap.objs.size → b ≠ s1.heap.objs.size + 1 → h1.get? b = some o → h'.get? b = some o := kept
    replace hD : h'.get? h1.objs.size = _ := hD
    have pairs : PairsAt _ _ (h1.objs.size + 1) h' as := pairs
    have keptAll : ∀ b o, s1.heap.get? b = some o → h'.get? b = some o := fun b o q => by
      have low := Heap.lt_size q
      exact kept b o (Nat.ne_of_lt (Nat.lt_add_right 4 low)) (Nat.ne_of_lt (Nat.lt_add_right 3 low)) (Nat.ne_of_lt low) (Nat.ne_of_lt (Nat.lt_succ_of_lt low)) (kept1 b o q)
    have high : ∀ t ∈ as, s1.heap.objs.size ≤ t ∧ h1.objs.size < t := fun t ht => by
      have q := pairs.above t ht
      exact ⟨Nat.le_trans (by rw [size1]; exact Nat.le_trans (Nat.le_add_right _ 5) (Nat.le_succ _)) q, q⟩
    have nd : as.Nodup := List.Pairwise.imp (fun {a b} (h : a < b) => Nat.ne_of_lt h) pairs.rise
    have newD : H1 h1.objs.size = none := I1.hok.fresh (by rw [size1]; exact Nat.le_add_right _ _)
    have newT : ∀ t ∈ as, H1 t = none := fun t ht => I1.hok.fresh (high t ht).1
    have offD : h1.objs.size ∉ as := fun z => Nat.lt_irrefl _ (high _ z).2
    have lz : (xs.zip ys).length = xs.length := by rw [List.length_zip, leq, Nat.min_self]
    have at_ := putP_at as (xs.zip ys) (upd H1 h1.objs.size (.lst (as.map V.ref))) (by rw [hl, lz]) nd
    have off : ∀ b, b ∉ as → b ≠ h1.objs.size → putP (upd H1 h1.objs.size (.lst (as.map V.ref))) as (xs.zip ys) b = H1 b := fun b q1 q2 => by rw [putP_off as _ _ q1, upd_ne q2]
    have onD : putP (upd H1 h1.objs.size (.lst (as.map V.ref))) as (xs.zip ys) h1.objs.size = some (.lst (as.map V.ref)) := by rw [putP_off as _ _ offD, upd_same]
    have same : Same H1 (putP (upd H1 h1.objs.size (.lst (as.map V.ref))) as (xs.zip ys)) := fun b o q => by
      rw [off b (fun z => by rw [newT b z] at q; cases q) (fun z => by rw [z, newD] at q; cases q)]
      exact q
    have tell : ∀ (j : Nat) (t : Addr), as[j]? = some t → ∃ x y u v, xs[j]? = some x ∧ ys[j]? = some y ∧ RelV x u ∧ RelV y v ∧ h'.get? t = some { cls := .type "tuple", data := .seq #[u, v] } := fun j t q => by
      obtain ⟨u, v, hu, hv, ht⟩ := pairs.pair j t q
      have lt : j < xs.length := by
        have := (List.getElem?_eq_some_iff.mp q).1
        omega
      have gx : xs[j]? = some xs[j] := List.getElem?_eq_getElem lt
      have gy : ys[j]? = some ys[j] := List.getElem?_eq_getElem (by omega)
      obtain ⟨u', hu', ru⟩ := rv.get gx
      obtain ⟨v', hv', rv'⟩ := rv2.get gy
      rw [List.getElem?_toArray, hu'] at hu
      rw [List.getElem?_toArray, hv'] at hv
      cases hu
      cases hv
      exact ⟨_, _, _, _, gx, gy, ru, rv', ht⟩
    have zipAt : ∀ (j : Nat) (x y : V), xs[j]? = some x → ys[j]? = some y → (xs.zip ys)[j]? = some (x, y) := fun j x y q1 q2 => by
      rw [List.getElem?_zip_eq_some]
      exact ⟨q1, q2⟩
    have J := laidAll (tk := tk) I1 keptAll same (fun b o q n => by
        have low := Heap.lt_size q
        rw [off b (fun z => Nat.lt_irrefl _ (Nat.lt_of_lt_of_le low (high b z).1)) (Nat.ne_of_lt (by rw [size1]; exact Nat.lt_add_right 5 low))]
        exact n)
      fun b u q n => by
        by_cases hb : b ∈ as
        · obtain ⟨j, hj⟩ := List.mem_iff_getElem?.mp hb
          obtain ⟨x, y, u', v', q1, q2, r1, r2, q3⟩ := tell j b hj
          have e := at_ j b (x, y) hj (zipAt j x y q1 q2)
          rw [e] at q
          cases q
          exact ⟨Nat.le_of_ble_eq_true rfl, [u', v'], .cons r1 (.cons r2 .nil), ⟨_, q3, rfl, _, rfl⟩⟩
        · by_cases hb2 : b = h1.objs.size
          · subst hb2
            rw [onD] at q
            cases q
            refine ⟨by rw [List.length_map, hl]; exact le_line few, acc.toList, c, by rw [hacc]; exact refs_vals as, ?_⟩
            rw [Array.toArray_toList]
            exact hD
          · rw [off b hb hb2, n] at q
            cases q
    refine ⟨.ref h1.objs.size, _, J, rfl, k _ _ as same newD onD hl fun j t q => ?_⟩
    obtain ⟨x, y, u, v, q1, q2, _, _, _⟩ := tell j t q
    exact ⟨x, y, q1, q2, at_ j t (x, y) q (zipAt j x y q1 q2)⟩

/-! ### a constant of the module -/
def KT (K : PySem.W.Frag) (a : Addr) (xs : List V) : Prop := ∃ (o : Obj) (its : Array Value) (n : Nat), K.lookup a = some o ∧ o.cls = .type "tuple" ∧ o.data = .seq its n ∧ its.size ≤ sizeLine ∧ Vals xs its.toList
theorem KT.sq {K : PySem.W.Frag} {a : Addr} {xs : List V} (H : Hp) (h : KT K a xs) : SqT K H a xs := .inr h
theorem side_in {n : Nat} (h : Side n) : inV (.int n) [.int 1, .int 2, .int 4, .int 8] = true := by
  unfold Side at h
  rcases h with h | h | h | h <;> subst h <;> decide +kernel
/-- a dict of the module: its words, each with a pair -/
structure LeastK (K : PySem.W.Frag) (w : World) (a : Addr) : Prop where
  dict : ∃ es n, KDict K w a es n
  du : ∀ x : Du, ∃ p, PySem.W.nsIn K a x.s = some (some (.ref p)) ∧ KT K p [.int (match x with | .party => 2 | .cut => 1 | .quartered => 2), .int (match x with | .party => 1 | .cut => 2 | .quartered => 2)]
  pi : ∀ x : Pi, ∃ p, PySem.W.nsIn K a x.s = some (some (.ref p)) ∧ KT K p [.int (match x with | .pillar => 4 | .band => 1 | .head => 1 | .edge => 4), .int (match x with | .pillar => 1 | .band => 4 | .head => 4 | .edge => 4)]
def Kw.fits (w h : Nat) : Kw → Bool
  | .c _ => true | .d x => x.fits w h | .p x => x.fits w h
theorem inV_cols (c : Co) : inV (.str c.s) [.str "white", .str "yellow", .str "black", .str "blue", .str "green", .str "red"] = true := by cases c <;> decide +kernel
theorem inV_cols_du (c : Du) : inV (.str c.s) [.str "white", .str "yellow", .str "black", .str "blue", .str "green", .str "red"] = false := by cases c <;> decide +kernel
theorem inV_cols_pi (c : Pi) : inV (.str c.s) [.str "white", .str "yellow", .str "black", .str "blue", .str "green", .str "red"] = false := by cases c <;> decide +kernel
theorem rIxD_ {K : PySem.W.Frag} {w : World} {H : Hp} {Q : VK} {p : Addr} {z : Str} {v : V} (h : KDct K w p z v) (q : Q v H) : rIxD K w (.ref p) (.str z) H Q := ⟨p, z, v, rfl, rfl, h, q⟩
theorem KDict.gives {K : PySem.W.Frag} {w : World} {d a : Addr} {es : Array DictEntry} {n : Nat} {z : Str} (D : KDict K w d es n) (e : PySem.W.nsIn K d z = some (some (.ref a))) : KDct K w d z (.ref a) := ⟨es, n, _, D.at_, D.lit, e, rfl⟩
theorem KDict.item {K : PySem.W.Frag} {w : World} {d a : Addr} {es : Array DictEntry} {n : Nat} {z : Str} (D : KDict K w d es n) (e : PySem.W.nsIn K d z = some (some (.ref a))) : KDct K w d z (.ref a) := ⟨es, n, _, D.at_, D.lit, e, rfl⟩
section
variable {H : Hp} {Q : VK}
theorem rRep_ {l : Addr} {k : Int} {xs : List V} (h : H l = some (.lst xs)) (k0 : -(2 ^ 63) ≤ k) (k1 : k < 2 ^ 63) (few : xs.length * k.toNat ≤ 100000) (q : ∀ p H2, H p = none → Same H H2 → H2 p = some (.lst (List.replicate k.toNat xs).flatten) → Q (.ref p) H2) : rRep (.ref l) (.int k) H Q :=
  ⟨l, k, xs, rfl, rfl, h, k0, k1, le_line few, fun p n => q p _ n (same_new n) upd_same⟩
theorem rCatL_ {l b : Addr} {xs zs : List V} (h : H l = some (.lst xs)) (h2 : H b = some (.lst zs)) (few : xs.length + zs.length ≤ 100000) (q : ∀ p H2, H p = none → Same H H2 → H2 p = some (.lst (xs ++ zs)) → Q (.ref p) H2) : L2.rCat (.ref l) (.ref b) H Q :=
  ⟨l, b, xs, zs, rfl, rfl, h, h2, le_line few, fun p n => q p _ n (same_new n) upd_same⟩
theorem rSlL_ {K : PySem.W.Frag} {a : Addr} {xs : List V} {lo hi : Option Int} (h : SqL K H a xs) (q : ∀ p H2, H p = none → Same H H2 → H2 p = some (.lst (cutV xs lo hi)) → Q (.ref p) H2) : rSlL K (.ref a) lo hi H Q :=
  ⟨a, xs, rfl, h, fun p n => q p _ n (same_new n) upd_same⟩
end
def TruQ (K : PySem.W.Frag) (QB : Bool → Hp → Prop) : VK := fun x H' => ∃ k, TruV K x H' k ∧ QB k H'
def tTr (K : PySem.W.Frag) (ta : TE) : TT := fun σ H QB => ta σ H (TruQ K QB)
theorem z_truth {X : Cx} {a : Expr} {ta : TE} (ha : PE X a ta) (he : ∀ whole, isTrue a X.env whole = (do let v ← whole; standAt a.pos; holding [v] (truthy v))) : PT X a (tTr X.K ta) := pt_truth ha he
section
variable {σ : L2.St} {H : Hp} {K : PySem.W.Frag} {QB : Bool → Hp → Prop}
theorem rTr {ta : TE} (h : ta σ H (TruQ K QB)) : tTr K ta σ H QB := h
theorem rTruL {p : Addr} {xs : List V} (h : SqL K H p xs) (q : QB (!xs.isEmpty) H) : TruQ K QB (.ref p) H := ⟨_, (show TruV K (.ref p) H (!xs.isEmpty) from .inl ⟨xs, h, rfl⟩), q⟩
theorem rTruT {p : Addr} {xs : List V} (h : SqT K H p xs) (q : QB (!xs.isEmpty) H) : TruQ K QB (.ref p) H := ⟨_, (show TruV K (.ref p) H (!xs.isEmpty) from .inr (.inl ⟨xs, h, rfl⟩)), q⟩
end
theorem side_le {n : Nat} (h : Side n) : 1 ≤ n ∧ n ≤ 8 := by unfold Side at h; omega
theorem side_half {n : Nat} (h : Side n) (h2 : 2 ≤ n) : Side (n / 2) := by
  unfold Side at *
  omega
theorem side_part {x : Du} {w h : Nat} (f : x.fits w h = true) (sw : Side w) (sh : Side h) : Side (x.pw w) ∧ Side (x.ph h) := by
  cases x
  · exact ⟨side_half sw (of_decide_eq_true f), sh⟩
  · exact ⟨sw, side_half sh (of_decide_eq_true f)⟩
  · have f' : (decide (2 ≤ w) && decide (2 ≤ h)) = true := f
    rw [Bool.and_eq_true] at f'
    exact ⟨side_half sw (of_decide_eq_true f'.1), side_half sh (of_decide_eq_true f'.2)⟩
theorem range_snoc {α : Type} (f : Nat → α) (i : Nat) : (List.range (i + 1)).map f = (List.range i).map f ++ [f i] := by
  rw [List.range_succ, List.map_append]; rfl
theorem wds_pos (t : Tr) : 0 < t.wds.length := by
  cases t <;> (simp only [Tr.wds, List.length_cons, List.length_nil]; omega)
theorem atI_zero {x : V} {xs : List V} : atI (x :: xs) 0 = some x := atI_nat (j := 0) rfl
def Kw.behind (w h : Nat) : Kw → List (Nat × Nat)
  | .c _ => [] | .d x => [(x.pw w, x.ph h), (x.pw w, x.ph h)] | .p _ => [(1, 1), (w, h)]
def SizeAt (K : PySem.W.Frag) (H : Hp) (a : Addr) (s : Nat × Nat) : Prop := SqT K H a [.int s.1, .int s.2]
def Tr.szs : Nat → Nat → Tr → List (Nat × Nat)
  | w, h, .col _ => [(w, h)]
  | w, h, .two d a b => (w, h) :: (a.szs (d.pw w) (d.ph h) ++ b.szs (d.pw w) (d.ph h))
  | w, h, .pc _ _ b => (w, h) :: (1, 1) :: b.szs w h
abbrev Pd := (Nat × Nat) × Tr
def Tr.kw : Tr → Kw
  | .col c => .c c | .two d _ _ => .d d | .pc p _ _ => .p p
def pok (p : Pd) : Prop := p.2.ok p.1.1 p.1.2 ∧ 1 ≤ p.1.1 ∧ 1 ≤ p.1.2
def pwds : List Pd → List Str
  | [] => [] | p :: r => p.2.wds ++ pwds r
def pszs : List Pd → List (Nat × Nat)
  | [] => [] | p :: r => p.2.szs p.1.1 p.1.2 ++ pszs r
def psz : List Pd → List (Nat × Nat)
  | [] => [] | p :: r => p.1 :: psz r
def pstep : List Pd → List Pd
  | [] => []
  | (_, .col _) :: r => r
  | ((w, h), .two d a b) :: r => ((d.pw w, d.ph h), a) :: ((d.pw w, d.ph h), b) :: r
  | ((w, h), .pc _ c b) :: r => ((1, 1), .col c) :: ((w, h), b) :: r
theorem pstep_wds (x : Pd) (r : List Pd) : pwds (x :: r) = x.2.kw.s :: pwds (pstep (x :: r)) := by
  obtain ⟨⟨w, h⟩, t⟩ := x
  cases t <;> simp [pwds, pstep, Tr.wds, Tr.kw, Kw.s]
theorem pstep_szs (x : Pd) (r : List Pd) : pszs (x :: r) = x.1 :: pszs (pstep (x :: r)) := by
  obtain ⟨⟨w, h⟩, t⟩ := x
  cases t <;> simp [pszs, pstep, Tr.szs]
theorem pstep_sz (x : Pd) (r : List Pd) : psz (pstep (x :: r)) = x.2.kw.behind x.1.1 x.1.2 ++ psz r := by
  obtain ⟨⟨w, h⟩, t⟩ := x
  cases t <;> simp [psz, pstep, Tr.kw, Kw.behind]
theorem pok_fits {x : Pd} (h : pok x) : x.2.kw.fits x.1.1 x.1.2 = true := by
  obtain ⟨⟨w, hh⟩, t⟩ := x
  cases t with
  | col c => rfl
  | two d a b => exact h.1.1
  | pc p c b => exact h.1.1
theorem du_part_pos {d : Du} {w h : Nat} (f : d.fits w h = true) (hw : 1 ≤ w) (hh : 1 ≤ h) : 1 ≤ d.pw w ∧ 1 ≤ d.ph h := by
  cases d <;> simp [Du.fits, Du.pw, Du.ph] at * <;> omega
theorem pstep_ok {x : Pd} {r : List Pd} (hx : pok x) (hr : ∀ p ∈ r, pok p) : ∀ p ∈ pstep (x :: r), pok p := by
  obtain ⟨⟨w, h⟩, t⟩ := x
  obtain ⟨ok, hw, hh⟩ := hx
  cases t with
  | col c => exact hr
  | two d a b =>
    have := du_part_pos ok.1 hw hh
    intro p hp
    rcases List.mem_cons.mp hp with e | hp
    · rw [e]; exact ⟨ok.2.1, this.1, this.2⟩
    · rcases List.mem_cons.mp hp with e | hp
      · rw [e]; exact ⟨ok.2.2, this.1, this.2⟩
      · exact hr p hp
  | pc p0 c b =>
    intro p hp
    rcases List.mem_cons.mp hp with e | hp
    · rw [e]; exact ⟨trivial, Nat.le_refl _, Nat.le_refl _⟩
    · rcases List.mem_cons.mp hp with e | hp
      · rw [e]; exact ⟨ok.2, hw, hh⟩
      · exact hr p hp
theorem kw_white {k : Kw} (h : k.s = Co.white.s) : k = .c .white := Kw.inj (b := .c .white) h
theorem white_end : ∀ l : List Pd, (∀ x ∈ pwds l, x = Co.white.s) → pszs l = psz l
  | [], _ => rfl
  | x :: r, h => by
    have hk : x.2.kw = .c .white := kw_white (h _ (by rw [pstep_wds]; exact List.mem_cons_self))
    obtain ⟨⟨w, hh⟩, t⟩ := x
    cases t with
    | col c =>
      have ih := white_end r fun y hy => h y (by simp [pwds, hy])
      simp [pszs, psz, Tr.szs, ih]
    | two d a b => cases hk
    | pc p c b => cases hk
/-- a full saying of which white words at the end are left out -/
def Short (F l : List Str) : Prop := ∃ m, m ≤ F.length ∧ l = F.take m ∧ ∀ i, m ≤ i → i < F.length → F[i]? = some Co.white.s
theorem paired_app {α β : Type} {F : α → β → Prop} : ∀ {l l' : List α} {m m' : List β}, Paired F l m → Paired F l' m' → Paired F (l ++ l') (m ++ m')
  | _, _, _, _, .nil, h => h
  | _, _, _, _, .cons r t, h => .cons r (paired_app t h)
theorem szs_len : ∀ (t : Tr) (w h : Nat), (t.szs w h).length = t.wds.length
  | .col _, _, _ => rfl
  | .two d a b, w, h => by simp [Tr.szs, Tr.wds, szs_len a, szs_len b]
  | .pc p c b, w, h => by simp [Tr.szs, Tr.wds, szs_len b]
/-! ### a tuple times 0, 1, more -/
set_option maxHeartbeats 4000000 in
theorem times0 (l : Addr) (items : Array Value) (n : Nat) (dd : Option Addr) (sl : Array (Option Value)) (u : Tok) (full : items.isEmpty = false) :
    Meets (Builtin.«tuple.__mul__» ⟨[.ref l, .int 0 u], []⟩) (fun _ R s => s.heap.get? l = some { cls := .type "tuple", dict := dd, data := .seq items n, slots := sl } ∧
      R (.ok (.ret (Value.ref s.heap.objs.size))) { s with heap := s.heap.push { cls := Value.type "tuple", data := Data.seq #[] } }) :=
  .of_wp fun prog w A R s both => by
    obtain ⟨hp, gs, dr, tk, os⟩ := s
    obtain ⟨there, both⟩ := both
    have ix := AutoSeq1.idx_int
    have e1 : (items.isEmpty || (0 : Int) == 1) = false := by rw [full]; rfl
    wp_walk using wpAny_loadPart' there
    repeat (first
      | (refine wpAny_ite_false (decide_eq_false (by rw [e1]; exact Bool.false_ne_true)) ?_
         wp_walk using wpAny_loadPart' there))
    exact ⟨_, rfl, both⟩
set_option maxHeartbeats 4000000 in
theorem times1 (l : Addr) (items : Array Value) (n : Nat) (dd : Option Addr) (sl : Array (Option Value)) (u : Tok) :
    Meets (Builtin.«tuple.__mul__» ⟨[.ref l, .int 1 u], []⟩) (fun _ R s => s.heap.get? l = some { cls := .type "tuple", dict := dd, data := .seq items n, slots := sl } ∧
      R (.ok (.ret (Value.ref l))) s) :=
  .of_wp fun prog w A R s both => by
    obtain ⟨hp, gs, dr, tk, os⟩ := s
    obtain ⟨there, both⟩ := both
    have ix := AutoSeq1.idx_int
    have ty : Shared.TypeIs ⟨hp, gs, dr, tk, os⟩ (.ref l) "tuple" := ⟨_, there, rfl⟩
    have e1 : (items.isEmpty || (1 : Int) == 1) = true := by rw [Bool.or_eq_true]; exact .inr rfl
    wp_walk using wpAny_loadPart' there
    repeat (first
      | (refine wpAny_ite_true (decide_eq_true e1) ?_
         wp_walk using wpAny_loadPart' there, wpAny_typeOf ty))
    exact ⟨_, rfl, both⟩
/-- a tuple that isn't empty, times a small number -/
def rRepA (K : PySem.W.Frag) : R2 := fun x y H Q => ∃ (l : Addr) (k : Int) (xs : List V), x = .ref l ∧ y = .int k ∧ SqT K H l xs ∧ xs ≠ [] ∧ 0 ≤ k ∧ k ≤ 1000 ∧ xs.length ≤ 1000 ∧
  ∀ (p : Addr) (H' : Hp), Same H H' → SqT K H' p (List.replicate k.toNat xs).flatten → Q (.ref p) H'
theorem op_repA {X : Cx} : OpR X (binaryOp .Mult) (rRepA X.K) := by
  intro pins s σ H x y v u Q I rx ry want
  obtain ⟨l, k, xs, rfl, rfl, hT, some1, k0, k1, few, q⟩ := want
  by_cases big : 2 ≤ k
  · exact op_repT pins s σ H _ _ v u Q I rx ry ⟨l, k, xs, rfl, rfl, hT, some1, big, k1, few, fun p n => q p _ (same_new n) (SqT.of upd_same)⟩
  cases rx
  obtain ⟨t, rfl⟩ := ry
  obtain ⟨its, rel, ⟨⟨cls, dd, data, sl⟩, there, hc, n, hd⟩, _⟩ := I.tuple hT
  simp only at hc hd
  subst hc hd
  have len := rel.length
  have full : its.toArray.isEmpty = false := by
    cases its with
    | nil => exact absurd (List.eq_nil_of_length_eq_zero len) some1
    | cons a b => rfl
  have two : k = 0 ∨ k = 1 := by omega
  refine wpAny_binaryOp_repeat_ref (T := "tuple")
    (U := "int") (by decide) ⟨_, there, rfl⟩ (fun s' => typeIs_int s' k t) noFill_tuple_mul F.fills_int_mul F.slot_int_rmul repeat_tuple F.slot_int_index.lookup ?_
  refine call_meets F.slot_int_rmul (typeIs_int s k t) F.entry_int_rmul (F.args_int_rmul_2 _ _) (int_rmul_tuple k t l its.toArray n dd sl) ⟨there, rfl, ⟨_, there, rfl⟩, ?_⟩
  rcases two with e | e
  · subst e
    refine call_meets F.slot_tuple_mul ⟨_, there, rfl⟩ F.entry_tuple_mul (F.args_tuple_mul_2 _ _) (times0 l its.toArray n dd sl t full) ⟨there, ?_⟩
    refine ⟨.ref s.heap.objs.size, _, I.laid (t' := s.toks) (o := .tup []) (fun b ob z => Heap.get?_push_of_some _ z) (Nat.le_refl _) ?_, rfl, q _ _ (same_new (I.hok.fresh (Nat.le_refl _))) (SqT.of upd_same)⟩
    exact ⟨Nat.zero_le _, [], .nil, IsTup.new _ _⟩
  · subst e
    refine call_meets F.slot_tuple_mul ⟨_, there, rfl⟩ F.entry_tuple_mul (F.args_tuple_mul_2 _ _) (times1 l its.toArray n dd sl t) ⟨there, ?_⟩
    refine ⟨.ref l, H, I, rfl, q l H (Same.refl H) ?_⟩
    rw [show (1 : Int).toNat = 1 from rfl, List.replicate_one, List.flatten_cons, List.flatten_nil, List.append_nil]
    exact hT
theorem rRepA_ {K : PySem.W.Frag} {H : Hp} {Q : VK} {l : Addr} {k : Int} {xs : List V} (h : SqT K H l xs) (n0 : xs ≠ []) (k0 : 0 ≤ k) (k1 : k ≤ 1000) (few : xs.length ≤ 1000) (q : ∀ p H', Same H H' → SqT K H' p (List.replicate k.toNat xs).flatten → Q (.ref p) H') : rRepA K (.ref l) (.int k) H Q :=
  ⟨l, k, xs, rfl, rfl, h, n0, k0, k1, few, q⟩
theorem rep_one {α : Type} (x : α) : ∀ n : Nat, (List.replicate n [x]).flatten = List.replicate n x
  | 0 => rfl
  | n + 1 => by rw [List.replicate_succ, List.flatten_cons, rep_one x n, List.replicate_succ]; rfl
theorem short_full {F l : List Str} (h : Short F l) : l ++ List.replicate (F.length - l.length) Co.white.s = F := by
  obtain ⟨m, hm, rfl, hw⟩ := h
  rw [List.length_take, Nat.min_eq_left hm]
  refine List.ext_getElem? fun i => ?_
  by_cases hi : i < m
  · rw [List.getElem?_append_left (by rw [List.length_take, Nat.min_eq_left hm]; exact hi), List.getElem?_take, if_pos hi]
  · rw [List.getElem?_append_right (by rw [List.length_take, Nat.min_eq_left hm]; omega), List.length_take, Nat.min_eq_left hm, List.getElem?_replicate]
    by_cases h2 : i < F.length
    · rw [if_pos (by omega), hw i (by omega) h2]
    · rw [if_neg (by omega), List.getElem?_eq_none (by omega)]
theorem Short.seen {F l : List Str} (h : Short F l) : Seen F l := by
  intro i
  rw [← short_full h]
  rw [List.getD_eq_getElem?_getD, List.getD_eq_getElem?_getD]
  by_cases hi : i < l.length
  · rw [List.getElem?_append_left hi]
  · rw [List.getElem?_eq_none (by omega), List.getElem?_append_right (by omega), List.getElem?_replicate]
    split <;> rfl
section
variable {σ : L2.St} {H : Hp} {K : PySem.W.Frag}
def IZipQ (K : PySem.W.Frag) (R : It → Hp → Prop) : List V → Hp → Prop := fun vs H1 => ∃ a b xs ys, vs = [.ref a, .ref b] ∧ ((SqL K H1 a xs ∧ SqL K H1 b ys ∧ R (Itz K a b) H1) ∨ (SqT K H1 a xs ∧ SqT K H1 b ys ∧ R (RZ.ItzT K a b) H1))
theorem riZip {ta : TA} {R : It → Hp → Prop} (h : ta σ H (IZipQ K R)) : RZ.iZipA K ta σ H R := h
theorem rIZipT {R : It → Hp → Prop} {a b : Addr} {xs ys : List V} (ha : SqT K H a xs) (hb : SqT K H b ys) (q : R (RZ.ItzT K a b) H) : IZipQ K R [.ref a, .ref b] H := ⟨a, b, xs, ys, rfl, .inr ⟨ha, hb, q⟩⟩
/-- [.. for x, y in zip(two tuples of one length)] -/
theorem lc_zipT {a b : Addr} {xs ys : List V} {g : TG} {tt : TT} {te : TE} {vs : List Nat} {H1 : Hp} {D : Addr} {Qd : Hp → Prop} (leq : xs.length = ys.length) (Pv : Nat → Hp → Prop) (h0 : Pv 0 (upd H1 D (.lst []))) (hl : ∀ i H, i ≤ xs.length → Pv i H → SqT K H a xs ∧ SqT K H b ys)
    (hs : ∀ i x y H T H', xs[i]? = some x → ys[i]? = some y → Pv i H → H T = none → Same H H' → H' T = some (.tup [x, y]) → g (.ref T) (wipe σ vs) H' fun σ2 H2 => wipe σ2 vs = wipe σ vs ∧ tt σ2 H2 fun b H3 =>
      if b = true then te σ2 H3 fun y H4 => ∃ acc, H4 D = some (.lst acc) ∧ acc.length < sizeLine ∧ Pv (i + 1) (upd H4 D (.lst (acc ++ [y]))) else Pv (i + 1) H3) (hd : ∀ H, Pv xs.length H → Qd H) :
    ∃ W : Nat → Nat → Hp → Prop, (∃ m, W 0 m (upd H1 D (.lst []))) ∧ ∀ i m H, W i m H →
      (((RZ.ItzT K a b).stop i H ∧ Qd H) ∨ ((RZ.ItzT K a b).go i H ∧ ∃ Nx : Hp → Prop, (∀ H', Nx H' → ∃ m', m' < m ∧ W (i + 1) m' H') ∧ ∀ x H', (RZ.ItzT K a b).yld i H x H' → g x (wipe σ vs) H' fun σ2 H2 => wipe σ2 vs = wipe σ vs ∧ tt σ2 H2 fun b H3 =>
        if b = true then te σ2 H3 fun y H4 => ∃ acc, H4 D = some (.lst acc) ∧ acc.length < sizeLine ∧ Nx (upd H4 D (.lst (acc ++ [y]))) else Nx H3)) := by
  refine ⟨fun i m H => m = xs.length - i ∧ i ≤ xs.length ∧ Pv i H, ⟨xs.length, by simp, Nat.zero_le _, h0⟩, ?_⟩
  rintro i m H ⟨rfl, hi, p⟩
  obtain ⟨q1, q2⟩ := hl i H hi p
  rcases Nat.lt_or_ge i xs.length with lt | ge
  · refine .inr ⟨⟨xs, ys, xs[i], ys[i], q1, q2, List.getElem?_eq_getElem lt, List.getElem?_eq_getElem (by omega)⟩, Pv (i + 1), fun H' p' => ⟨xs.length - (i + 1), by omega, rfl, lt, p'⟩, ?_⟩
    rintro v H' ⟨T, x, y, rfl, nT, rfl, y1, y2⟩
    exact hs i x y H T _ (y1 xs q1) (y2 ys q2) p nT (same_new nT) upd_same
  · have e : i = xs.length := by omega
    subst e
    exact .inl ⟨⟨xs, ys, q1, q2, .inl (Nat.le_refl _)⟩, hd H p⟩
def IRevQ (K : PySem.W.Frag) (R : It → Hp → Prop) : VK := fun v H1 => ∃ (a : Addr) (xs : List V), v = .ref a ∧ ((SqL K H1 a xs ∧ R (Itv K a xs.length) H1) ∨ (SqT K H1 a xs ∧ R (RT.ItvT K a xs.length) H1))
theorem riRev {te : TE} {R : It → Hp → Prop} (h : te σ H (IRevQ K R)) : RT.iRevA K te σ H R := h
theorem rIRevL {R : It → Hp → Prop} {a : Addr} {xs : List V} (h : SqL K H a xs) (q : R (Itv K a xs.length) H) : IRevQ K R (.ref a) H := ⟨a, xs, rfl, .inl ⟨h, q⟩⟩
theorem rIRevT {R : It → Hp → Prop} {a : Addr} {xs : List V} (h : SqT K H a xs) (q : R (RT.ItvT K a xs.length) H) : IRevQ K R (.ref a) H := ⟨a, xs, rfl, .inr ⟨h, q⟩⟩
/-- for x in reversed(a list that stands), reversed(a tuple) -/
theorem for_revL {a : Addr} {xs : List V} {g : TG} {tb : TS} {D : Ends} (Pv : Nat → L2.St → Hp → Prop) (h0 : Pv 0 σ H) (hl : ∀ i σ H, i ≤ xs.length → Pv i σ H → SqL K H a xs)
    (hs : ∀ i x σ H, i < xs.length → xs[xs.length - 1 - i]? = some x → Pv i σ H → g x σ H fun σ2 H2 => tb { D with nx := Pv (i + 1), ct := Pv (i + 1), bk := D.nx } σ2 H2)
    (hd : ∀ σ H, Pv xs.length σ H → D.nx σ H) : ∃ W : Nat → Nat → L2.St → Hp → Prop, (∃ m, W 0 m σ H) ∧ ∀ i m σ H, W i m σ H → (((Itv K a xs.length).stop i H ∧ D.nx σ H) ∨
      ((Itv K a xs.length).go i H ∧ ∃ N : L2.St → Hp → Prop, (∀ σ' H', N σ' H' → ∃ m', m' < m ∧ W (i + 1) m' σ' H') ∧ ∀ x H', (Itv K a xs.length).yld i H x H' → g x σ H' fun σ2 H2 => tb { D with nx := N, ct := N, bk := D.nx } σ2 H2)) := by
  refine ⟨fun i m σ H => m = xs.length - i ∧ i ≤ xs.length ∧ Pv i σ H, ⟨xs.length, by simp, Nat.zero_le _, h0⟩, ?_⟩
  rintro i m σ H ⟨rfl, hi, p⟩
  have q := hl i σ H hi p
  rcases Nat.lt_or_ge i xs.length with lt | ge
  · refine .inr ⟨⟨lt, xs, xs[xs.length - 1 - i], q, List.getElem?_eq_getElem (by omega)⟩, Pv (i + 1), fun σ' H' p' => ⟨xs.length - (i + 1), by omega, rfl, lt, p'⟩, ?_⟩
    rintro v H' ⟨rfl, y⟩
    exact hs i v σ _ lt (y xs q) p
  · have e : i = xs.length := by omega
    subst e
    exact .inl ⟨Nat.le_refl _, hd σ H p⟩
theorem for_revT {a : Addr} {xs : List V} {g : TG} {tb : TS} {D : Ends} (Pv : Nat → L2.St → Hp → Prop) (h0 : Pv 0 σ H) (hl : ∀ i σ H, i ≤ xs.length → Pv i σ H → SqT K H a xs)
    (hs : ∀ i x σ H, i < xs.length → xs[xs.length - 1 - i]? = some x → Pv i σ H → g x σ H fun σ2 H2 => tb { D with nx := Pv (i + 1), ct := Pv (i + 1), bk := D.nx } σ2 H2)
    (hd : ∀ σ H, Pv xs.length σ H → D.nx σ H) : ∃ W : Nat → Nat → L2.St → Hp → Prop, (∃ m, W 0 m σ H) ∧ ∀ i m σ H, W i m σ H → (((RT.ItvT K a xs.length).stop i H ∧ D.nx σ H) ∨
      ((RT.ItvT K a xs.length).go i H ∧ ∃ N : L2.St → Hp → Prop, (∀ σ' H', N σ' H' → ∃ m', m' < m ∧ W (i + 1) m' σ' H') ∧ ∀ x H', (RT.ItvT K a xs.length).yld i H x H' → g x σ H' fun σ2 H2 => tb { D with nx := N, ct := N, bk := D.nx } σ2 H2)) := by
  refine ⟨fun i m σ H => m = xs.length - i ∧ i ≤ xs.length ∧ Pv i σ H, ⟨xs.length, by simp, Nat.zero_le _, h0⟩, ?_⟩
  rintro i m σ H ⟨rfl, hi, p⟩
  have q := hl i σ H hi p
  rcases Nat.lt_or_ge i xs.length with lt | ge
  · refine .inr ⟨⟨lt, xs, xs[xs.length - 1 - i], q, List.getElem?_eq_getElem (by omega)⟩, Pv (i + 1), fun σ' H' p' => ⟨xs.length - (i + 1), by omega, rfl, lt, p'⟩, ?_⟩
    rintro v H' ⟨rfl, y⟩
    exact hs i v σ _ lt (y xs q) p
  · have e : i = xs.length := by omega
    subst e
    exact .inl ⟨Nat.le_refl _, hd σ H p⟩
end
theorem paired_get {α β : Type} {F : α → β → Prop} : ∀ {l : List α} {m : List β} {i : Nat} {x : α}, Paired F l m → l[i]? = some x → ∃ y, m[i]? = some y ∧ F x y
  | _, _, 0, _, .cons r _, e => by
    cases Option.some.inj e
    exact ⟨_, rfl, r⟩
  | _, _, i + 1, _, .cons _ t, e => paired_get (i := i) t e
  | _, _, _, _, .nil, e => by simp at e
theorem ref_get {as : List Addr} {i : Nat} {v : V} (h : (as.map V.ref)[i]? = some v) : ∃ a, as[i]? = some a ∧ v = .ref a := get_map h

/-! ### the rules with the written part by its name (a comprehension's block wants it so) -/
section
variable {X : Cx} (K : PySem.W.Frag) (hK : X.K = K := by rfl)
include hK
theorem k_ixL : IxR X (rIxL K) := hK ▸ ix_list
theorem k_ixT : IxR X (rIxT K) := hK ▸ ix_tup
theorem k_cat : OpR X (binaryOp .Add) (rCatA K) := hK ▸ op_catA
theorem k_rep : OpR X (binaryOp .Mult) (rRepA K) := hK ▸ op_repA
theorem k_in : OpR X (compareOp .In) (rIn K false) := hK ▸ op_in_seq
theorem k_notIn : OpR X (compareOp .NotIn) (rIn K true) := hK ▸ op_notIn_seq
theorem k_eqD (hu : X.A.units + 64 < cLine) : OpR X (compareOp .Eq) (rEqD K) := hK ▸ op_eqD hu
theorem k_neD (hu : X.A.units + 64 < cLine) : OpR X (compareOp .NotEq) (rNeD K) := hK ▸ op_neD hu
theorem k_len : CallR X (.builtin "len") (rLn K) := hK ▸ z_len
theorem k_tuple : CallR X (.type "tuple") (rTupOf K) := hK ▸ z_tuple
theorem k_list : CallR X (.type "list") (rLstOf K) := hK ▸ z_list
theorem k_all (calm : X.calm = true) : CallR X (.builtin "all") (rAll K) := hK ▸ cr_all calm
theorem k_any (calm : X.calm = true) : CallR X (.builtin "any") (rAny K) := hK ▸ cr_any calm
theorem k_slT : SlR X (rSlA K) := hK ▸ sl_tupA
theorem k_slL : SlR X (rSlL K) := hK ▸ sl_list
end
theorem k_ixD {X : Cx} (K : PySem.W.Frag) (w : World) (hK : X.K = K := by rfl) (hw : X.w = w := by rfl) : IxR X (rIxD K w) := by
  subst hK hw
  exact ix_kdict
theorem k_gtup {X : Cx} (K : PySem.W.Frag) (n : Nat) {es : List Expr} {k : Nat} {t : TGs} {pos : Pos} (calm : X.calm = true) (h : PGs X es t) (hK : X.K = K := by rfl)
    (hn : (assignEach es X.env).length = n := by rfl) (hst : (assignEach es X.env).findIdx? (·.1) = none := by rfl) : PG X (.Tuple es k pos) (gTup K n t) := by
  subst hK
  exact pg_tup calm h hn hst
theorem k_iterT {X : Cx} (K : PySem.W.Frag) {tg l : Expr} {tl : TE} (hl : PE X l tl) (hK : X.K = K := by rfl) : PI X tg l (iTup K tl) := by
  subst hK
  exact pi_tup hl
theorem k_iterL {X : Cx} (K : PySem.W.Frag) {tg l : Expr} {tl : TE} (hl : PE X l tl) (hK : X.K = K := by rfl) : PI X tg l (iList K tl) := by
  subst hK
  exact pi_list hl
theorem k_enumT {X : Cx} (K : PySem.W.Frag) {e : Expr} {ta : TA} {p pos tpos : Pos} {elts : List Expr} {kk : Nat} (hg : Gl X "enumerate") (hm : X.mg "enumerate" = none) (ha : PA X [e] ta)
    (hK : X.K = K := by rfl) (plain : starEach [e] X.env = [(false, eval e X.env)] := by rfl) : PI X (.Tuple elts kk tpos) (.Call (.Name "enumerate" p) [e] [] pos) (iEnumT K ta) := by
  subst hK
  exact pi_enumT hg hm ha plain
theorem k_zip {X : Cx} (K : PySem.W.Frag) {e e2 : Expr} {ta : TA} {p pos tpos : Pos} {elts : List Expr} {kk : Nat} (hg : Gl X "zip") (hm : X.mg "zip" = none) (ha : PA X [e, e2] ta) (hK : X.K = K := by rfl)
    (plain : starEach [e, e2] X.env = (false, eval e X.env) :: starEach [e2] X.env := by rfl) (rest : (backTo pos (starEach [e2] X.env)).any (·.1) = false := by rfl) :
    PI X (.Tuple elts kk tpos) (.Call (.Name "zip" p) [e, e2] [] pos) (RZ.iZipA K ta) := by
  subst hK
  exact RZ.pi_zipA hg hm ha plain rest
theorem k_rev {X : Cx} (K : PySem.W.Frag) {tg e : Expr} {te : TE} {p pos : Pos} (hg : Gl X "reversed") (hm : X.mg "reversed" = none) (he : PE X e te) (hK : X.K = K := by rfl)
    (plain : starEach [e] X.env = (false, eval e X.env) :: starEach [] X.env := by rfl) : PI X tg (.Call (.Name "reversed" p) [e] [] pos) (RT.iRevA K te) := by
  subst hK
  exact RT.pi_revA hg hm he plain
theorem k_truth {X : Cx} (K : PySem.W.Frag) {a : Expr} {ta : TE} (ha : PE X a ta) (he : ∀ whole, isTrue a X.env whole = (do let v ← whole; standAt a.pos; holding [v] (truthy v))) (hK : X.K = K := by rfl) : PT X a (tTr K ta) := by
  subst hK
  exact z_truth ha he
theorem k_bm0 {X : Cx} (K : PySem.W.Frag) {T id : String} {name : Str} {o : Expr} {apos cpos : Pos} {r : V → List V → Hp → VK → Prop} {to : TE} (pa : PlainAttrs T) (slot : Slot T name id)
    (hty : typeOf (.builtin id) = pure (.type "method_descriptor")) (hm : MtR X id r) (ho : PE X o to) (hK : X.K = K := by rfl)
    (hbase : attributeBase o name X.env (eval o X.env) = eval o X.env := by rfl)
    (hline : (apos.endLine == cpos.line) = true := by rfl) : PE X (.Call (.Attribute o name apos) [] [] cpos) (tBM0 K T r to) := by
  subst hK
  exact pe_bm0 pa slot hty hm ho hbase hline
theorem k_bm {X : Cx} (K : PySem.W.Frag) {T id : String} {name : Str} {o e : Expr} {es : List Expr} {apos cpos : Pos} {r : V → List V → Hp → VK → Prop} {to : TE} {t : TA} (pa : PlainAttrs T) (slot : Slot T name id)
    (hty : typeOf (.builtin id) = pure (.type "method_descriptor")) (hm : MtR X id r) (ho : PE X o to) (ha : PA X (e :: es) t) (hK : X.K = K := by rfl)
    (hbase : attributeBase o name X.env (eval o X.env) = eval o X.env := by
      rfl)
    (hfew : ((backTo cpos (starEach (e :: es) X.env)).all (fun x => !x.1) && (backToKw cpos (keywordEach [] X.env)).all (fun x => x.1.isSome) && decide ((e :: es).length + ([] : List Keyword).length + (if ([] : List Keyword).isEmpty then 0 else 1) < 30)) = true := by rfl)
    (hline : (apos.endLine == cpos.line) = true := by rfl)
    (hs : starEach (e :: es) X.env = (false, eval e X.env) :: starEach es X.env := by rfl)
    (hplain : (backTo cpos (starEach es X.env)).any (·.1) = false := by rfl) : PE X (.Call (.Attribute o name apos) (e :: es) [] cpos) (tBM K T r to t) := by
  subst hK
  exact pe_bm pa slot hty hm ho ha hbase hfew hline hs hplain
theorem k_listZip {X : Cx} (K : PySem.W.Frag) {e1 e2 : Expr} {ta : TA} {p1 p2 pos pos2 : Pos} (calm : X.calm = true) (hg : Gl X "list") (hm : X.mg "list" = none) (hg2 : Gl X "zip") (hm2 : X.mg "zip" = none) (ha : PA X [e1, e2] ta) (hK : X.K = K := by rfl)
    (plain2 : starEach [e1, e2] X.env = (false, eval e1 X.env) :: starEach [e2] X.env := by rfl) (rest2 : (backTo pos2 (starEach [e2] X.env)).any (·.1) = false := by rfl)
    (plain : starEach [.Call (.Name "zip" p2) [e1, e2] [] pos2] X.env = (false, eval (.Call (.Name "zip" p2) [e1, e2] [] pos2) X.env) :: starEach [] X.env := by rfl) :
    PE X (.Call (.Name "list" p1) [.Call (.Name "zip" p2) [e1, e2] [] pos2] [] pos) (tCB (rListZip K) ta) := by
  subst hK
  exact pe_listZip calm hg hm hg2 hm2 ha plain2 rest2 plain
theorem rChain {σ : L2.St} {H : Hp} {Q : VK} {r r' : R2} {ta tb tc : TE} (h : ta σ H fun x H1 => tb σ H1 fun y H2 => r x y H2 fun z H3 => ∃ k, z = .bl k ∧ (if k = true then tc σ H3 fun w' H4 => r' y w' H4 Q else Q (.bl false) H3)) : tChain r r' ta tb tc σ H Q := h
/-! ### drawings of parts -/
def cell2 (d : Du) (w h : Nat) (f1 f2 : Nat → Nat → Co) (r c : Nat) : Co :=
  if (c / d.pw w + r / d.ph h) % 2 = 0 then f1 (r % d.ph h) (c % d.pw w) else f2 (r % d.ph h) (c % d.pw w)
theorem range_two {α : Type} (f : Nat → α) (n : Nat) : (List.range (n + n)).map f = (List.range n).map f ++ (List.range n).map fun i => f (n + i) := by
  rw [List.range_add, List.map_append, List.map_map]
  rfl
theorem map_range_congr {α : Type} {f g : Nat → α} {n : Nat} (h : ∀ i, i < n → f i = g i) : (List.range n).map f = (List.range n).map g :=
  List.map_congr_left fun i hi => h i (List.mem_range.mp hi)
theorem zip_range {α β γ : Type} (f : α → β → γ) (a : Nat → α) (b : Nat → β) (n : Nat) : List.zipWith f ((List.range n).map a) ((List.range n).map b) = (List.range n).map fun i => f (a i) (b i) := by
  rw [List.zipWith_map, List.zipWith_self]
theorem row_two {f1 f2 : Nat → Co} (n : Nat) : (List.range n).map f1 ++ (List.range n).map f2 = (List.range (n + n)).map fun c => if c / n = 0 then f1 (c % n) else f2 (c % n) := by
  rw [range_two]
  congr 1
  · refine map_range_congr fun i hi => ?_
    rw [Nat.div_eq_of_lt hi, if_pos rfl, Nat.mod_eq_of_lt hi]
  · refine map_range_congr fun i hi => ?_
    have e : (n + i) / n = 1 := by
      rw [Nat.add_div_left _ (by omega), Nat.div_eq_of_lt hi]
    rw [e, if_neg (by decide), Nat.add_mod_left, Nat.mod_eq_of_lt hi]
theorem side_even {n : Nat} (s : Side n) (h : 2 ≤ n) : n / 2 + n / 2 = n := by
  unfold Side at s
  omega
theorem grid_party {w h : Nat} (sw : Side w) (f : 2 ≤ w) (f1 f2 : Nat → Nat → Co) : List.zipWith (· ++ ·) (grid (w / 2) h f1) (grid (w / 2) h f2) = grid w h (cell2 .party w h f1 f2) := by
  unfold grid
  rw [zip_range]
  refine map_range_congr fun r hr => ?_
  rw [row_two, side_even sw f]
  refine map_range_congr fun c hc => ?_
  show _ = (if (c / (w / 2) + r / h) % 2 = 0 then f1 (r % h) (c % (w / 2)) else f2 (r % h) (c % (w / 2)))
  rw [Nat.div_eq_of_lt hr, Nat.mod_eq_of_lt hr, Nat.add_zero]
  have e2 := side_even sw f
  have : c / (w / 2) < 2 := Nat.div_lt_of_lt_mul (by omega)
  rw [Nat.mod_eq_of_lt this]
theorem grid_cut {w h : Nat} (sh : Side h) (f : 2 ≤ h) (f1 f2 : Nat → Nat → Co) : grid w (h / 2) f1 ++ grid w (h / 2) f2 = grid w h (cell2 .cut w h f1 f2) := by
  have e2 := side_even sh f
  unfold grid
  rw [show (List.range h) = List.range (h / 2 + h / 2) by rw [e2], range_two]
  congr 1
  · refine map_range_congr fun r hr => map_range_congr fun c hc => ?_
    show _ = (if (c / w + r / (h / 2)) % 2 = 0 then f1 (r % (h / 2)) (c % w) else _)
    rw [Nat.div_eq_of_lt hr, Nat.div_eq_of_lt hc, if_pos rfl, Nat.mod_eq_of_lt hr, Nat.mod_eq_of_lt hc]
  · refine map_range_congr fun r hr => map_range_congr fun c hc => ?_
    show _ = (if (c / w + (h / 2 + r) / (h / 2)) % 2 = 0 then _ else f2 ((h / 2 + r) % (h / 2)) (c % w))
    have e : (h / 2 + r) / (h / 2) = 1 := by
      rw [Nat.add_div_left _ (by omega), Nat.div_eq_of_lt hr]
    rw [e, Nat.div_eq_of_lt hc, if_neg (by decide), Nat.add_mod_left, Nat.mod_eq_of_lt hr, Nat.mod_eq_of_lt hc]
theorem grid_quart {w h : Nat} (sw : Side w) (sh : Side h) (fw : 2 ≤ w) (fh : 2 ≤ h) (f1 f2 : Nat → Nat → Co) :
    List.zipWith (· ++ ·) (grid (w / 2) (h / 2) f1) (grid (w / 2) (h / 2) f2) ++ List.zipWith (· ++ ·) (grid (w / 2) (h / 2) f2) (grid (w / 2) (h / 2) f1) = grid w h (cell2 .quartered w h f1 f2) := by
  rw [grid_party sw fw, grid_party sw fw]
  have e2 := side_even sh fh
  have e1 := side_even sw fw
  unfold grid
  rw [show (List.range h) = List.range (h / 2 + h / 2) by rw [e2], range_two]
  congr 1
  · refine map_range_congr fun r hr => map_range_congr fun c hc => ?_
    show (if (c / (w / 2) + r / (h / 2)) % 2 = 0 then f2 (r % (h / 2)) (c % (w / 2)) else f1 (r % (h / 2)) (c % (w / 2))) =
      (if (c / (w / 2) + (h / 2 + r) / (h / 2)) % 2 = 0 then f1 ((h / 2 + r) % (h / 2)) (c % (w / 2)) else f2 ((h / 2 + r) % (h / 2)) (c % (w / 2)))
    have e : (h / 2 + r) / (h / 2) = 1 := by
      rw [Nat.add_div_left _ (by omega), Nat.div_eq_of_lt hr]
    rw [e, Nat.div_eq_of_lt hr, Nat.add_mod_left, Nat.add_zero]
    have lt : c / (w / 2) < 2 := Nat.div_lt_of_lt_mul (by omega)
    have two : ∀ n : Nat, n < 2 → n = 0 ∨ n = 1 := fun n h => by omega
    rcases two _ lt with z | z <;> rw [z] <;> simp
theorem grid_len (w h : Nat) (f : Nat → Nat → Co) : (grid w h f).length = h := by
  unfold grid
  rw [List.length_map, List.length_range]
theorem grid_row {w h : Nat} {f : Nat → Nat → Co} {r : List Co} (m : r ∈ grid w h f) : r.length = w := by
  unfold grid at m
  obtain ⟨i, _, rfl⟩ := List.mem_map.mp m
  rw [List.length_map, List.length_range]
theorem grid_get {w h : Nat} {f : Nat → Nat → Co} {i : Nat} (hi : i < h) : (grid w h f)[i]? = some ((List.range w).map fun c => f i c) := by
  unfold grid
  rw [List.getElem?_map, List.getElem?_range hi]
  rfl
theorem Drw.same {K : PySem.W.Frag} {H H' : Hp} {p : Addr} {rows : List (List Co)} (s : Same H H') (h : Drw K H p rows) : Drw K H' p rows := (imm_of_same s).drw h
/-! ### isinstance -/
theorem tyT {K : PySem.W.Frag} {H : Hp} {a : Addr} {xs : List V} (h : SqT K H a xs) : TyX K H (.ref a) (.type "tuple") := by
  rcases h with (h | ⟨o, h⟩) | ⟨o, its, n, h, c, _⟩
  · exact .base (.tup h)
  · exact .fTuple h
  · exact .kTuple h c
theorem tyL {K : PySem.W.Frag} {H : Hp} {a : Addr} {xs : List V} (h : SqL K H a xs) : TyX K H (.ref a) (.type "list") := by
  rcases h with (h | ⟨o, h⟩) | ⟨o, its, n, h, c, _⟩
  · exact .base (.lst h)
  · exact .base (.frz h)
  · exact .kList h c
theorem k_isi {X : Cx} (K : PySem.W.Frag) (hK : X.K = K := by rfl) : CallR X (.builtin "isinstance") (rIsi K) := hK ▸ call_isi
theorem k_isiT {X : Cx} (K : PySem.W.Frag) (hK : X.K = K := by rfl) : CallR X (.builtin "isinstance") (rIsiT K) := hK ▸ call_isiT
theorem rIsi_ {K : PySem.W.Frag} {H : Hp} {Q : VK} {x : V} {n t : String} {b : Bool} (ty : TyX K H x (.type t)) (e : kitB t n = some b) (q : Q (.bl b) H) : rIsi K [x, .ty n] H Q :=
  ⟨x, .ty n, .type t, .type n, b, rfl, .ty n, ty, kit_ty e, q⟩
theorem rIsiT_ {K : PySem.W.Frag} {H : Hp} {Q : VK} {x : V} {tp : Addr} {n m t : String} {b c : Bool} (h : H tp = some (.tup [.ty n, .ty m])) (ty : TyX K H x (.type t)) (e : kitB t n = some b) (e2 : kitB t m = some c) (q : Q (.bl (b || c)) H) : rIsiT K [x, .ref tp] H Q :=
  ⟨x, tp, _, .type t, [.type n, .type m], b || c, rfl, h, .cons (.ty n) (.cons (.ty m) .nil), ty, kitAny_cons (kit_ty e) (fun hb => by subst hb; exact kitAny_cons (kit_ty e2) (fun hc => by subst hc; exact kitAny_nil) (fun hc => by subst hc; rfl)) (fun hb => by subst hb; rfl), q⟩
mutual
def fewD : PyData → Prop
  | .list xs => xs.length ≤ 100000 ∧ fewDs xs
  | .tuple xs => xs.length ≤ 100000 ∧ fewDs xs
  | _ => True
def fewDs : List PyData → Prop
  | [] => True
  | x :: xs => fewD x ∧ fewDs xs
end
theorem dpAll_get {K : PySem.W.Frag} {H : Hp} : ∀ {vs : List V} {ds : List PyData} {i : Nat} {d : PyData}, DpAll K H vs ds → ds[i]? = some d → ∃ v, vs[i]? = some v ∧ Dp K H v d
  | _, _, 0, _, .cons h _, e => by
    cases Option.some.inj e
    exact ⟨_, rfl, h⟩
  | _, _, i + 1, _, .cons _ t, e => dpAll_get (i := i) t e
  | _, _, _, _, .nil, e => by simp at e
theorem dpAll_len {K : PySem.W.Frag} {H : Hp} : ∀ {vs : List V} {ds : List PyData}, DpAll K H vs ds → vs.length = ds.length
  | _, _, .nil => rfl
  | _, _, .cons _ t => congrArg (· + 1) (dpAll_len t)
theorem fewDs_get : ∀ {ds : List PyData} {i : Nat} {d : PyData}, fewDs ds → ds[i]? = some d → fewD d
  | _ :: _, 0, _, h, e => by
    cases Option.some.inj e
    exact h.1
  | _ :: ds, i + 1, _, h, e => fewDs_get (ds := ds) (i := i) h.2 e
  | [], _, _, _, e => by simp at e
theorem depth_get : ∀ {ds : List PyData} {i : Nat} {d : PyData}, ds[i]? = some d → d.depth ≤ PyData.depthAll ds
  | x :: ds, 0, _, e => by
    cases Option.some.inj e
    rw [PyData.depthAll]
    exact Nat.le_max_left _ _
  | x :: ds, i + 1, _, e => by
    rw [PyData.depthAll]
    exact Nat.le_trans (depth_get (ds := ds) (i := i) e) (Nat.le_max_right _ _)
  | [], _, _, e => by simp at e
mutual
theorem Dp.imm {K : PySem.W.Frag} {H H' : Hp} (s : Same H H') : ∀ {v : V} {d : PyData}, Dp K H v d → Dp K H' v d
  | _, _, .non => .non
  | _, _, .bl b => .bl b
  | _, _, .int i => .int i
  | _, _, .str x => .str x
  | _, _, .lst h t => .lst (s.seq h) (DpAll.imm s t)
  | _, _, .tup h t => .tup ((imm_of_same s).sqT h) (DpAll.imm s t)
theorem DpAll.imm {K : PySem.W.Frag} {H H' : Hp} (s : Same H H') : ∀ {vs : List V} {ds : List PyData}, DpAll K H vs ds → DpAll K H' vs ds
  | _, _, .nil => .nil
  | _, _, .cons h t => .cons (Dp.imm s h) (DpAll.imm s t)
end
theorem rEqNil {K : PySem.W.Frag} {H : Hp} {Q : VK} {p q : Addr} (ha : SqL K H p []) (hb : SqL K H q []) (k : Q (.bl true) H) : rEqD K (.ref p) (.ref q) H Q :=
  ⟨.list [], .list [], .lst ha .nil, .lst hb .nil, by decide, by decide, by rw [PyData.eqv, PyData.eqvAll]; exact k⟩
/-- an item of a list or of a tuple -/
def rIxA (K : PySem.W.Frag) : R2 := fun x y H Q => rIxL K x y H Q ∨ rIxT K x y H Q
theorem k_ixA {X : Cx} (K : PySem.W.Frag) (hK : X.K = K := by rfl) : IxR X (rIxA K) := hK ▸ IxR.or ix_list ix_tup
def rIsN1 : R2 := fun x y H Q => y = .non ∧ Q (.bl (decide (x = .non))) H
def rNotN1 : R2 := fun x y H Q => y = .non ∧ Q (.bl (!decide (x = .non))) H
theorem z_isN {X : Cx} : OpR X (compareOp .Is) rIsN1 := op_isN
theorem z_notN {X : Cx} : OpR X (compareOp .IsNot) rNotN1 := op_notN
theorem rIsN_ {x : V} {H : Hp} {Q : VK} (q : Q (.bl (decide (x = .non))) H) : rIsN1 x .non H Q := ⟨rfl, q⟩
theorem rNotN_ {x : V} {H : Hp} {Q : VK} (q : Q (.bl (!decide (x = .non))) H) : rNotN1 x .non H Q := ⟨rfl, q⟩
theorem rIsB_ {a b : Bool} {H : Hp} {Q : VK} (q : Q (.bl (decide (a = b))) H) : rIsB (.bl a) (.bl b) H Q := ⟨a, b, rfl, rfl, q⟩
theorem rNotB_ {a b : Bool} {H : Hp} {Q : VK} (q : Q (.bl (!decide (a = b))) H) : rNotB (.bl a) (.bl b) H Q := ⟨a, b, rfl, rfl, q⟩
theorem rNeKws {K : PySem.W.Frag} {H : Hp} {Q : VK} {p q : Addr} {a b : List Kw} (ha : SqL K H p (a.map fun k => V.str k.s)) (hb : SqL K H q (b.map fun k => V.str k.s)) (k : Q (.bl (!decide (a = b))) H) : rNeD K (.ref p) (.ref q) H Q :=
  ⟨_, _, dp_kws ha, dp_kws hb, dKws_shaped a, dKws_shaped b, by rw [PyData.eqv, show PyData.eqvAll (dKws a) (dKws b) = decide (a = b) from eqvAll_map Kw.eqv a b]; exact k⟩

/-! ### t[::-1] of a tuple -/
theorem rev_places (n : Nat) : Builtin.Slice.slicePlaces ((n : Int) - 1) (-1) (-1) = n := by
  unfold Builtin.Slice.slicePlaces
  have h1 : ¬ ((-1 : Int) > 0) := by decide
  simp only [h1, if_false]
  by_cases h : (n : Int) - 1 > -1
  · rw [if_pos h, show (- -1 : Int) = 1 by decide, Int.ediv_one]
    omega
  · rw [if_neg h]
    omega
theorem rev_adjust (n : Nat) : Builtin.Slice.sliceAdjust none none (-1) (n : Int) = ((n : Int) - 1, -1) := by
  unfold Builtin.Slice.sliceAdjust
  rfl
theorem fm_congr {α β : Type} {f g : α → Option β} : ∀ {l : List α}, (∀ x ∈ l, f x = g x) → l.filterMap f = l.filterMap g
  | [], _ => rfl
  | x :: l, h => by rw [List.filterMap_cons, List.filterMap_cons, h x List.mem_cons_self, fm_congr fun y hy => h y (List.mem_cons_of_mem _ hy)]
theorem rev_pick (xs : Array Value) : ((List.range xs.size).filterMap fun (m : Nat) => xs[((xs.size : Int) - 1 + (m : Int) * -1).toNat]?).toArray = xs.toList.reverse.toArray := by
  have e : (List.range xs.size).filterMap (fun (m : Nat) => xs[((xs.size : Int) - 1 + (m : Int) * -1).toNat]?) = ((List.range xs.size).map fun k => xs.size - 1 - k).filterMap (xs[·]?) := by
    rw [List.filterMap_map]
    refine fm_congr fun m hm => ?_
    have := List.mem_range.mp hm
    show _ = xs[xs.size - 1 - m]?
    rw [show ((xs.size : Int) - 1 + (m : Int) * -1).toNat = xs.size - 1 - m by omega]
  rw [e, PySem.W.krv_range, List.filterMap_reverse, PySem.W.krv_all]
section
variable {prog : Program} {w : World} {A : Around} {E : Value → Shared → Prop} {s : Shared}
theorem sliceApplied_back {sl : Addr} {vl vu vs : Value} {n : Nat} {Q : Int × Int × Nat → Shared → Prop} (hs : s.heap.IsSliceOf sl vl vu vs) (pl : IsPart vl none) (pu : IsPart vu none) (ps : IsPart vs (some (-1)))
    (h : Q ((n : Int) - 1, -1, n) s) : wpAny (model prog w) A (Builtin.Slice.sliceApplied (.ref sl) (pure (n : Int))) Q E s := by
  obtain ⟨os, hos, hcs, hds⟩ := id hs
  unfold Builtin.Slice.sliceApplied Builtin.Slice.sliceFields
  refine wpAny_bind (wpAny_bind (wpAny_field hos hds (x := vl) rfl (wpAny_bind (wpAny_field hos hds (x := vu) rfl (wpAny_bind (wpAny_field hos hds (x := vs) rfl (wpAny_pure ?_)))))))
  refine wpAny_bind (HT.slicePart_ ps ?_)
  show wpAny _ _ (if ((-1 : Int) == 0) = true then _ else _) _ _ s
  rw [if_neg (by decide)]
  refine wpAny_bind (HT.slicePart_ pl (wpAny_bind (HT.slicePart_ pu (wpAny_bind (wpAny_pure ?_)))))
  show wpAny _ _ (match Builtin.Slice.sliceAdjust none none (-1) (n : Int) with | (lo, hi) => pure (lo, (-1 : Int), Builtin.Slice.slicePlaces lo hi (-1))) _ _ s
  rw [rev_adjust n]
  show wpAny _ _ (pure ((n : Int) - 1, (-1 : Int), Builtin.Slice.slicePlaces ((n : Int) - 1) (-1) (-1))) _ _ s
  rw [rev_places]
  exact wpAny_pure h
theorem getItem_tuple_back {t sl : Addr} {items : Array Value} {vl vu vs : Value} {Q : Value → Shared → Prop} (ht : IsTup s.heap t items) (hs : s.heap.IsSliceOf sl vl vu vs) (pl : IsPart vl none) (pu : IsPart vu none) (ps : IsPart vs (some (-1)))
    (h : Q (.ref s.heap.objs.size) { s with heap := s.heap.push { cls := .type "tuple", data := .seq items.toList.reverse.toArray } })
    (hsz : items.size ≤ sizeLine) : wpAny (model prog w) A (getItem (.ref t) (.ref sl)) Q E s := by
  have htake : sizeOk (.seq items.toList.reverse.toArray) := by
    show items.toList.reverse.toArray.size ≤ sizeLine
    rw [List.size_toArray, List.length_reverse, Array.length_toList]
    exact hsz
  obtain ⟨os, hos, hcs, hds⟩ := id hs
  have hTs : s.TypeIs (.ref sl) "slice" := ⟨os, hos, hcs⟩
  unfold getItem
  try with_reducible refine wpAny_holding ?_
  first | refine wpAny_bind (wpAny_pure ?_) | skip
  refine wpAny_bind (wpAny_sequenceKey ht.typeIs (by decide) ?_)
  refine wpAny_bind (wpAny_callSpecial?_slot (name := Str.ofString "__getitem__") ht.typeIs PyProof.Rows.slot_tuple_getitem
    (wpAny_call_entry PyProof.Rows.slot_tuple_getitem ht.typeIs entry_tuple_getitem ?_ (args_tuple_getitem _ _)))
  show wpAny _ _ (Builtin.Tuple.tupleItemsOf (.ref t) >>= _) _ _ s
  refine wpAny_bind (tupleItemsOf_ ht ?_)
  refine wpAny_bind (wpAny_typeOf hTs ?_)
  rw [if_pos (by decide)]
  refine wpAny_bind (sliceApplied_back hs pl pu ps ?_)
  have hno : ¬ (((((items.size : Int) - 1)) == 0 && (-1 : Int) == 1 && items.size == items.size) = true) := by
    intro q
    rw [Bool.and_eq_true, Bool.and_eq_true] at q
    exact absurd q.1.2 (by decide)
  show wpAny _ _ (if ((((items.size : Int) - 1)) == 0 && (-1 : Int) == 1 && items.size == items.size) = true then _ else _) _ _ s
  rw [if_neg hno, rev_pick]
  first
    | exact wpAny_bind (m := Builtin.Tuple.tupleExact _) (wpAny_newObj_type (wpAny_pure ⟨_, rfl, wpAny_pure h⟩) htake)
    | exact wpAny_bind (m := Builtin.Tuple.tupleExact _) (wpAny_newObj_type (wpAny_bind (wpAny_pure (wpAny_pure ⟨_, rfl, wpAny_pure h⟩))) htake)
    | exact wpAny_bind (wpAny_bind (m := Builtin.Tuple.tupleExact _) (wpAny_newObj_type (wpAny_pure (wpAny_pure ⟨_, rfl, wpAny_pure h⟩)) htake))
    | exact wpAny_bind (wpAny_bind (m := Builtin.Tuple.tupleExact _) (wpAny_newObj_type (wpAny_pure ⟨_, rfl, wpAny_pure h⟩) htake))
end
/-- te is a tuple: its items the other way round, in a new one -/
def tBackT (K : PySem.W.Frag) (te : TE) : TE := fun σ H Q => te σ H fun x H1 => ∃ a xs, x = .ref a ∧ SqT K H1 a xs ∧ ∀ p H2, H1 p = none → Same H1 H2 → H2 p = some (.tup xs.reverse) → Q (.ref p) H2
section
variable {X : Cx}
theorem pe_revT {e : Expr} {te : TE} {k : Nat} {p1 p2 p3 pos : Pos} (he : PE X e te) : PE X (.Subscript e (.Slice none none (some (.UnaryOp .USub (.Constant (.int 1) k p1) p2)) p3) pos) (tBackT X.K te) := by
  refine ⟨fun pins s σ H Q I h => ?_⟩
  refine Subscript_ (thn (he.run pins s σ H _ I h) fun v s1 ⟨x, H1, I1, r1, q1⟩ => ?_)
  obtain ⟨a, xs, ex, hx, q⟩ := q1
  subst ex
  cases r1
  have hst : PO X (some (.UnaryOp .USub (.Constant (.int 1) k p1) p2)) (tPart (tUn (rU fun i => .int (-i)) (tC (.int 1)))) := po_some (pe_un un_neg pe_int)
  refine wpAny_Slice (thn (po_none.run pins s1 σ H1 (fun o H2 => o = none ∧ H2 = H1) I1 ⟨rfl, rfl⟩) fun vl s2 ⟨l, H2, I2, pl, el, e2⟩ => ?_)
  subst el e2
  refine thn (po_none.run pins s2 σ H2 (fun o H3 => o = none ∧ H3 = H2) I2 ⟨rfl, rfl⟩) fun vu s3 ⟨u, H3, I3, pu, eu, e3⟩ => ?_
  subst eu e3
  refine thn (hst.run pins s3 σ H3 (fun o H4 => o = some (-1) ∧ H4 = H3) I3 ⟨1, rfl, -1, rfl, rfl, rfl⟩) fun vs s4 ⟨o, H4, I4, ps, eo, e4⟩ => ?_
  subst eo e4
  have I5 : Inv X pins σ H4 { s4 with heap := s4.heap.push { cls := .type "slice", data := .fields #[vl, vu, vs] } } := I4.kept (t' := s4.toks) fun b ob q => Heap.get?_push_of_some _ q
  obtain ⟨its, r, ht, hz⟩ := I5.tuple hx
  have hlen := r.length
  show wpAny (model X.prog X.w) X.A (subscriptTail e (.Slice none none (some (.UnaryOp .USub (.Constant (.int 1) k p1) p2)) p3) (.ref a) (.ref s4.heap.objs.size)) (EP X pins σ Q) X.xe { s4 with heap := s4.heap.push { cls := .type "slice", data := .fields #[vl, vu, vs] } }
  refine tail_any (ops := [.ref a, .ref s4.heap.objs.size]) ht.typeIs (PyProof.Rows.slot_tuple_getitem.lookup) ?_ (by with_unfolding_all rfl)
  refine getItem_tuple_back ht (Heap.IsSliceOf.new _ vl vu vs) pl pu ps ?_ (by rw [List.size_toArray]; omega)
  have fr := I5.hok.fresh (Nat.le_refl _)
  refine ⟨.ref _, _, I5.laid (t' := s4.toks) (o := .tup xs.reverse) (fun b ob q => Heap.get?_push_of_some _ q) (Nat.le_refl _) ?_, rfl, q _ _ fr (same_new fr) upd_same⟩
  exact ⟨by rw [List.length_reverse]; exact hz, _, r.reverse, IsTup.new _ _⟩
variable (K : PySem.W.Frag) (hK : X.K = K := by rfl)
include hK
theorem k_revT {e : Expr} {te : TE} {k : Nat} {p1 p2 p3 pos : Pos} (he : PE X e te) : PE X (.Subscript e (.Slice none none (some (.UnaryOp .USub (.Constant (.int 1) k p1) p2)) p3) pos) (tBackT K te) := hK ▸ pe_revT he
end
theorem rBackT {K : PySem.W.Frag} {σ : L2.St} {H : Hp} {Q : VK} {te : TE} (h : te σ H fun x H1 => ∃ a xs, x = .ref a ∧ SqT K H1 a xs ∧ ∀ p H2, H1 p = none → Same H1 H2 → H2 p = some (.tup xs.reverse) → Q (.ref p) H2) : tBackT K te σ H Q := h
/-! ### sorted(t) of a tuple of texts -/
section
open PyProof.Rows
variable {prog : Program} {w : World} {A : Around} {E : Value → Shared → Prop} {s : Shared}
theorem collect_tup {l : Addr} {vs : List Value} {Q : List Value → Shared → Prop} (hl : IsTup s.heap l vs.toArray)
    (h : Q vs { s with heap := (s.heap.push (seqObj "list" #[] 0)).update s.heap.objs.size (Obj.mapSeq (· ++ vs.toArray)) }) (hsz : vs.length ≤ sizeLine) :
    wpAny (model prog w) A (collect (.ref l)) Q E s := by
  obtain ⟨o, ho, hc, n, hd⟩ := id hl
  unfold collect
  refine wpAny_bind (wpAny_runValue (codeAny_builtin entry_proto_collect' ?_))
  show wpAny _ _ (do again (.builtin "list.__iadd__" ⟨[← newList [], .ref l], []⟩)) _ _ s
  refine wpAny_bind (wpAny_newList (wpAny_pure ⟨Code.quiet_builtin _ (by decide +kernel), codeAny_builtin entry_list_iadd' ?_⟩))
  show wpAny _ _ (Builtin.List.listExtendWith (.ref s.heap.objs.size) (.ref l) (.ref s.heap.objs.size)) _ _ { s with heap := s.heap.push (seqObj "list" #[] 0) }
  unfold Builtin.List.listExtendWith
  have ho' : (s.heap.push (seqObj "list" #[] 0)).get? l = some o := Heap.get?_push_of_some _ ho
  refine wpAny_bind (wpAny_typeOf (T := "tuple") ⟨o, ho', hc⟩ ?_)
  have ht : (Value.type "tuple" == Value.type "tuple") = true := by rfl
  rw [if_pos (by rw [ht]; simp)]
  refine wpAny_bind (listItems_at ho' hd ?_)
  refine wpAny_bind (listItems_at (xs := #[]) (n := 0) (Heap.get?_push_size _ rfl) rfl ?_)
  rw [if_neg (by simp)]
  refine wpAny_bind (listUpdate_at (xs := #[]) (n := 0) (Heap.get?_push_size _ rfl) rfl ?_ (Nat.zero_le _) (by show (#[] ++ vs.toArray).size ≤ sizeLine + 1; simp only [Array.size_append, List.size_toArray, List.length_nil]; omega))
  refine wpAny_pure ?_
  show wpAny (model prog w) A (do
      let o ← load s.heap.objs.size
      match o.data with
      | .seq xs _ => pure xs.toList
      | _ => unsupported "internal:collect") Q E { s with heap := (s.heap.push (seqObj "list" #[] 0)).update s.heap.objs.size (Obj.mapSeq (· ++ vs.toArray)) }
  refine wpAny_bind (wpAny_load (get?_update_seq (Heap.get?_push_size _ rfl) _) ?_)
  show wpAny _ _ (pure ((#[] : Array Value) ++ vs.toArray).toList) Q E _
  rw [show ((#[] : Array Value) ++ vs.toArray).toList = vs by simp]
  exact wpAny_pure h
theorem sorted_strsTup {l : Addr} {vs : List Value} {ss : List Str} {Q : Value → Shared → Prop} (hl : IsTup s.heap l vs.toArray) (hS : StrsAre vs ss) (hL : vs.length ≤ sizeLine)
    (h : ∀ (out : Array Value) (ss' : List Str), StrsAre out.toList ss' → ss'.Perm ss → sortedS ss' = true → Q (.ref (s.heap.objs.size + 1)) { s with heap := sortedAll s.heap vs out }) :
    wpAny (model prog w) A (call (.builtin "sorted") [.ref l]) Q E s := by
  refine Calls.call_function_entry kind_sorted plain_sorted entry_sorted (args_sorted1 _) ?_
  unfold Builtin.«sorted»
  refine wpAny_bind (m := checkCount "sorted" 1 1 _) (wpAny_pure ?_)
  refine wpAny_bind (collect_tup hl ?_ hL)
  refine wpAny_bind (wpAny_newList ?_)
  have hsz : ((s.heap.push (seqObj "list" #[] 0)).update s.heap.objs.size (Obj.mapSeq (· ++ vs.toArray))).objs.size = s.heap.objs.size + 1 := by
    rw [Heap.size_update, size_push']
  have hoL : (((s.heap.push (seqObj "list" #[] 0)).update s.heap.objs.size (Obj.mapSeq (· ++ vs.toArray))).push (seqObj "list" vs.toArray 0)).get? (s.heap.objs.size + 1) = some (seqObj "list" vs.toArray 0) := by
    rw [← hsz]; exact Heap.get?_push_size _ rfl
  show wpAny _ _ _ _ _ { s with heap := ((s.heap.push (seqObj "list" #[] 0)).update s.heap.objs.size (Obj.mapSeq (· ++ vs.toArray))).push (seqObj "list" vs.toArray 0) }
  rw [hsz]
  refine wpAny_bind (wpAny_holding (wpAny_call_entry slot_list_sort ⟨_, hoL, rfl⟩ entry_list_sort (list_sort_treeKAny strKind_oneLt hoL hS.keysOf (fun v₁ v₂ rest e => keyKind_strs (by rw [← e]; exact hS)) hL fun st' a1 a2 => ⟨_, rfl, ?_⟩) (args_list_sort _)))
  obtain ⟨ss', h1, h2, h3⟩ := sorted_out_str hS a1 a2
  exact wpAny_pure ⟨_, rfl, h _ ss' h1 h2 h3⟩
end
theorem pair_of_rising : ∀ (p : Str) (l : List Str), PyProof.Rows.risingS p l = true → (p :: l).Pairwise fun a b => a.cps.toList ≤ b.cps.toList
  | p, [], _ => by simp
  | p, x :: r, h => by
    simp only [PyProof.Rows.risingS, Bool.and_eq_true, Bool.not_eq_true', PyProof.Rows.ltCps_eq, decide_eq_false_iff_not] at h
    have ih := pair_of_rising x r h.2
    have h1 : p.cps.toList ≤ x.cps.toList := List.not_lt.mp h.1
    rw [List.pairwise_cons]
    refine ⟨fun y hy => ?_, ih⟩
    rcases List.mem_cons.mp hy with e | m
    · rw [e]; exact h1
    · exact List.le_trans h1 ((List.pairwise_cons.mp ih).1 y m)
theorem pair_of_sorted : ∀ (l : List Str), PyProof.Rows.sortedS l = true → l.Pairwise fun a b => a.cps.toList ≤ b.cps.toList
  | [], _ => .nil
  | x :: r, h => pair_of_rising x r h
theorem sorted_same {a b : List Str} (h : a.Perm b) (ha : PyProof.Rows.sortedS a = true) (hb : PyProof.Rows.sortedS b = true) : a = b := by
  refine List.Perm.eq_of_pairwise (le := fun a b => a.cps.toList ≤ b.cps.toList) (fun x y _ _ h1 h2 => ?_) (pair_of_sorted a ha) (pair_of_sorted b hb) h
  have e := List.le_antisymm h1 h2
  cases x
  cases y
  simp only [Str.mk.injEq]
  exact Array.toList_inj.mp e
/-- sorted(t): any order of the words that is rising -/
def rSortT (K : PySem.W.Frag) : List V → Hp → VK → Prop := fun vs H Q => ∃ (a : Addr) (xs : List Str), vs = [V.ref a] ∧ SqT K H a (ws xs) ∧
  ∀ (ys : List Str) (p : Addr) (H2 : Hp), ys.Perm xs → PyProof.Rows.sortedS ys = true → H p = none → Same H H2 → H2 p = some (.lst (ws ys)) → Q (.ref p) H2
theorem cr_sortT {X : Cx} : CallR X (.builtin "sorted") (rSortT X.K) := by
  intro pins s σ H vs us Q I r h
  obtain ⟨a, xs, rfl, hs, q⟩ := h
  obtain ⟨its, rv, hl, hz⟩ := I.tuple hs
  rw [Vals.ref1 r]
  have hlen0 := rv.length
  rw [ws_len] at hlen0 hz
  refine sorted_strsTup hl rv.strs (by rw [← hlen0]; exact hz) fun out ys h1 h2 h3 => ?_
  obtain ⟨ep, he'⟩ := PyProof.Rows.sortedAll_at s.heap its out
  have hlen : (ws ys).length ≤ sizeLine := by rw [ws_len, h2.length_eq]; exact hz
  have fr := I.hok.fresh (Nat.le_succ _)
  exact ⟨.ref _, upd H (s.heap.objs.size + 1) (.lst (ws ys)), I.laid (t' := s.toks) (fun _ _ => PyProof.Rows.sortedAll_old) (Nat.le_succ _) ⟨hlen, out.toList, ep, vals_of_strs h1, he'⟩, rfl, q ys _ _ h2 h3 fr (same_new fr) upd_same⟩
section
variable {X : Cx} (K : PySem.W.Frag) (hK : X.K = K := by rfl)
include hK
theorem k_sortT : CallR X (.builtin "sorted") (rSortT K) := hK ▸ cr_sortT
end
/-! ### tuples of which it is known that they have no attributes of their own (a method is called on them) -/
def Tob (its : List Value) : Obj := { cls := .type "tuple", data := .seq its.toArray }
def TD (H : Hp) (a : Addr) (xs : List V) : Prop := ∃ its, H a = some (.frz (Tob its) (.tup xs))
theorem TD.sq {K : PySem.W.Frag} {H : Hp} {a : Addr} {xs : List V} (h : TD H a xs) : SqT K H a xs := by
  obtain ⟨its, h⟩ := h
  exact .inl (.inr ⟨_, h⟩)
theorem Imm.td {H H' : Hp} {a : Addr} {xs : List V} (e : Imm H H') (h : TD H a xs) : TD H' a xs := by
  obtain ⟨its, h⟩ := h
  exact ⟨its, e.2 _ _ _ h⟩
def NewD (Q : VK) (xs : List V) (H : Hp) : Prop := xs.length ≤ sizeLine ∧ ∀ p H2, H p = none → Same H H2 → TD H2 p xs → Q (.ref p) H2
def tTupD (t : TA) : TE := fun σ H Q => t σ H (NewD Q)
section
variable {X : Cx}
theorem pe_tupD {es : List Expr} {t : TA} {x1 : Nat} {pos : Pos} (h : PA X es t) : PE X (.Tuple es x1 pos) (tTupD t) := by
  refine ⟨fun pins s σ H Q I hq => ?_⟩
  refine wpAny_Tuple_spliced (thn (h.run pos pins s σ H _ I hq) fun us s1 ⟨xs, H1, I1, r, z, q⟩ => ⟨by rw [← r.length]; exact z, ?_⟩)
  have hf : H1 s1.heap.objs.size = none := I1.hok.fresh (Nat.le_refl _)
  refine ⟨.ref s1.heap.objs.size, upd H1 s1.heap.objs.size (.frz (Tob us) (.tup xs)), I1.laid (t' := s1.toks) (fun b u e => Heap.get?_push_of_some _ e) (Nat.le_refl _) ?_, rfl, q _ _ hf (same_new hf) ⟨us, upd_same⟩⟩
  exact ⟨Heap.get?_push_size _ rfl, z, us, r, ⟨_, Heap.get?_push_size _ rfl, rfl, _, rfl⟩⟩
end
def rCatD (K : PySem.W.Frag) : R2 := fun x y H Q => ∃ a b xs ys, x = .ref a ∧ y = .ref b ∧ SqT K H a xs ∧ SqT K H b ys ∧ xs.length + ys.length ≤ sizeLine ∧
  (xs = [] → Q (.ref b) H) ∧ (xs ≠ [] → ys = [] → Q (.ref a) H) ∧ (xs ≠ [] → ys ≠ [] → ∀ p H2, H p = none → Same H H2 → TD H2 p (xs ++ ys) → Q (.ref p) H2)
section
variable {X : Cx}
theorem op_catD : OpR X (binaryOp .Add) (rCatD X.K) := by
  intro pins s σ H x y v u Q I rx ry h
  obtain ⟨a, b, xs, ys, rfl, rfl, ha, hb, hz, q0, q1, q2⟩ := h
  cases rx
  cases ry
  obtain ⟨its, r1, p1, _⟩ := I.tuple ha
  obtain ⟨its2, r2, p2, _⟩ := I.tuple hb
  by_cases hx : xs = []
  · subst hx
    cases r1
    exact cat_tup0 p1 p2 ⟨.ref b, H, I, rfl, q0 rfl⟩
  · refine HT.cat_tup p1 p2 (fun z => hx (r1.nil_iff.mp z)) (fun z => ⟨.ref a, H, I, rfl, q1 hx (r2.nil_iff.mp z)⟩) (fun z => ?_) (by rw [← r1.length, ← r2.length]; exact hz)
    have hf := I.hok.fresh (Nat.le_refl s.heap.objs.size)
    refine ⟨.ref s.heap.objs.size, _, I.laid (t' := s.toks) (o := .frz (Tob (its ++ its2)) (.tup (xs ++ ys))) (fun b ob q => Heap.get?_push_of_some _ q) (Nat.le_refl _) ?_, rfl, q2 hx (fun w => z (r2.nil_iff.mpr w)) _ _ hf (same_new hf) ⟨_, upd_same⟩⟩
    exact ⟨Heap.get?_push_size _ rfl, by rw [List.length_append]; exact hz, _, r1.append r2, IsTup.new _ _⟩
end
def rSlD (K : PySem.W.Frag) : V → Option Int → Option Int → Hp → VK → Prop := fun x lo hi H Q => ∃ a xs, x = .ref a ∧ SqT K H a xs ∧
  (HT.sIx xs.length 0 lo = 0 ∧ HT.sIx xs.length xs.length hi = xs.length → Q (.ref a) H) ∧ (¬ (HT.sIx xs.length 0 lo = 0 ∧ HT.sIx xs.length xs.length hi = xs.length) → ∀ p H2, H p = none → Same H H2 → TD H2 p (cutV xs lo hi) → Q (.ref p) H2)
section
variable {X : Cx}
theorem sl_tupD : SlR X (rSlD X.K) := by
  intro pins s σ H x v vl vu lo hi sl Q I rx hs pl pu h
  obtain ⟨a, xs, rfl, hx, q1, q2⟩ := h
  cases rx
  obtain ⟨its, r, ht, hz⟩ := I.tuple hx
  have hlen : its.toArray.size = xs.length := by rw [List.size_toArray]; exact r.length.symm
  refine ⟨"tuple", _, PyProof.Rows.slot_tuple_getitem.lookup, ht.typeIs, ?_⟩
  by_cases hw : HT.sIx xs.length 0 lo = 0 ∧ HT.sIx xs.length xs.length hi = xs.length
  · exact getItem_tuple_whole ht hs pl pu (by rw [hlen]; exact hw) ⟨.ref a, H, I, rfl, q1 hw⟩
  · refine HT.getItem_tuple_cut ht hs pl pu (by rw [hlen]; exact hw) ?_ (by rw [hlen]; exact hz)
    rw [hlen]
    have hf := I.hok.fresh (Nat.le_refl s.heap.objs.size)
    refine ⟨.ref s.heap.objs.size, _, I.laid (t' := s.toks) (o := .frz (Tob ((its.drop (HT.sIx xs.length 0 lo)).take (HT.sIx xs.length xs.length hi - HT.sIx xs.length 0 lo))) (.tup (cutV xs lo hi))) (fun b ob q => Heap.get?_push_of_some _ q) (Nat.le_refl _) ?_, rfl, q2 hw _ _ hf (same_new hf) ⟨_, upd_same⟩⟩
    exact ⟨Heap.get?_push_size _ rfl, Nat.le_trans (cutV_length xs lo hi) hz, _, (r.drop (HT.sIx xs.length 0 lo)).take (HT.sIx xs.length xs.length hi - HT.sIx xs.length 0 lo), IsTup.new _ _⟩
end
/-- a method of such a tuple -/
def tBMD (r : V → List V → Hp → VK → Prop) (to : TE) (t : TA) : TE := fun σ H Q => to σ H fun x H1 => (∃ a xs, x = .ref a ∧ TD H1 a xs) ∧ t σ H1 fun xs H2 => r x xs H2 Q
section
variable {X : Cx} {o e : Expr} {es : List Expr} {to : TE} {t : TA} {name : Str} {apos cpos : Pos} {id : String} {r : V → List V → Hp → VK → Prop}
theorem pe_bmD (pa : PlainAttrs "tuple") (slot : Slot "tuple" name id) (hty : typeOf (.builtin id) = pure (.type "method_descriptor")) (hm : MtR X id r) (ho : PE X o to) (ha : PA X (e :: es) t)
    (hbase : attributeBase o name X.env (eval o X.env) = eval o X.env := by rfl)
    (hfew : ((backTo cpos (starEach (e :: es) X.env)).all (fun x => !x.1) && (backToKw cpos (keywordEach [] X.env)).all (fun x => x.1.isSome)
      && decide ((e :: es).length + ([] : List Keyword).length + (if ([] : List Keyword).isEmpty then 0 else 1) < 30)) = true := by rfl)
    (hline : (apos.endLine == cpos.line) = true := by rfl) (hs : starEach (e :: es) X.env = (false, eval e X.env) :: starEach es X.env := by rfl) (hplain : (backTo cpos (starEach es X.env)).any (·.1) = false := by rfl) :
    PE X (.Call (.Attribute o name apos) (e :: es) [] cpos) (tBMD r to t) := by
  refine ⟨fun pins s σ H Q I h => ?_⟩
  refine wpAny_Call_method_late hbase hfew hline rfl (thn (ho.run pins s σ H _ I h) fun v s1 ⟨x, H1, I1, r1, ty, q1⟩ => ?_)
  obtain ⟨a, xs, rfl, its, hT⟩ := ty
  obtain rfl : v = .ref a := by cases r1; rfl
  obtain ⟨e1, _⟩ := I1.hok a _ hT
  refine ⟨"tuple", id, pa, slot, hty, ⟨_, e1, rfl⟩, fun b eb => by cases eb; exact ⟨_, e1, rfl⟩, ?_⟩
  have hA := ha.run cpos pins s1 σ H1 _ I1 q1
  rw [hs] at hA ⊢
  refine Calls.callWith_builtin (by show (false || (backTo cpos (starEach es X.env)).any (·.1)) = false; rw [hplain] <;> rfl) (Calls.evalArgs_plain ?_)
  exact thn hA fun us s2 ⟨vs, H2, I2, r2, q2⟩ => hm pins s2 σ H2 _ vs _ us Q I2 r1 r2 q2
end
section
variable {X : Cx} (K : PySem.W.Frag) (hK : X.K = K := by rfl)
include hK
theorem k_catD : OpR X (binaryOp .Add) (rCatD K) := hK ▸ op_catD
theorem k_slD : SlR X (rSlD K) := hK ▸ sl_tupD
end
section
variable {K : PySem.W.Frag} {H : Hp} {Q : VK} {σ : L2.St}
theorem rTupD {t : TA} (h : t σ H (NewD Q)) : tTupD t σ H Q := h
theorem rNewD {xs : List V} (l : xs.length ≤ sizeLine) (q : ∀ p H2, H p = none → Same H H2 → TD H2 p xs → Q (.ref p) H2) : NewD Q xs H := ⟨l, q⟩
theorem rCatDd {a b : Addr} {xs ys : List V} (ha : TD H a xs) (hb : TD H b ys) (l : xs.length + ys.length ≤ sizeLine) (q : ∀ p H2, Same H H2 → TD H2 p (xs ++ ys) → Q (.ref p) H2) : rCatD K (.ref a) (.ref b) H Q :=
  ⟨a, b, xs, ys, rfl, rfl, ha.sq, hb.sq, l, fun e => q b H (Same.refl H) (by rw [e]; exact hb), fun _ e => q a H (Same.refl H) (by rw [e, List.append_nil]; exact ha), fun _ _ p H2 n s e => q p H2 s e⟩
theorem rSlDd {a : Addr} {xs : List V} {lo hi : Option Int} (ha : TD H a xs) (q : ∀ p H2, Same H H2 → TD H2 p (cutV xs lo hi) → Q (.ref p) H2) : rSlD K (.ref a) lo hi H Q := by
  refine ⟨a, xs, rfl, ha.sq, fun e => q a H (Same.refl H) ?_, fun _ p H2 n s e => q p H2 s e⟩
  have : cutV xs lo hi = xs := by
    unfold cutV
    rw [e.1, e.2, List.drop_zero, Nat.sub_zero, List.take_length]
  rw [this]
  exact ha
theorem rBMD {r : V → List V → Hp → VK → Prop} {to : TE} {t : TA} (h : to σ H fun x H1 => (∃ a xs, x = .ref a ∧ TD H1 a xs) ∧ t σ H1 fun xs H2 => r x xs H2 Q) : tBMD r to t σ H Q := h
end
/-! ### what more than one def wants -/
theorem Short.whole (F : List Str) : Short F F := ⟨F.length, Nat.le_refl _, List.take_length.symm, fun i h1 h2 => by omega⟩
theorem rPar2_ {σ : L2.St} {H : Hp} {i j : Nat} {t : TA} {D : Ends} (h : t σ H fun xs H1 => ∃ x y, xs = [x, y] ∧ D.nx ((σ.set i (some x)).set j (some y)) H1) : tPar i j t D σ H := h
theorem dKwT_shaped (l : List Kw) : SeqAt.shaped (.tuple (dKws l)) = true := by
  unfold SeqAt.shaped dKws
  rw [PyData.canLay0, can_map Kw.can, PyData.depth]
  have := depth_map (n := 0) (f := fun k : Kw => PyData.str k.s) (fun x => by rw [PyData.depth]; exact Nat.le_refl _) l
  simp; omega
theorem rNeKwT {K : PySem.W.Frag} {H : Hp} {Q : VK} {p q : Addr} {a b : List Kw} (ha : SqT K H p (a.map fun k => V.str k.s)) (hb : SqT K H q (b.map fun k => V.str k.s)) (k : Q (.bl (!decide (a = b))) H) : rNeD K (.ref p) (.ref q) H Q :=
  ⟨.tuple (dKws a), .tuple (dKws b), .tup ha (dpAll_map (f := fun k : Kw => V.str k.s) (fun k => .str _) a), .tup hb (dpAll_map (f := fun k : Kw => V.str k.s) (fun k => .str _) b), dKwT_shaped a, dKwT_shaped b, by rw [PyData.eqv, show PyData.eqvAll (dKws a) (dKws b) = decide (a = b) from eqvAll_map Kw.eqv a b]; exact k⟩
theorem paired_rev {α β : Type} {F : α → β → Prop} : ∀ {l : List α} {m : List β}, Paired F l m → Paired F l.reverse m.reverse
  | _, _, .nil => .nil
  | _, _, .cons r t => by rw [List.reverse_cons, List.reverse_cons]; exact paired_snoc r (paired_rev t)

open Classical in
/-! ### a reading without the heap -/
mutual
/-- data in which no list stands -/
def imm : PyData → Bool
  | .none => true
  | .bool _ => true
  | .int _ => true
  | .str _ => true
  | .tuple xs => immAll xs
  | .list _ => false
  | .dict _ => false
def immAll : List PyData → Bool
  | [] => true
  | x :: xs => imm x && immAll xs
end
/-- what a slot holds, as one sees it: data that never changes, data as it stands (lists that nobody writes within), a list of one's own, data that is looked at just now, the reader -/
inductive AV | d (x : PyData) | p (x : PyData) | l (f : Bool) (xs : List PyData) | t (x : PyData) | row | m (P : Hp → V → Prop)
def AV.dat : AV → PyData
  | .d x => x | .p x => x | .l _ xs => .list xs | .t x => x | .row => .dict [] | .m _ => .dict []
/-- nothing that is read as data -/
def AV.opq : AV → Bool
  | .row => true | .m _ => true | _ => false
abbrev Rho := List (Option AV)
/-- what is raised -/
inductive Exc | size | saying (place : Nat) | drawing | number
abbrev EC := Exc → Value → Option Addr → Hp → Prop
def Eff (ro : Option Addr) (H H' : Hp) : Prop := Imm H H' ∧ ∀ b o, ro ≠ some b → H b = some o → H' b = some o
theorem Eff.refl (ro : Option Addr) (H : Hp) : Eff ro H H := ⟨Imm.refl H, fun _ _ _ h => h⟩
theorem Eff.trans {ro : Option Addr} {H H1 H2 : Hp} (a : Eff ro H H1) (b : Eff ro H1 H2) : Eff ro H H2 := ⟨a.1.trans b.1, fun c o n e => b.2 c o n (a.2 c o n e)⟩
theorem Eff.of {ro : Option Addr} {H H' : Hp} (s : Same H H') : Eff ro H H' := ⟨imm_of_same s, fun b o _ e => s b o e⟩
theorem Eff.same {H H' : Hp} (e : Eff none H H') : Same H H' := fun b o h => e.2 b o (by simp) h
theorem Eff.chg {r : Addr} {H H' : Hp} (e : Eff (some r) H H') : Chg r H H' := ⟨e.1, fun b o n h => e.2 b o (fun z => n (Option.some.inj z).symm) h⟩
theorem Eff.ofChg {r : Addr} {H H' : Hp} (e : Chg r H H') : Eff (some r) H H' := ⟨e.1, fun b o n h => e.2 b o (fun z => n (congrArg some z.symm)) h⟩
def RowOk (K : PySem.W.Frag) (ro : Option Addr) (H : Hp) : Prop := ∀ r, ro = some r → Row K H r
/-- a def's run: the reader's place, the heap at its start, what is wanted of what it raises -/
structure Fr (K : PySem.W.Frag) (ec : EC) where
  ro : Option Addr
  H0 : Hp
  E : XK
  Ψ : Exc → Prop
  link : ∀ e c d H', Ψ e → Eff ro H0 H' → RowOk K ro H' → ec e c d H' → E c d H'
def keepP {K : PySem.W.Frag} {ec : EC} (F : Fr K ec) (Z : Addr → Prop) (H : Hp) (b : Addr) : Prop :=
  F.ro ≠ some b ∧ (Z b ∨ F.H0 b ≠ none ∨ (∃ xs, H b = some (.tup xs)) ∨ ∃ o u, H b = some (.frz o u))
open Classical in
/-- the part of the heap that stays -/
noncomputable def Vw {K : PySem.W.Frag} {ec : EC} (F : Fr K ec) (Z : Addr → Prop) (H : Hp) : Hp := fun b => if keepP F Z H b then H b else none
open Classical in
noncomputable def Vt {K : PySem.W.Frag} {ec : EC} (F : Fr K ec) (H : Hp) : Hp := fun b => if F.ro = some b then none else H b
section
variable {K : PySem.W.Frag} {ec : EC} {F : Fr K ec} {Z Z' : Addr → Prop} {H H' He : Hp} {v : V} {x : PyData} {av : AV}
theorem vw_some {b : Addr} {o : HO} (h : Vw F Z H b = some o) : keepP F Z H b ∧ H b = some o := by
  unfold Vw at h
  split at h
  · exact ⟨by assumption, h⟩
  · cases h
theorem vw_of {b : Addr} {o : HO} (k : keepP F Z H b) (h : H b = some o) : Vw F Z H b = some o := by
  unfold Vw
  rw [if_pos k]
  exact h
theorem vt_some {b : Addr} {o : HO} (h : Vt F H b = some o) : F.ro ≠ some b ∧ H b = some o := by
  unfold Vt at h
  split at h
  · cases h
  · exact ⟨by assumption, h⟩
theorem vt_of {b : Addr} {o : HO} (k : F.ro ≠ some b) (h : H b = some o) : Vt F H b = some o := by
  unfold Vt
  rw [if_neg k]
  exact h
theorem vw_same : Same (Vw F Z H) H := fun b o h => (vw_some h).2
theorem vt_same : Same (Vt F H) H := fun b o h => (vt_some h).2
theorem vw_vt : Same (Vw F Z H) (Vt F H) := fun b o h => vt_of (vw_some h).1.1 (vw_some h).2
/-- one step of an expression -/
structure Step (F : Fr K ec) (Z : Addr → Prop) (H : Hp) (Z' : Addr → Prop) (H' : Hp) : Prop where
  eff : Eff F.ro H H'
  row : RowOk K F.ro H'
  big : ∀ b, Z b → Z' b
  new : ∀ b, Z' b → Z b ∨ H b = none
  zok : ∀ b, Z' b → H' b ≠ none
theorem Step.stay (r : RowOk K F.ro H) (z : ∀ b, Z b → H b ≠ none) : Step F Z H Z H := ⟨Eff.refl _ _, r, fun _ h => h, fun _ h => .inl h, z⟩
theorem Eff.free {ro : Option Addr} {H H' : Hp} (e : Eff ro H H') {b : Addr} (h : H' b = none) (n : ro ≠ some b) : H b = none := by
  cases q : H b with
  | none => rfl
  | some o => rw [e.2 b o n q] at h; cases h
theorem Step.trans {Z1 Z2 : Addr → Prop} {H1 H2 : Hp} (rw0 : RowOk K F.ro H) (a : Step F Z H Z1 H1) (b : Step F Z1 H1 Z2 H2) : Step F Z H Z2 H2 :=
  ⟨a.eff.trans b.eff, b.row, fun c h => b.big c (a.big c h), fun c h => by
    rcases b.new c h with z | z
    · exact a.new c z
    · refine .inr (a.eff.free z fun e => ?_)
      obtain ⟨xs, q⟩ := (a.row c e).lst
      rw [z] at q
      exact (nomatch q), b.zok⟩
theorem Step.older (s : Step F Z H Z' H') {b : Addr} (h : H' b = none) : H b = none := s.eff.free h fun e => by
  obtain ⟨xs, q⟩ := (s.row b e).lst
  rw [h] at q
  cases q
theorem Step.keep (s : Step F Z H Z' H') {b : Addr} (k : keepP F Z H b) : keepP F Z' H' b := by
  obtain ⟨n, h⟩ := k
  refine ⟨n, ?_⟩
  rcases h with h | h | ⟨xs, h⟩ | ⟨o, u, h⟩
  · exact .inl (s.big b h)
  · exact .inr (.inl h)
  · exact .inr (.inr (.inl ⟨xs, s.eff.1.1 _ _ h⟩))
  · exact .inr (.inr (.inr ⟨o, u, s.eff.1.2 _ _ _ h⟩))
theorem Step.vw (s : Step F Z H Z' H') : Same (Vw F Z H) (Vw F Z' H') := fun b o h =>
  vw_of (s.keep (vw_some h).1) (s.eff.2 b o (vw_some h).1.1 (vw_some h).2)
theorem Step.vt (s : Step F Z H Z' H') : Same (Vt F H) (Vt F H') := fun b o h => vt_of (vt_some h).1 (s.eff.2 b o (vt_some h).1 (vt_some h).2)
/-- data without lists stands in whatever holds the tuples -/
theorem imm_all : ∀ {xs : List PyData}, immAll xs = true ↔ ∀ x ∈ xs, imm x = true
  | [] => by simp [immAll]
  | x :: xs => by rw [immAll, Bool.and_eq_true, imm_all]; simp
mutual
theorem Dp.tups (t : ∀ b xs, H b = some (.tup xs) → H' b = some (.tup xs)) (f : ∀ b o u, H b = some (.frz o u) → H' b = some (.frz o u)) : ∀ {v : V} {x : PyData}, imm x = true → Dp K H v x → Dp K H' v x
  | _, _, _, .non => .non
  | _, _, _, .bl b => .bl b
  | _, _, _, .int i => .int i
  | _, _, _, .str x => .str x
  | _, _, i, .lst h a => by rw [imm] at i; cases i
  | _, _, i, .tup h a => by
    rw [imm] at i
    refine .tup ?_ (DpAll.tups t f i a)
    rcases h with (h | ⟨o, h⟩) | h
    · exact .inl (.inl (t _ _ h))
    · exact .inl (.inr ⟨o, f _ _ _ h⟩)
    · exact .inr h
theorem DpAll.tups (t : ∀ b xs, H b = some (.tup xs) → H' b = some (.tup xs)) (f : ∀ b o u, H b = some (.frz o u) → H' b = some (.frz o u)) : ∀ {v : List V} {x : List PyData}, immAll x = true → DpAll K H v x → DpAll K H' v x
  | _, _, _, .nil => .nil
  | _, _, i, .cons h a => by
    rw [immAll, Bool.and_eq_true] at i
    exact .cons (Dp.tups t f i.1 h) (DpAll.tups t f i.2 a)
end
theorem Imm.dp (e : Imm H H') (i : imm x = true) (h : Dp K H v x) : Dp K H' v x := Dp.tups e.1 e.2 i h
theorem Imm.dpAll {vs : List V} {xs : List PyData} (e : Imm H H') (i : immAll xs = true) (h : DpAll K H vs xs) : DpAll K H' vs xs := DpAll.tups e.1 e.2 i h
theorem row_tup (r : RowOk K F.ro H) {b : Addr} {o : HO} (h : H b = some o) (n : ∀ xs, o ≠ .lst xs) : F.ro ≠ some b := fun e => by
  obtain ⟨xs, q⟩ := (r b e).lst
  rw [h] at q
  exact n xs (Option.some.inj q)
theorem imm_vw (r : RowOk K F.ro H) (i : imm x = true) (h : Dp K H v x) : Dp K (Vw F Z H) v x :=
  Dp.tups (fun b xs e => vw_of ⟨row_tup r e (by intro _ z; cases z), .inr (.inr (.inl ⟨xs, e⟩))⟩ e) (fun b o u e => vw_of ⟨row_tup r e (by intro _ z; cases z), .inr (.inr (.inr ⟨o, u, e⟩))⟩ e) i h
theorem imm_vwAll {vs : List V} {xs : List PyData} (r : RowOk K F.ro H) (i : immAll xs = true) (h : DpAll K H vs xs) : DpAll K (Vw F Z H) vs xs :=
  DpAll.tups (fun b xs e => vw_of ⟨row_tup r e (by intro _ z; cases z), .inr (.inr (.inl ⟨xs, e⟩))⟩ e) (fun b o u e => vw_of ⟨row_tup r e (by intro _ z; cases z), .inr (.inr (.inr ⟨o, u, e⟩))⟩ e) i h
def Hfull : Hp := fun _ => some (.lst [])
/-- a value as it is seen; He: the heap before which nothing of a fresh list stood -/
def RV (F : Fr K ec) (Z : Addr → Prop) (He H : Hp) (v : V) : AV → Prop
  | .d x => imm x = true ∧ Dp K H v x
  | .p x => Dp K (Vw F Z H) v x
  | .l f xs => ∃ q vs, v = .ref q ∧ F.ro ≠ some q ∧ F.H0 q = none ∧ ¬ Z q ∧ (f = true → He q = none) ∧ H q = some (.lst vs) ∧ DpAll K (Vw F Z H) vs xs
  | .t x => Dp K (Vt F H) v x
  | .row => ∃ r, F.ro = some r ∧ v = .ref r
  | .m P => (∀ H H' v, Same H H' → P H v → P H' v) ∧ P (Vw F Z H) v
theorem RV.step (s : Step F Z H Z' H') (h : RV F Z He H v av) : RV F Z' He H' v av := by
  cases av with
  | d x => exact ⟨h.1, s.eff.1.dp h.1 h.2⟩
  | p x => exact Dp.imm s.vw h
  | l f xs =>
    obtain ⟨q, vs, e, n, h0, z, fr, hq, a⟩ := h
    refine ⟨q, vs, e, n, h0, fun z' => ?_, fr, s.eff.2 _ _ n hq, DpAll.imm s.vw a⟩
    rcases s.new q z' with w | w
    · exact z w
    · rw [hq] at w; cases w
  | t x => exact Dp.imm s.vt h
  | row => exact h
  | m P => exact ⟨h.1, h.1 _ _ _ s.vw h.2⟩
theorem RV.older {He' : Hp} (h : RV F Z He H v av) (o : ∀ b, He b = none → He' b = none) : RV F Z He' H v av := by
  cases av with
  | l f xs =>
    obtain ⟨q, vs, e, n, h0, z, fr, r⟩ := h
    exact ⟨q, vs, e, n, h0, z, fun z => o q (fr z), r⟩
  | _ => exact h
/-- what is seen can be read now -/
theorem RV.now (r : RowOk K F.ro H) (h : RV F Z He H v av) (n : av.opq = false) : Dp K (Vt F H) v av.dat := by
  cases av with
  | d x => exact Dp.imm vw_vt (imm_vw (F := F) (Z := Z) r h.1 h.2)
  | p x => exact Dp.imm vw_vt h
  | l f xs =>
    obtain ⟨q, vs, e, n, h0, z, fr, hq, a⟩ := h
    subst e
    exact .lst (SqL.of (vt_of n hq)) (DpAll.imm vw_vt a)
  | t x => exact h
  | row => cases n
  | m P => cases n
theorem RV.dp (r : RowOk K F.ro H) (h : RV F Z He H v av) (n : av.opq = false) : Dp K H v av.dat := Dp.imm vt_same (h.now r n)
/-- slots and heap -/
structure Ok (F : Fr K ec) (Z : Addr → Prop) (ρ : Rho) (σ : L2.St) (H : Hp) : Prop where
  len : σ.length = ρ.length
  eff : Eff F.ro F.H0 H
  row : RowOk K F.ro H
  zok : ∀ b, Z b → H b ≠ none
  nt : ∀ (i : Nat) (x : PyData), ρ[i]? ≠ some (some (.t x))
  at_ : ∀ (i : Nat) (av : AV), ρ[i]? = some (some av) → ∃ v, σ[i]? = some (some v) ∧ RV F Z Hfull H v av
  sep : ∀ (i j : Nat) (xs ys : List PyData), i ≠ j → ρ[i]? = some (some (.l false xs)) → ρ[j]? = some (some (.l false ys)) → σ[i]? ≠ σ[j]?
theorem Ok.step {ρ : Rho} {σ : L2.St} (o : Ok F Z ρ σ H) (s : Step F Z H Z' H') : Ok F Z' ρ σ H' :=
  ⟨o.len, o.eff.trans s.eff, s.row, s.zok, o.nt, fun i av e => let ⟨v, h1, h2⟩ := o.at_ i av e; ⟨v, h1, h2.step s⟩, o.sep⟩
theorem Ok.refl {ρ : Rho} {σ : L2.St} (o : Ok F Z ρ σ H) : Step F Z H Z H := Step.stay o.row o.zok
end
abbrev AE := Rho → (AV → Prop) → Prop
abbrev AA := Rho → (List AV → Prop) → Prop
abbrev AT := Rho → (Bool → Prop) → Prop
abbrev AO := Rho → (Option Int → Prop) → Prop
structure AEnds where
  nx : Rho → Prop
  rt : AV → Prop
  bk : Rho → Prop := fun _ => False
  ct : Rho → Prop := fun _ => False
abbrev AS := AEnds → Rho → Prop
abbrev AG := AV → Rho → (Rho → Prop) → Prop
/-- what is walked; whether a loop's body may change lists meanwhile -/
abbrev AI := Rho → (Bool → List AV → Prop) → Prop
section
variable {K : PySem.W.Frag} {ec : EC} (F : Fr K ec)
/-- the reading te of an expression is told by ae -/
class SE (te : TE) (ae : outParam AE) : Prop where
  snd : ∀ (Z : Addr → Prop) (ρ : Rho) (σ : L2.St) (H : Hp) (Φ : AV → Prop) (Q : VK), Ok F Z ρ σ H → ae ρ Φ →
    (∀ v av H' Z', Φ av → Step F Z H Z' H' → RV F Z' H H' v av → Q v H') → te σ H Q
class SA (te : TA) (ae : outParam AA) : Prop where
  snd : ∀ (Z : Addr → Prop) (ρ : Rho) (σ : L2.St) (H : Hp) (Φ : List AV → Prop) (Q : List V → Hp → Prop), Ok F Z ρ σ H → ae ρ Φ →
    (∀ vs avs H' Z', Φ avs → Step F Z H Z' H' → Paired (RV F Z' H H') vs avs → Q vs H') → te σ H Q
class ST (te : TT) (ae : outParam AT) : Prop where
  snd : ∀ (Z : Addr → Prop) (ρ : Rho) (σ : L2.St) (H : Hp) (Φ : Bool → Prop) (Q : Bool → Hp → Prop), Ok F Z ρ σ H → ae ρ Φ →
    (∀ b H' Z', Φ b → Step F Z H Z' H' → Q b H') → te σ H Q
class SO (te : TO) (ae : outParam AO) : Prop where
  snd : ∀ (Z : Addr → Prop) (ρ : Rho) (σ : L2.St) (H : Hp) (Φ : Option Int → Prop) (Q : Option Int → Hp → Prop), Ok F Z ρ σ H → ae ρ Φ →
    (∀ b H' Z', Φ b → Step F Z H Z' H' → Q b H') → te σ H Q
/-- an operation on two values -/
class SR (r : R2) (ar : outParam (AV → AV → (AV → Prop) → Prop)) : Prop where
  snd : ∀ (Z : Addr → Prop) (ρ : Rho) (σ : L2.St) (He H : Hp) (x y : V) (ax ay : AV) (Φ : AV → Prop) (Q : VK), Ok F Z ρ σ H → RV F Z He H x ax → RV F Z He H y ay → ar ax ay Φ →
    (∀ v av H' Z', Φ av → Step F Z H Z' H' → RV F Z' H H' v av → Q v H') → r x y H Q
/-- an operation on one value -/
class SU (r : V → Hp → VK → Prop) (ar : outParam (AV → (AV → Prop) → Prop)) : Prop where
  snd : ∀ (Z : Addr → Prop) (ρ : Rho) (σ : L2.St) (He H : Hp) (x : V) (ax : AV) (Φ : AV → Prop) (Q : VK), Ok F Z ρ σ H → RV F Z He H x ax → ar ax Φ →
    (∀ v av H' Z', Φ av → Step F Z H Z' H' → RV F Z' H H' v av → Q v H') → r x H Q
/-- a call of a built-in -/
class SB (r : List V → Hp → VK → Prop) (ar : outParam (List AV → (AV → Prop) → Prop)) : Prop where
  snd : ∀ (Z : Addr → Prop) (ρ : Rho) (σ : L2.St) (He H : Hp) (xs : List V) (axs : List AV) (Φ : AV → Prop) (Q : VK), Ok F Z ρ σ H → Paired (RV F Z He H) xs axs → ar axs Φ →
    (∀ v av H' Z', Φ av → Step F Z H Z' H' → RV F Z' H H' v av → Q v H') → r xs H Q
/-- a def's answer -/
def Ret (K : PySem.W.Frag) (H0 H : Hp) (v : V) : AV → Prop
  | .d x => imm x = true ∧ Dp K H v x
  | .l true xs => ∃ q vs, v = .ref q ∧ H0 q = none ∧ H q = some (.lst vs) ∧ immAll xs = true ∧ DpAll K H vs xs
  | _ => False
/-- V0: what stayed up to here -/
structure Wants (F : Fr K ec) (V0 : Hp) (aD : AEnds) (D : Ends) : Prop where
  nx : ∀ Z ρ σ H, aD.nx ρ → Ok F Z ρ σ H → Same V0 (Vw F Z H) → D.nx σ H
  bk : ∀ Z ρ σ H, aD.bk ρ → Ok F Z ρ σ H → Same V0 (Vw F Z H) → D.bk σ H
  ct : ∀ Z ρ σ H, aD.ct ρ → Ok F Z ρ σ H → Same V0 (Vw F Z H) → D.ct σ H
  rt : ∀ v av H, aD.rt av → Eff F.ro F.H0 H → RowOk K F.ro H → Ret K F.H0 H v av → D.rt v H
class SS (ts : TS) (as : outParam AS) : Prop where
  snd : ∀ (Z : Addr → Prop) (ρ : Rho) (σ : L2.St) (H : Hp) (aD : AEnds) (D : Ends), Ok F Z ρ σ H → as aD ρ → Wants F (Vw F Z H) aD D → ts D σ H
/-- the lists of one's own stood in He -/
def Old (ρ : Rho) (σ : L2.St) (He : Hp) : Prop := ∀ (i : Nat) (xs : List PyData), ρ[i]? = some (some (.l false xs)) → ∃ q, σ[i]? = some (some (.ref q)) ∧ He q ≠ none
/-- a target; sl: the slots that it writes -/
class SG (g : TG) (ag : outParam AG) (sl : outParam (List Nat)) : Prop where
  snd : ∀ (Z : Addr → Prop) (ρ : Rho) (σ : L2.St) (He H : Hp) (v : V) (av : AV) (Φ : Rho → Prop) (Q : L2.St → Hp → Prop), Ok F Z ρ σ H → RV F Z He H v av → Old ρ σ He → ag av ρ Φ →
    (∀ ρ' σ', Φ ρ' → Ok F Z ρ' σ' H → (∀ j, j ∉ sl → σ'[j]? = σ[j]?) → σ'.length = σ.length → ((∀ q, He q ≠ none) → ∀ B, Old ρ σ B → Old ρ' σ' B) → Q σ' H) → g v σ H Q
class SGs (g : TGs) (ag : outParam (List AV → Rho → (Rho → Prop) → Prop)) (sl : outParam (List Nat)) : Prop where
  snd : ∀ (Z : Addr → Prop) (ρ : Rho) (σ : L2.St) (H : Hp) (vs : List V) (avs : List AV) (Φ : Rho → Prop) (Q : L2.St → Hp → Prop), Ok F Z ρ σ H → Paired (RV F Z Hfull H) vs avs → ag avs ρ Φ →
    (∀ ρ' σ', Φ ρ' → Ok F Z ρ' σ' H → (∀ j, j ∉ sl → σ'[j]? = σ[j]?) → σ'.length = σ.length → (∀ B, Old ρ σ B → Old ρ' σ' B) → Q σ' H) → g vs σ H Q
/-- what is walked: G what is asked of the heap meanwhile -/
structure Wk (F : Fr K ec) (Z1 : Addr → Prop) (H1 : Hp) (J : It) (fz : Bool) (its : List AV) (G : Hp → Prop) : Prop where
  calm : ∀ Z H, Step F Z1 H1 Z H → G H
  loop : fz = true → ∀ Z H, Same (Vw F Z1 H1) (Vw F Z H) → G H
  goes : ∀ i H, i < its.length → G H → J.go i H
  stops : ∀ H, G H → J.stop its.length H
  yields : ∀ i Z ρ σ H x H', i < its.length → G H → Ok F Z ρ σ H → (Step F Z1 H1 Z H ∨ Same (Vw F Z1 H1) (Vw F Z H)) → J.yld i H x H' → ∃ av, its[i]? = some av ∧ Step F Z H Z H' ∧ RV F Z Hfull H' x av
class SI (wi : TI) (ai : outParam AI) : Prop where
  snd : ∀ (Z : Addr → Prop) (ρ : Rho) (σ : L2.St) (H : Hp) (Φ : Bool → List AV → Prop) (R : It → Hp → Prop), Ok F Z ρ σ H → ai ρ Φ →
    (∀ J fz its G H' Z', Φ fz its → Step F Z H Z' H' → Wk F Z' H' J fz its G → R J H') → wi σ H R
/-- a slice of a value -/
class SL (r : V → Option Int → Option Int → Hp → VK → Prop) (ar : outParam (AV → Option Int → Option Int → (AV → Prop) → Prop)) : Prop where
  snd : ∀ (Z : Addr → Prop) (ρ : Rho) (σ : L2.St) (He H : Hp) (x : V) (lo hi : Option Int) (ax : AV) (Φ : AV → Prop) (Q : VK), Ok F Z ρ σ H → RV F Z He H x ax → ar ax lo hi Φ →
    (∀ v av H' Z', Φ av → Step F Z H Z' H' → RV F Z' H H' v av → Q v H') → r x lo hi H Q
end

def AV.isD : AV → Bool
  | .d _ => true | _ => false
def AV.isS : AV → Bool
  | .d _ => true | .p _ => true | _ => false
def AV.isV : AV → Bool
  | .row => false | .m _ => false | _ => true
/-- what may be handed to a def -/
def AV.isA : AV → Bool
  | .row => false | _ => true
theorem opq_V {av : AV} (h : av.isV = true) : av.opq = false := by cases av <;> first | rfl | cases h
/-- a part of what is seen -/
def AV.sub : AV → PyData → AV
  | .d _, e => .d e
  | .t _, e => if imm e then .d e else .t e
  | _, e => if imm e then .d e else .p e
theorem sub_d (x e : PyData) : (AV.d x).sub e = .d e := rfl
theorem sub_p (x e : PyData) : (AV.p x).sub e = if imm e then .d e else .p e := rfl
theorem sub_l (f : Bool) (x : List PyData) (e : PyData) : (AV.l f x).sub e = if imm e then .d e else .p e := rfl
theorem sub_t (x e : PyData) : (AV.t x).sub e = if imm e then .d e else .t e := rfl
theorem sub_row (e : PyData) : AV.row.sub e = if imm e then .d e else .p e := rfl
theorem sub_m (P : Hp → V → Prop) (e : PyData) : (AV.m P).sub e = if imm e then .d e else .p e := rfl
/-- a new tuple -/
def mkT (avs : List AV) : AV := if avs.all AV.isD then .d (.tuple (avs.map AV.dat)) else .t (.tuple (avs.map AV.dat))
def mix2 (a b : AV) (x : PyData) : AV := if a.isD && b.isD then .d x else .t x
def seqP : PyData → Option (List PyData)
  | .tuple xs => some xs | .list xs => some xs | _ => none
def flatP : PyData → Bool
  | .none => true | .bool _ => true | .int _ => true | .str _ => true | _ => false
def fV : PyData → V
  | .none => .non | .bool b => .bl b | .int i => .int i | .str s => .str s | _ => .non
def cutP (xs : List PyData) (lo hi : Option Int) : List PyData := (xs.drop (HT.sIx xs.length 0 lo)).take (HT.sIx xs.length xs.length hi - HT.sIx xs.length 0 lo)
section
variable {K : PySem.W.Frag} {ec : EC} {F : Fr K ec} {Z Z' : Addr → Prop} {H H' He : Hp} {v : V} {x : PyData} {av : AV}
theorem dp_int {i : Int} (h : Dp K H v (.int i)) : v = .int i := by cases h; rfl
theorem dp_bl {i : Bool} (h : Dp K H v (.bool i)) : v = .bl i := by cases h; rfl
theorem dp_str {i : Str} (h : Dp K H v (.str i)) : v = .str i := by cases h; rfl
theorem dp_non (h : Dp K H v .none) : v = .non := by cases h; rfl
theorem dp_flat (f : flatP x = true) (h : Dp K H v x) : v = fV x ∧ flatV v = true := by
  cases h <;> first | exact ⟨rfl, rfl⟩ | cases f
theorem dp_flatAll : ∀ {vs : List V} {xs : List PyData}, xs.all flatP = true → DpAll K H vs xs → vs = xs.map fV ∧ vs.all flatV = true
  | _, _, _, .nil => ⟨rfl, rfl⟩
  | _, _, f, .cons h t => by
    rw [List.all_cons, Bool.and_eq_true] at f
    obtain ⟨e1, e2⟩ := dp_flat f.1 h
    obtain ⟨e3, e4⟩ := dp_flatAll f.2 t
    exact ⟨by rw [e1, e3]; rfl, by rw [List.all_cons, e2, e4]; rfl⟩
theorem flat_imm (f : flatP x = true) : imm x = true := by
  cases x <;> first | rfl | cases f
theorem RV.isV (h : RV F Z He H v av) {x : PyData} (e : av.dat = x) (n : ∀ z, x ≠ .dict z) : av.opq = false := by
  cases av <;> first | rfl | exact absurd e.symm (n [])
theorem RV.read (r : RowOk K F.ro H) (h : RV F Z He H v av) {x : PyData} (e : av.dat = x) (n : ∀ z, x ≠ .dict z) : Dp K H v x := by
  rw [← e]
  exact h.dp r (h.isV e n)
theorem RV.int (r : RowOk K F.ro H) (h : RV F Z He H v av) {i : Int} (e : av.dat = .int i) : v = .int i := dp_int (h.read r e (by intro _ z; cases z))
theorem RV.bl (r : RowOk K F.ro H) (h : RV F Z He H v av) {i : Bool} (e : av.dat = .bool i) : v = .bl i := dp_bl (h.read r e (by intro _ z; cases z))
theorem RV.str (r : RowOk K F.ro H) (h : RV F Z He H v av) {i : Str} (e : av.dat = .str i) : v = .str i := dp_str (h.read r e (by intro _ z; cases z))
theorem rv_flat (f : flatP x = true) : RV F Z He H (fV x) (.d x) := ⟨flat_imm f, by cases x <;> first | exact .non | exact .bl _ | exact .int _ | exact .str _ | cases f⟩
theorem rv_int (i : Int) : RV F Z He H (.int i) (.d (.int i)) := rv_flat rfl
theorem rv_bl (i : Bool) : RV F Z He H (.bl i) (.d (.bool i)) := rv_flat rfl
theorem rv_str (i : Str) : RV F Z He H (.str i) (.d (.str i)) := rv_flat rfl
theorem rv_non : RV F Z He H .non (.d .none) := rv_flat rfl
/-- the place in the heap that is read -/
theorem RV.tup (r : RowOk K F.ro H) (h : RV F Z He H v av) {xs : List PyData} (e : av.dat = .tuple xs) : ∃ a vs, v = .ref a ∧ SqT K H a vs ∧ DpAll K H vs xs := by
  cases h.read r e (by intro _ z; cases z) with
  | tup q a => exact ⟨_, _, rfl, q, a⟩
theorem RV.list (r : RowOk K F.ro H) (h : RV F Z He H v av) {xs : List PyData} (e : av.dat = .list xs) : ∃ a vs, v = .ref a ∧ SqL K H a vs ∧ DpAll K H vs xs := by
  cases h.read r e (by intro _ z; cases z) with
  | lst q a => exact ⟨_, _, rfl, q, a⟩
/-- a part -/
theorem rv_pd (r : RowOk K F.ro H) {e : PyData} {u : V} (h : Dp K (Vw F Z H) u e) : RV F Z He H u (if imm e then .d e else .p e) := by
  by_cases i : imm e = true
  · rw [if_pos i]; exact ⟨i, Dp.imm vw_same h⟩
  · rw [if_neg i]; exact h
theorem rv_td {e : PyData} {u : V} (h : Dp K (Vt F H) u e) : RV F Z He H u (if imm e then .d e else .t e) := by
  by_cases i : imm e = true
  · rw [if_pos i]; exact ⟨i, Dp.imm vt_same h⟩
  · rw [if_neg i]; exact h
theorem seq_items {H : Hp} {v : V} {y : PyData} {xs : List PyData} (s : seqP y = some xs) (h : Dp K H v y) : ∃ a vs, v = .ref a ∧ ((y = .tuple xs ∧ SqT K H a vs) ∨ (y = .list xs ∧ SqL K H a vs)) ∧ DpAll K H vs xs := by
  cases h with
  | lst q a => cases s; exact ⟨_, _, rfl, .inr ⟨rfl, q⟩, a⟩
  | tup q a => cases s; exact ⟨_, _, rfl, .inl ⟨rfl, q⟩, a⟩
  | _ => cases s
theorem imm_item {y : PyData} {xs : List PyData} (s : seqP y = some xs) (i : imm y = true) : immAll xs = true := by
  cases y with
  | tuple zs => cases s; rw [imm] at i; exact i
  | list zs => rw [imm] at i; cases i
  | _ => cases s
theorem paired_parts {R : V → PyData → Prop} {H2 : Hp} : ∀ {vs : List V} {xs : List PyData}, DpAll K H2 vs xs → (∀ u e, Dp K H2 u e → e ∈ xs → R u e) → Paired R vs xs
  | _, _, .nil, _ => .nil
  | _, _, .cons h t, G => .cons (G _ _ h List.mem_cons_self) (paired_parts t fun u e d m => G u e d (List.mem_cons_of_mem _ m))
/-- its items, each as a part; the values are those that stand there -/
theorem RV.items (r : RowOk K F.ro H) (h : RV F Z He H v av) {xs : List PyData} (s : seqP av.dat = some xs) : ∃ a vs, v = .ref a ∧ ((av.dat = .tuple xs ∧ SqT K H a vs) ∨ (av.dat = .list xs ∧ SqL K H a vs)) ∧ Paired (fun u e => RV F Z Hfull H u (av.sub e)) vs xs ∧ DpAll K H vs xs := by
  cases av with
  | d y =>
    obtain ⟨a, vs, e, q, ds⟩ := seq_items s h.2
    have im := imm_all.mp (imm_item s h.1)
    exact ⟨a, vs, e, q, paired_parts ds (fun u e d m => ⟨im e m, d⟩), ds⟩
  | p y =>
    obtain ⟨a, vs, e, q, ds⟩ := seq_items s h
    refine ⟨a, vs, e, ?_, paired_parts ds (fun u e d m => rv_pd r d), DpAll.imm vw_same ds⟩
    rcases q with ⟨q0, q⟩ | ⟨q0, q⟩
    · exact .inl ⟨q0, (imm_of_same vw_same).sqT q⟩
    · exact .inr ⟨q0, vw_same.seq q⟩
  | l f ys =>
    cases s
    obtain ⟨q, vs, e, n, h0, z, fr, hq, ds⟩ := h
    exact ⟨q, vs, e, .inr ⟨rfl, SqL.of hq⟩, paired_parts ds (fun u e d m => rv_pd r d), DpAll.imm vw_same ds⟩
  | t y =>
    obtain ⟨a, vs, e, q, ds⟩ := seq_items s (show Dp K (Vt F H) v y from h)
    refine ⟨a, vs, e, ?_, paired_parts ds (fun u e d m => rv_td d), DpAll.imm vt_same ds⟩
    rcases q with ⟨q0, q⟩ | ⟨q0, q⟩
    · exact .inl ⟨q0, (imm_of_same vt_same).sqT q⟩
    · exact .inr ⟨q0, vt_same.seq q⟩
  | row => cases s
  | m P => cases s
theorem RV.tupP (r : RowOk K F.ro H) (h : RV F Z He H v av) {xs : List PyData} (e : av.dat = .tuple xs) : ∃ a vs, v = .ref a ∧ SqT K H a vs ∧ Paired (fun u e => RV F Z Hfull H u (av.sub e)) vs xs ∧ DpAll K H vs xs := by
  obtain ⟨a, vs, e1, q, p, d⟩ := h.items (xs := xs) r (by rw [e]; rfl)
  rcases q with ⟨_, q⟩ | ⟨z, _⟩
  · exact ⟨a, vs, e1, q, p, d⟩
  · rw [e] at z; cases z
theorem RV.listP (r : RowOk K F.ro H) (h : RV F Z He H v av) {xs : List PyData} (e : av.dat = .list xs) : ∃ a vs, v = .ref a ∧ SqL K H a vs ∧ Paired (fun u e => RV F Z Hfull H u (av.sub e)) vs xs ∧ DpAll K H vs xs := by
  obtain ⟨a, vs, e1, q, p, d⟩ := h.items (xs := xs) r (by rw [e]; rfl)
  rcases q with ⟨z, _⟩ | ⟨_, q⟩
  · rw [e] at z; cases z
  · exact ⟨a, vs, e1, q, p, d⟩
theorem dpAll_len' {H : Hp} {vs : List V} {xs : List PyData} (h : DpAll K H vs xs) : vs.length = xs.length := dpAll_len h
theorem paired_mem {α β : Type} {R : α → β → Prop} : ∀ {l : List α} {m : List β} {y : β}, Paired R l m → y ∈ m → ∃ x, x ∈ l ∧ R x y
  | _, _, _, .nil, h => nomatch h
  | _, _, _, .cons r t, h => by
    rcases List.mem_cons.mp h with e | h
    · subst e; exact ⟨_, List.mem_cons_self, r⟩
    · obtain ⟨x, m, z⟩ := paired_mem t h
      exact ⟨x, List.mem_cons_of_mem _ m, z⟩
theorem paired_at {α β : Type} {R : α → β → Prop} : ∀ {l : List α} {m : List β} {i : Nat} {y : β}, Paired R l m → m[i]? = some y → ∃ x, l[i]? = some x ∧ R x y
  | _, _, 0, _, .cons r _, h => by
    cases Option.some.inj h
    exact ⟨_, rfl, r⟩
  | _, _, i + 1, _, .cons _ t, h => paired_at (i := i) t h
  | _, _, _, _, .nil, h => by simp at h
/-- new objects -/
theorem Step.new_ {ρ : Rho} {σ : L2.St} (o : Ok F Z ρ σ H) {p : Addr} {u : HO} (n : H p = none) : Step F Z H Z (upd H p u) :=
  ⟨Eff.of (same_new n), fun r e => (o.row r e).same (same_new n), fun _ h => h, fun _ h => .inl h, fun b h => by
    have := o.zok b h
    by_cases e : b = p
    · rw [e] at this; exact absurd n this
    · rw [upd_ne e]; exact this⟩
theorem row_ne {ρ : Rho} {σ : L2.St} (o : Ok F Z ρ σ H) {p : Addr} (n : H p = none) : F.ro ≠ some p := fun e => by
  obtain ⟨xs, q⟩ := (o.row p e).lst
  rw [n] at q
  cases q
theorem h0_free {ρ : Rho} {σ : L2.St} (o : Ok F Z ρ σ H) {p : Addr} (n : H p = none) : F.H0 p = none := o.eff.free n (row_ne o n)
theorem z_free {ρ : Rho} {σ : L2.St} (o : Ok F Z ρ σ H) {p : Addr} (n : H p = none) : ¬ Z p := fun h => o.zok p h n
/-- a new tuple of what is seen -/
theorem rv_newT {ρ : Rho} {σ : L2.St} (o : Ok F Z ρ σ H) {p : Addr} (n : H p = none) {vs : List V} {avs : List AV} (h : Paired (RV F Z He H) vs avs) (ok : avs.all AV.isV = true) :
    RV F Z H (upd H p (.tup vs)) (.ref p) (mkT avs) := by
  have s := Step.new_ o (u := .tup vs) n
  unfold mkT
  by_cases c : avs.all AV.isD = true
  · rw [if_pos c]
    have : immAll (avs.map AV.dat) = true ∧ DpAll K H vs (avs.map AV.dat) := by
      clear ok s
      induction h with
      | nil => exact ⟨rfl, .nil⟩
      | @cons v av vs avs r t ih =>
        rw [List.all_cons, Bool.and_eq_true] at c
        cases av with
        | d x =>
          obtain ⟨i1, i2⟩ := ih c.2
          exact ⟨by rw [List.map_cons, immAll, Bool.and_eq_true]; exact ⟨r.1, i1⟩, .cons r.2 i2⟩
        | _ => cases c.1
    exact ⟨by rw [imm]; exact this.1, L2.Dp.tup (SqT.of upd_same) (DpAll.imm (same_new n) this.2)⟩
  · rw [if_neg c]
    have : DpAll K (Vt F H) vs (avs.map AV.dat) := by
      clear c s
      induction h with
      | nil => exact .nil
      | @cons v av vs avs r t ih =>
        rw [List.all_cons, Bool.and_eq_true] at ok
        exact .cons (r.now o.row (opq_V ok.1)) (ih ok.2)
    exact L2.Dp.tup (SqT.of (vt_of (row_ne o n) upd_same)) (DpAll.imm s.vt this)
/-- a new list of what stays -/
theorem rv_newL {ρ : Rho} {σ : L2.St} (o : Ok F Z ρ σ H) {p : Addr} (n : H p = none) {vs : List V} {xs : List PyData} (h : DpAll K (Vw F Z H) vs xs) :
    RV F Z H (upd H p (.lst vs)) (.ref p) (.l true xs) :=
  ⟨p, vs, rfl, row_ne o n, h0_free o n, z_free o n, fun _ => n, upd_same, DpAll.imm (Step.new_ o n).vw h⟩
theorem stays {ρ : Rho} {σ : L2.St} (o : Ok F Z ρ σ H) {vs : List V} {avs : List AV} (h : Paired (RV F Z He H) vs avs) (ok : avs.all AV.isS = true) : DpAll K (Vw F Z H) vs (avs.map AV.dat) := by
  induction h with
  | nil => exact .nil
  | @cons v av vs avs r t ih =>
    rw [List.all_cons, Bool.and_eq_true] at ok
    refine .cons ?_ (ih ok.2)
    cases av with
    | d x => exact imm_vw o.row r.1 r.2
    | p x => exact r
    | _ => cases ok.1
end
/-! ### expressions -/
def aVar (i : Nat) : AE := fun ρ Φ => ∃ av, ρ[i]? = some (some av) ∧ Φ av
def aC (x : PyData) : AE := fun _ Φ => Φ (.d x)
def aOp (r : AV → AV → (AV → Prop) → Prop) (a b : AE) : AE := fun ρ Φ => a ρ fun x => b ρ fun y => r x y Φ
def aUn (r : AV → (AV → Prop) → Prop) (a : AE) : AE := fun ρ Φ => a ρ fun x => r x Φ
def aNil : AA := fun _ Φ => Φ []
def aCons (a : AE) (r : AA) : AA := fun ρ Φ => a ρ fun x => r ρ fun xs => Φ (x :: xs)
def aCB (r : List AV → (AV → Prop) → Prop) (a : AA) : AE := fun ρ Φ => a ρ fun xs => r xs Φ
def aTup (a : AA) : AE := fun ρ Φ => a ρ fun xs => xs.all AV.isV = true ∧ xs.length ≤ 100000 ∧ Φ (mkT xs)
def aLst (a : AA) : AE := fun ρ Φ => a ρ fun xs => xs.all AV.isS = true ∧ xs.length ≤ 100000 ∧ Φ (.l true (xs.map AV.dat))
def aIf (t : AT) (a b : AE) : AE := fun ρ Φ => t ρ fun c => if c = true then a ρ Φ else b ρ Φ
def aAndV (a b : AE) : AE := fun ρ Φ => a ρ fun x => ∃ c, x.dat = .bool c ∧ if c = true then b ρ Φ else Φ (.d (.bool false))
def aOrV (a b : AE) : AE := fun ρ Φ => a ρ fun x => ∃ c, x.dat = .bool c ∧ if c = true then Φ (.d (.bool true)) else b ρ Φ
def aNotV (a : AE) : AE := fun ρ Φ => a ρ fun x => ∃ c, x.dat = .bool c ∧ Φ (.d (.bool (!c)))
def aChain (r r' : AV → AV → (AV → Prop) → Prop) (a b c : AE) : AE := fun ρ Φ => a ρ fun x => b ρ fun y => r x y fun z => ∃ k, z.dat = .bool k ∧ if k = true then c ρ fun w => r' y w Φ else Φ (.d (.bool false))
def aTest (a : AE) : AT := fun ρ Φ => a ρ fun x => ∃ k, x.dat = .bool k ∧ Φ k
def aAnd (t u : AT) : AT := fun ρ Φ => t ρ fun c => if c = true then u ρ Φ else Φ false
def aOr (t u : AT) : AT := fun ρ Φ => t ρ fun c => if c = true then Φ true else u ρ Φ
def aNot (t : AT) : AT := fun ρ Φ => t ρ fun c => Φ (!c)
def aYes : AT := fun _ Φ => Φ true
section
variable {K : PySem.W.Frag} {ec : EC} {F : Fr K ec}
/-- an old value behind a step of another part -/
theorem RV.on {Z Z1 Z2 : Addr → Prop} {H H1 H2 : Hp} {v : V} {av : AV} (s1 : Step F Z H Z1 H1) (s2 : Step F Z1 H1 Z2 H2) (h : RV F Z1 H H1 v av) : RV F Z2 H H2 v av := h.step s2
theorem RV.back {Z Z1 Z2 : Addr → Prop} {H H1 H2 : Hp} {v : V} {av : AV} (s1 : Step F Z H Z1 H1) (h : RV F Z2 H1 H2 v av) : RV F Z2 H H2 v av := h.older fun b e => s1.older e
instance (i : Nat) : SE F (tVar i) (aVar i) where
  snd := fun Z ρ σ H Φ Q o ⟨av, e, q⟩ k => by
    obtain ⟨v, e2, r⟩ := o.at_ i av e
    exact ⟨v, e2, k v av H Z q o.refl (r.older fun b z => nomatch z)⟩
instance (i : Int) : SE F (tC (.int i)) (aC (.int i)) where
  snd := fun Z ρ σ H Φ Q o q k => k _ _ H Z q o.refl (rv_int i)
instance (i : Bool) : SE F (tC (.bl i)) (aC (.bool i)) where
  snd := fun Z ρ σ H Φ Q o q k => k _ _ H Z q o.refl (rv_bl i)
instance (i : Str) : SE F (tC (.str i)) (aC (.str i)) where
  snd := fun Z ρ σ H Φ Q o q k => k _ _ H Z q o.refl (rv_str i)
instance : SE F (tC .non) (aC .none) where
  snd := fun Z ρ σ H Φ Q o q k => k _ _ H Z q o.refl rv_non
instance {r : R2} {ar} {ta tb : TE} {aa ab : AE} [SR F r ar] [SE F ta aa] [SE F tb ab] : SE F (tOp r ta tb) (aOp ar aa ab) where
  snd := fun Z ρ σ H Φ Q o q k => by
    refine SE.snd (F := F) (te := ta) (ae := aa) Z ρ σ H _ _ o q fun x ax H1 Z1 q1 s1 r1 => ?_
    refine SE.snd (F := F) (te := tb) (ae := ab) Z1 ρ σ H1 _ _ (o.step s1) q1 fun y ay H2 Z2 q2 s2 r2 => ?_
    have o2 := (o.step s1).step s2
    refine SR.snd (F := F) (r := r) (ar := ar) Z2 ρ σ H H2 x y ax ay _ _ o2 (r1.step s2) (r2.back s1) q2 fun v av H3 Z3 q3 s3 r3 => ?_
    exact k v av H3 Z3 q3 ((s1.trans o.row s2).trans o.row s3) (r3.back (s1.trans o.row s2))
instance {r : V → Hp → VK → Prop} {ar} {ta : TE} {aa : AE} [SU F r ar] [SE F ta aa] : SE F (tUn r ta) (aUn ar aa) where
  snd := fun Z ρ σ H Φ Q o q k => by
    refine SE.snd (F := F) (te := ta) (ae := aa) Z ρ σ H _ _ o q fun x ax H1 Z1 q1 s1 r1 => ?_
    refine SU.snd (F := F) (r := r) (ar := ar) Z1 ρ σ H H1 x ax _ _ (o.step s1) r1 q1 fun v av H3 Z3 q3 s3 r3 => ?_
    exact k v av H3 Z3 q3 (s1.trans o.row s3) (r3.back s1)
instance : SA F tNil aNil where
  snd := fun Z ρ σ H Φ Q o q k => k [] [] H Z q o.refl .nil
instance {ta : TE} {tr : TA} {aa : AE} {ar : AA} [SE F ta aa] [SA F tr ar] : SA F (tCons ta tr) (aCons aa ar) where
  snd := fun Z ρ σ H Φ Q o q k => by
    refine SE.snd (F := F) (te := ta) (ae := aa) Z ρ σ H _ _ o q fun x ax H1 Z1 q1 s1 r1 => ?_
    refine SA.snd (F := F) (te := tr) (ae := ar) Z1 ρ σ H1 _ _ (o.step s1) q1 fun ys ays H2 Z2 q2 s2 r2 => ?_
    exact k _ _ H2 Z2 q2 (s1.trans o.row s2) (.cons (r1.step s2) (Paired.mapP r2 fun u w z => z.back s1))
instance {r : List V → Hp → VK → Prop} {ar} {ta : TA} {aa : AA} [SB F r ar] [SA F ta aa] : SE F (tCB r ta) (aCB ar aa) where
  snd := fun Z ρ σ H Φ Q o q k => by
    refine SA.snd (F := F) (te := ta) (ae := aa) Z ρ σ H _ _ o q fun x ax H1 Z1 q1 s1 r1 => ?_
    refine SB.snd (F := F) (r := r) (ar := ar) Z1 ρ σ H H1 x ax _ _ (o.step s1) r1 q1 fun v av H3 Z3 q3 s3 r3 => ?_
    exact k v av H3 Z3 q3 (s1.trans o.row s3) (r3.back s1)
instance {ta : TA} {aa : AA} [SA F ta aa] : SE F (tTup ta) (aTup aa) where
  snd := fun Z ρ σ H Φ Q o q k => by
    refine SA.snd (F := F) (te := ta) (ae := aa) Z ρ σ H _ _ o q fun x ax H1 Z1 q1 s1 r1 => ?_
    obtain ⟨n1, n2, q1⟩ := q1
    refine ⟨le_line (by rw [paired_len r1]; exact n2), fun p np => ?_⟩
    have o1 := o.step s1
    exact k _ _ _ Z1 q1 (s1.trans o.row (Step.new_ o1 np)) ((rv_newT o1 np r1 n1).back s1)
instance {ta : TA} {aa : AA} [SA F ta aa] : SE F (tLst ta) (aLst aa) where
  snd := fun Z ρ σ H Φ Q o q k => by
    refine SA.snd (F := F) (te := ta) (ae := aa) Z ρ σ H _ _ o q fun x ax H1 Z1 q1 s1 r1 => ?_
    obtain ⟨n1, n2, q1⟩ := q1
    refine ⟨le_line (by rw [paired_len r1]; exact n2), fun p np => ?_⟩
    have o1 := o.step s1
    exact k _ _ _ Z1 q1 (s1.trans o.row (Step.new_ o1 np)) ((rv_newL o1 np (stays o1 r1 n1)).back s1)
instance {t : TT} {ta tb : TE} {at' : AT} {aa ab : AE} [ST F t at'] [SE F ta aa] [SE F tb ab] : SE F (tIf t ta tb) (aIf at' aa ab) where
  snd := fun Z ρ σ H Φ Q o q k => by
    refine ST.snd (F := F) (te := t) (ae := at') Z ρ σ H _ _ o q fun c H1 Z1 q1 s1 => ?_
    cases c with
    | true =>
      rw [if_pos rfl] at q1 ⊢
      exact SE.snd (F := F) (te := ta) (ae := aa) Z1 ρ σ H1 _ _ (o.step s1) q1 fun x ax H2 Z2 q2 s2 r2 => k x ax H2 Z2 q2 (s1.trans o.row s2) (r2.back s1)
    | false =>
      rw [if_neg Bool.false_ne_true] at q1 ⊢
      exact SE.snd (F := F) (te := tb) (ae := ab) Z1 ρ σ H1 _ _ (o.step s1) q1 fun x ax H2 Z2 q2 s2 r2 => k x ax H2 Z2 q2 (s1.trans o.row s2) (r2.back s1)
instance {ta tb : TE} {aa ab : AE} [SE F ta aa] [SE F tb ab] : SE F (tAndV ta tb) (aAndV aa ab) where
  snd := fun Z ρ σ H Φ Q o q k => by
    refine SE.snd (F := F) (te := ta) (ae := aa) Z ρ σ H _ _ o q fun x ax H1 Z1 q1 s1 r1 => ?_
    obtain ⟨c, e, q1⟩ := q1
    refine ⟨c, r1.bl (o.step s1).row e, ?_⟩
    cases c with
    | true =>
      rw [if_pos rfl] at q1 ⊢
      exact SE.snd (F := F) (te := tb) (ae := ab) Z1 ρ σ H1 _ _ (o.step s1) q1 fun x ax H2 Z2 q2 s2 r2 => k x ax H2 Z2 q2 (s1.trans o.row s2) (r2.back s1)
    | false =>
      rw [if_neg Bool.false_ne_true] at q1 ⊢
      exact k _ _ H1 Z1 q1 s1 (rv_bl false)
instance {ta tb : TE} {aa ab : AE} [SE F ta aa] [SE F tb ab] : SE F (tOrV ta tb) (aOrV aa ab) where
  snd := fun Z ρ σ H Φ Q o q k => by
    refine SE.snd (F := F) (te := ta) (ae := aa) Z ρ σ H _ _ o q fun x ax H1 Z1 q1 s1 r1 => ?_
    obtain ⟨c, e, q1⟩ := q1
    refine ⟨c, r1.bl (o.step s1).row e, ?_⟩
    cases c with
    | false =>
      rw [if_neg Bool.false_ne_true] at q1 ⊢
      exact SE.snd (F := F) (te := tb) (ae := ab) Z1 ρ σ H1 _ _ (o.step s1) q1 fun x ax H2 Z2 q2 s2 r2 => k x ax H2 Z2 q2 (s1.trans o.row s2) (r2.back s1)
    | true =>
      rw [if_pos rfl] at q1 ⊢
      exact k _ _ H1 Z1 q1 s1 (rv_bl true)
instance {ta : TE} {aa : AE} [SE F ta aa] : SE F (tNotV ta) (aNotV aa) where
  snd := fun Z ρ σ H Φ Q o q k => by
    refine SE.snd (F := F) (te := ta) (ae := aa) Z ρ σ H _ _ o q fun x ax H1 Z1 q1 s1 r1 => ?_
    obtain ⟨c, e, q1⟩ := q1
    exact ⟨c, r1.bl (o.step s1).row e, k _ _ H1 Z1 q1 s1 (rv_bl _)⟩
instance {r r' : R2} {ar ar'} {ta tb tc : TE} {aa ab ac : AE} [SR F r ar] [SR F r' ar'] [SE F ta aa] [SE F tb ab] [SE F tc ac] : SE F (tChain r r' ta tb tc) (aChain ar ar' aa ab ac) where
  snd := fun Z ρ σ H Φ Q o q k => by
    refine SE.snd (F := F) (te := ta) (ae := aa) Z ρ σ H _ _ o q fun x ax H1 Z1 q1 s1 r1 => ?_
    refine SE.snd (F := F) (te := tb) (ae := ab) Z1 ρ σ H1 _ _ (o.step s1) q1 fun y ay H2 Z2 q2 s2 r2 => ?_
    have o2 := (o.step s1).step s2
    refine SR.snd (F := F) (r := r) (ar := ar) Z2 ρ σ H H2 x y ax ay _ _ o2 (r1.step s2) (r2.back s1) q2 fun v av H3 Z3 q3 s3 r3 => ?_
    obtain ⟨c, e, q3⟩ := q3
    have s13 := (s1.trans o.row s2).trans o.row s3
    refine ⟨c, r3.bl (o2.step s3).row e, ?_⟩
    cases c with
    | true =>
      rw [if_pos rfl] at q3 ⊢
      refine SE.snd (F := F) (te := tc) (ae := ac) Z3 ρ σ H3 _ _ (o2.step s3) q3 fun w aw H4 Z4 q4 s4 r4 => ?_
      refine SR.snd (F := F) (r := r') (ar := ar') Z4 ρ σ H H4 y w ay aw _ _ ((o2.step s3).step s4) (((r2.back s1).step s3).step s4) (r4.back s13) q4 fun v av H5 Z5 q5 s5 r5 => ?_
      exact k v av H5 Z5 q5 ((s13.trans o.row s4).trans o.row s5) (r5.back (s13.trans o.row s4))
    | false =>
      rw [if_neg Bool.false_ne_true] at q3 ⊢
      exact k _ _ H3 Z3 q3 s13 (rv_bl false)
instance {ta : TE} {aa : AE} [SE F ta aa] : ST F (tTest ta) (aTest aa) where
  snd := fun Z ρ σ H Φ Q o q k => by
    refine SE.snd (F := F) (te := ta) (ae := aa) Z ρ σ H _ _ o q fun x ax H1 Z1 q1 s1 r1 => ?_
    obtain ⟨c, e, q1⟩ := q1
    exact ⟨c, r1.bl (o.step s1).row e, k _ H1 Z1 q1 s1⟩
instance {ta : TE} {aa : AE} [SE F ta aa] : ST F (L2.tB ta) (aTest aa) where
  snd := fun Z ρ σ H Φ Q o q k => by
    refine SE.snd (F := F) (te := ta) (ae := aa) Z ρ σ H _ _ o q fun x ax H1 Z1 q1 s1 r1 => ?_
    obtain ⟨c, e, q1⟩ := q1
    exact ⟨c, r1.bl (o.step s1).row e, k _ H1 Z1 q1 s1⟩
instance {t u : TT} {a b : AT} [ST F t a] [ST F u b] : ST F (tAnd t u) (aAnd a b) where
  snd := fun Z ρ σ H Φ Q o q k => by
    refine ST.snd (F := F) (te := t) (ae := a) Z ρ σ H _ _ o q fun c H1 Z1 q1 s1 => ?_
    cases c with
    | true =>
      rw [if_pos rfl] at q1 ⊢
      exact ST.snd (F := F) (te := u) (ae := b) Z1 ρ σ H1 _ _ (o.step s1) q1 fun c H2 Z2 q2 s2 => k c H2 Z2 q2 (s1.trans o.row s2)
    | false =>
      rw [if_neg Bool.false_ne_true] at q1 ⊢
      exact k _ H1 Z1 q1 s1
instance {t u : TT} {a b : AT} [ST F t a] [ST F u b] : ST F (tOr t u) (aOr a b) where
  snd := fun Z ρ σ H Φ Q o q k => by
    refine ST.snd (F := F) (te := t) (ae := a) Z ρ σ H _ _ o q fun c H1 Z1 q1 s1 => ?_
    cases c with
    | false =>
      rw [if_neg Bool.false_ne_true] at q1 ⊢
      exact ST.snd (F := F) (te := u) (ae := b) Z1 ρ σ H1 _ _ (o.step s1) q1 fun c H2 Z2 q2 s2 => k c H2 Z2 q2 (s1.trans o.row s2)
    | true =>
      rw [if_pos rfl] at q1 ⊢
      exact k _ H1 Z1 q1 s1
instance {t : TT} {a : AT} [ST F t a] : ST F (tNot t) (aNot a) where
  snd := fun Z ρ σ H Φ Q o q k => ST.snd (F := F) (te := t) (ae := a) Z ρ σ H _ _ o q fun c H1 Z1 q1 s1 => k _ H1 Z1 q1 s1
instance : ST F tYes aYes where
  snd := fun Z ρ σ H Φ Q o q k => k _ H Z q o.refl
end

/-! ### operations -/
class VF2 (g : Int → Int → V) (f : outParam (Int → Int → PyData)) : Prop where
  eq : ∀ i j, flatP (f i j) = true ∧ g i j = fV (f i j)
instance {e : Int → Int → Int} : VF2 (fun i j => V.int (e i j)) (fun i j => .int (e i j)) := ⟨fun _ _ => ⟨rfl, rfl⟩⟩
instance {e : Int → Int → Bool} : VF2 (fun i j => V.bl (e i j)) (fun i j => .bool (e i j)) := ⟨fun _ _ => ⟨rfl, rfl⟩⟩
abbrev AR2 := AV → AV → (AV → Prop) → Prop
def aI (f : Int → Int → PyData) : AR2 := fun x y Φ => ∃ i j, x.dat = .int i ∧ y.dat = .int j ∧ Φ (.d (f i j))
def aIc (C : Int → Int → Prop) (f : Int → Int → PyData) : AR2 := fun x y Φ => ∃ i j, x.dat = .int i ∧ y.dat = .int j ∧ C i j ∧ Φ (.d (f i j))
def aNeg (f : Int → Int) : AV → (AV → Prop) → Prop := fun x Φ => ∃ i, x.dat = .int i ∧ Φ (.d (.int (f i)))
def aEq : AR2 := fun x y Φ => flatP x.dat = true ∧ flatP y.dat = true ∧ scal (fV x.dat) (fV y.dat) = true ∧ Φ (.d (.bool (decide (fV x.dat = fV y.dat))))
def aNe : AR2 := fun x y Φ => flatP x.dat = true ∧ flatP y.dat = true ∧ scal (fV x.dat) (fV y.dat) = true ∧ Φ (.d (.bool (!decide (fV x.dat = fV y.dat))))
def isNon : PyData → Bool
  | .none => true | _ => false
def aIsN : AR2 := fun x y Φ => x.isV = true ∧ y.dat = .none ∧ Φ (.d (.bool (isNon x.dat)))
def aNotN : AR2 := fun x y Φ => x.isV = true ∧ y.dat = .none ∧ Φ (.d (.bool (!isNon x.dat)))
def aIsB : AR2 := fun x y Φ => ∃ a b, x.dat = .bool a ∧ y.dat = .bool b ∧ Φ (.d (.bool (decide (a = b))))
def aNotB : AR2 := fun x y Φ => ∃ a b, x.dat = .bool a ∧ y.dat = .bool b ∧ Φ (.d (.bool (!decide (a = b))))
def aEqD : AR2 := fun x y Φ => x.isV = true ∧ y.isV = true ∧ SeqAt.shaped x.dat = true ∧ SeqAt.shaped y.dat = true ∧ Φ (.d (.bool (PyData.eqv x.dat y.dat)))
def aNeD : AR2 := fun x y Φ => x.isV = true ∧ y.isV = true ∧ SeqAt.shaped x.dat = true ∧ SeqAt.shaped y.dat = true ∧ Φ (.d (.bool (!PyData.eqv x.dat y.dat)))
def aIn (neg : Bool) : AR2 := fun x y Φ => ∃ xs, seqP y.dat = some xs ∧ flatP x.dat = true ∧ xs.all flatP = true ∧ Φ (.d (.bool (if neg then !inV (fV x.dat) (xs.map fV) else inV (fV x.dat) (xs.map fV))))
def aInD (neg : Bool) : AR2 := fun x y Φ => ∃ xs, y.dat = .list xs ∧ x.isV = true ∧ SeqAt.shaped x.dat = true ∧ SeqAt.shaped (.list xs) = true ∧ Φ (.d (.bool (if neg then !(xs.any fun z => PyData.eqv z x.dat) else xs.any fun z => PyData.eqv z x.dat)))
def aIx : AR2 := fun x y Φ => ∃ xs i e, seqP x.dat = some xs ∧ y.dat = .int i ∧ atI xs i = some e ∧ Φ (x.sub e)
def aIxT : AR2 := fun x y Φ => ∃ xs i e, x.dat = .tuple xs ∧ y.dat = .int i ∧ atI xs i = some e ∧ Φ (x.sub e)
def aIxL : AR2 := fun x y Φ => ∃ xs i e, x.dat = .list xs ∧ y.dat = .int i ∧ atI xs i = some e ∧ Φ (x.sub e)
def aCat : AR2 := fun x y Φ => ∃ xs ys, x = .d (.tuple xs) ∧ y = .d (.tuple ys) ∧ xs.length + ys.length ≤ 100000 ∧ Φ (.d (.tuple (xs ++ ys)))
def aCatL : AR2 := fun x y Φ => ∃ f g xs ys, x = .l f xs ∧ y = .l g ys ∧ xs.length + ys.length ≤ 100000 ∧ Φ (.l true (xs ++ ys))
def aRep : AR2 := fun x y Φ => ∃ xs k, x.dat = .tuple xs ∧ y.dat = .int k ∧ x.isD = true ∧ xs ≠ [] ∧ 0 ≤ k ∧ k ≤ 1000 ∧ xs.length ≤ 1000 ∧ Φ (.d (.tuple (List.replicate k.toNat xs).flatten))
def aRepL : AR2 := fun x y Φ => ∃ f xs k, x = .l f xs ∧ y.dat = .int k ∧ 0 ≤ k ∧ k ≤ 100000 ∧ xs.length * k.toNat ≤ 100000 ∧ Φ (.l true (List.replicate k.toNat xs).flatten)
section
variable {K : PySem.W.Frag} {ec : EC} {F : Fr K ec}
instance {g : Int → Int → V} {f : Int → Int → PyData} [v : VF2 g f] : SR F (rI0 g) (aI f) where
  snd := fun Z ρ σ He H x y ax ay Φ Q o rx ry ⟨i, j, e1, e2, q⟩ k => by
    have h1 := rx.int o.row e1
    have h2 := ry.int o.row e2
    subst h1 h2
    refine ⟨i, j, rfl, rfl, ?_⟩
    rw [(v.eq i j).2]
    exact k _ _ H Z q o.refl (rv_flat (v.eq i j).1)
instance {C : Int → Int → Prop} {g : Int → Int → V} {f : Int → Int → PyData} [v : VF2 g f] : SR F (rI C g) (aIc C f) where
  snd := fun Z ρ σ He H x y ax ay Φ Q o rx ry ⟨i, j, e1, e2, c, q⟩ k => by
    have h1 := rx.int o.row e1
    have h2 := ry.int o.row e2
    subst h1 h2
    refine ⟨i, j, rfl, rfl, c, ?_⟩
    rw [(v.eq i j).2]
    exact k _ _ H Z q o.refl (rv_flat (v.eq i j).1)
instance {f : Int → Int} : SU F (rU fun i => .int (f i)) (aNeg f) where
  snd := fun Z ρ σ He H x ax Φ Q o rx ⟨i, e1, q⟩ k => by
    have h1 := rx.int o.row e1
    subst h1
    exact ⟨i, rfl, k _ _ H Z q o.refl (rv_int _)⟩
theorem rv_fv {Z : Addr → Prop} {He H : Hp} {v : V} {av : AV} (r : RowOk K F.ro H) (h : RV F Z He H v av) (f : flatP av.dat = true) : v = fV av.dat ∧ flatV v = true :=
  dp_flat f (h.dp r (by cases av <;> first | rfl | cases f))
instance : SR F L2.rEq aEq where
  snd := fun Z ρ σ He H x y ax ay Φ Q o rx ry ⟨f1, f2, s, q⟩ k => by
    obtain ⟨e1, _⟩ := rv_fv o.row rx f1
    obtain ⟨e2, _⟩ := rv_fv o.row ry f2
    subst e1 e2
    exact ⟨s, k _ _ H Z q o.refl (rv_bl _)⟩
instance : SR F L2.rNe aNe where
  snd := fun Z ρ σ He H x y ax ay Φ Q o rx ry ⟨f1, f2, s, q⟩ k => by
    obtain ⟨e1, _⟩ := rv_fv o.row rx f1
    obtain ⟨e2, _⟩ := rv_fv o.row ry f2
    subst e1 e2
    exact ⟨s, k _ _ H Z q o.refl (rv_bl _)⟩
theorem non_iff {H : Hp} {v : V} {x : PyData} (h : Dp K H v x) : decide (v = .non) = isNon x := by
  cases h <;> rfl
theorem row_not {av : AV} (h : av.isV = true) : av.opq = false := opq_V h
instance : SR F rIsN1 aIsN where
  snd := fun Z ρ σ He H x y ax ay Φ Q o rx ry ⟨f1, e2, q⟩ k => by
    have hy : y = .non := dp_non (ry.read o.row e2 (by intro _ z; cases z))
    subst hy
    refine ⟨rfl, ?_⟩
    rw [non_iff (rx.dp o.row (row_not f1))]
    exact k _ _ H Z q o.refl (rv_bl _)
instance : SR F rNotN1 aNotN where
  snd := fun Z ρ σ He H x y ax ay Φ Q o rx ry ⟨f1, e2, q⟩ k => by
    have hy : y = .non := dp_non (ry.read o.row e2 (by intro _ z; cases z))
    subst hy
    refine ⟨rfl, ?_⟩
    rw [non_iff (rx.dp o.row (row_not f1))]
    exact k _ _ H Z q o.refl (rv_bl _)
instance : SR F rIsB aIsB where
  snd := fun Z ρ σ He H x y ax ay Φ Q o rx ry ⟨a, b, e1, e2, q⟩ k => ⟨a, b, rx.bl o.row e1, ry.bl o.row e2, k _ _ H Z q o.refl (rv_bl _)⟩
instance : SR F rNotB aNotB where
  snd := fun Z ρ σ He H x y ax ay Φ Q o rx ry ⟨a, b, e1, e2, q⟩ k => ⟨a, b, rx.bl o.row e1, ry.bl o.row e2, k _ _ H Z q o.refl (rv_bl _)⟩
instance : SR F (rEqD K) aEqD where
  snd := fun Z ρ σ He H x y ax ay Φ Q o rx ry ⟨f1, f2, s1, s2, q⟩ k => ⟨_, _, rx.dp o.row (row_not f1), ry.dp o.row (row_not f2), s1, s2, k _ _ H Z q o.refl (rv_bl _)⟩
instance : SR F (rNeD K) aNeD where
  snd := fun Z ρ σ He H x y ax ay Φ Q o rx ry ⟨f1, f2, s1, s2, q⟩ k => ⟨_, _, rx.dp o.row (row_not f1), ry.dp o.row (row_not f2), s1, s2, k _ _ H Z q o.refl (rv_bl _)⟩
instance {neg : Bool} : SR F (rIn K neg) (aIn neg) where
  snd := fun Z ρ σ He H x y ax ay Φ Q o rx ry ⟨xs, s, f1, f2, q⟩ k => by
    obtain ⟨e1, g1⟩ := rv_fv o.row rx f1
    obtain ⟨a, vs, rfl, hq, _, ds⟩ := ry.items o.row s
    obtain ⟨e2, g2⟩ := dp_flatAll f2 ds
    subst e1 e2
    exact ⟨a, _, rfl, hq.elim (fun z => .inr z.2) fun z => .inl z.2, g1, g2, k _ _ H Z q o.refl (rv_bl _)⟩
instance : SR F (rInD K) (aInD false) where
  snd := fun Z ρ σ He H x y ax ay Φ Q o rx ry ⟨xs, e, f1, s1, s2, q⟩ k =>
    ⟨_, xs, rx.dp o.row (row_not f1), ry.read o.row e (by intro _ z; cases z), s1, s2, k _ _ H Z q o.refl (rv_bl _)⟩
instance : SR F (rNotInD K) (aInD true) where
  snd := fun Z ρ σ He H x y ax ay Φ Q o rx ry ⟨xs, e, f1, s1, s2, q⟩ k =>
    ⟨_, xs, rx.dp o.row (row_not f1), ry.read o.row e (by intro _ z; cases z), s1, s2, k _ _ H Z q o.refl (rv_bl _)⟩
theorem atI_paired {α β : Type} {R : α → β → Prop} {l : List α} {m : List β} {i : Int} {y : β} (h : Paired R l m) (e : atI m i = some y) : ∃ x, atI l i = some x ∧ R x y := by
  unfold atI at *
  rw [paired_len h]
  cases q : ixN m.length i with
  | none => rw [q] at e; cases e
  | some j =>
    rw [q] at e
    exact paired_at h e
theorem sub_older {Z : Addr → Prop} {He H : Hp} {v : V} {ax : AV} {e : PyData} (h : RV F Z Hfull H v (ax.sub e)) : RV F Z He H v (ax.sub e) := h.older fun b z => nomatch z
instance : SR F (rIxT K) aIxT where
  snd := fun Z ρ σ He H x y ax ay Φ Q o rx ry ⟨xs, i, e, e1, e2, e3, q⟩ k => by
    obtain ⟨a, vs, rfl, hq, ps, ds⟩ := rx.tupP o.row e1
    obtain ⟨v, hv, rv⟩ := atI_paired ps e3
    exact ⟨a, vs, i, v, rfl, ry.int o.row e2, hq, hv, k _ _ H Z q o.refl (sub_older rv)⟩
instance : SR F (rIxL K) aIxL where
  snd := fun Z ρ σ He H x y ax ay Φ Q o rx ry ⟨xs, i, e, e1, e2, e3, q⟩ k => by
    obtain ⟨a, vs, rfl, hq, ps, ds⟩ := rx.listP o.row e1
    obtain ⟨v, hv, rv⟩ := atI_paired ps e3
    exact ⟨a, vs, i, v, rfl, ry.int o.row e2, hq, hv, k _ _ H Z q o.refl (sub_older rv)⟩
instance : SR F (rIxA K) aIx where
  snd := fun Z ρ σ He H x y ax ay Φ Q o rx ry ⟨xs, i, e, e1, e2, e3, q⟩ k => by
    obtain ⟨a, vs, rfl, hq, ps, ds⟩ := rx.items o.row e1
    obtain ⟨v, hv, rv⟩ := atI_paired ps e3
    rcases hq with ⟨_, hq⟩ | ⟨_, hq⟩
    · exact .inr ⟨a, vs, i, v, rfl, ry.int o.row e2, hq, hv, k _ _ H Z q o.refl (sub_older rv)⟩
    · exact .inl ⟨a, vs, i, v, rfl, ry.int o.row e2, hq, hv, k _ _ H Z q o.refl (sub_older rv)⟩
theorem immAll_app {xs ys : List PyData} : immAll (xs ++ ys) = (immAll xs && immAll ys) := by
  induction xs with
  | nil => simp [immAll]
  | cons x xs ih => rw [List.cons_append, immAll, immAll, ih, Bool.and_assoc]
theorem dpAll_app {H : Hp} : ∀ {vs us : List V} {xs ys : List PyData}, DpAll K H vs xs → DpAll K H us ys → DpAll K H (vs ++ us) (xs ++ ys)
  | _, _, _, _, .nil, h => h
  | _, _, _, _, .cons r t, h => .cons r (dpAll_app t h)
theorem imm_tup {xs : List PyData} (h : imm (.tuple xs) = true) : immAll xs = true := by rw [imm] at h; exact h
theorem tup_imm {xs : List PyData} (h : immAll xs = true) : imm (.tuple xs) = true := by rw [imm]; exact h
theorem step_same {Z : Addr → Prop} {ρ : Rho} {σ : L2.St} {H H2 : Hp} (o : Ok F Z ρ σ H) (s : Same H H2) : Step F Z H Z H2 :=
  ⟨Eff.of s, fun r e => (o.row r e).same s, fun _ h => h, fun _ h => .inl h, fun b h e => o.zok b h (s.free e)⟩
instance : SR F (rCatA K) aCat where
  snd := fun Z ρ σ He H x y ax ay Φ Q o rx ry ⟨xs, ys, e1, e2, few, q⟩ k => by
    subst e1 e2
    obtain ⟨i1, d1⟩ := rx
    obtain ⟨i2, d2⟩ := ry
    cases d1 with
    | tup q1 a1 =>
    cases d2 with
    | tup q2 a2 =>
    refine rCat q1 q2 (le_line (by rw [dpAll_len a1, dpAll_len a2]; exact few)) fun p H2 s2 h2 => ?_
    exact k _ _ H2 Z q (step_same o s2) ⟨tup_imm (by rw [immAll_app, imm_tup i1, imm_tup i2]; rfl), L2.Dp.tup h2 (DpAll.imm s2 (dpAll_app a1 a2))⟩
theorem immAll_rep {xs : List PyData} (h : immAll xs = true) : ∀ n : Nat, immAll (List.replicate n xs).flatten = true
  | 0 => rfl
  | n + 1 => by rw [List.replicate_succ, List.flatten_cons, immAll_app, h, immAll_rep h n]; rfl
theorem dpAll_rep {H : Hp} {vs : List V} {xs : List PyData} (h : DpAll K H vs xs) : ∀ n : Nat, DpAll K H (List.replicate n vs).flatten (List.replicate n xs).flatten
  | 0 => .nil
  | n + 1 => by
    rw [List.replicate_succ, List.flatten_cons, List.replicate_succ, List.flatten_cons]
    exact dpAll_app h (dpAll_rep h n)
instance : SR F (rRepA K) aRep where
  snd := fun Z ρ σ He H x y ax ay Φ Q o rx ry ⟨xs, n, e1, e2, c, n0, n1, n2, few, q⟩ k => by
    have hy := ry.int o.row e2
    subst hy
    cases ax with
    | d z =>
      cases e1
      obtain ⟨i1, d1⟩ := rx
      cases d1 with
      | tup q1 a1 =>
      refine rRepA_ q1 (fun e => n0 ?_) n1 n2 (by rw [dpAll_len a1]; exact few) fun p H2 s2 h2 => ?_
      · subst e
        cases a1
        rfl
      · exact k _ _ H2 Z q (step_same o s2) ⟨tup_imm (immAll_rep (imm_tup i1) _), L2.Dp.tup h2 (DpAll.imm s2 (dpAll_rep a1 _))⟩
    | _ => cases c
instance : SR F L2.rCat aCatL where
  snd := fun Z ρ σ He H x y ax ay Φ Q o rx ry ⟨f, g, xs, ys, e1, e2, few, q⟩ k => by
    subst e1 e2
    obtain ⟨p1, v1, rfl, _, _, _, _, h1, a1⟩ := rx
    obtain ⟨p2, v2, rfl, _, _, _, _, h2, a2⟩ := ry
    exact ⟨p1, p2, v1, v2, rfl, rfl, h1, h2, le_line (by rw [dpAll_len a1, dpAll_len a2]; exact few), fun p n => k _ _ _ Z q (Step.new_ o n) (rv_newL o n (dpAll_app a1 a2))⟩
instance : SR F L2.rRep aRepL where
  snd := fun Z ρ σ He H x y ax ay Φ Q o rx ry ⟨f, xs, n, e1, e2, n0, n1, few, q⟩ k => by
    have hy := ry.int o.row e2
    subst hy e1
    obtain ⟨p1, v1, rfl, _, _, _, _, h1, a1⟩ := rx
    exact ⟨p1, n, v1, rfl, rfl, h1, by omega, by omega, le_line (by rw [dpAll_len a1]; exact few), fun p np => k _ _ _ Z q (Step.new_ o np) (rv_newL o np (dpAll_rep a1 _))⟩
end

/-! ### slices, built-ins, truth -/
abbrev ASl := AV → Option Int → Option Int → (AV → Prop) → Prop
def aNoPart : AO := fun _ Φ => Φ none
def aPart (a : AE) : AO := fun ρ Φ => a ρ fun x => ∃ i, x.dat = .int i ∧ Φ (some i)
def aSl (r : ASl) (a : AE) (lo hi : AO) : AE := fun ρ Φ => a ρ fun x => lo ρ fun l => hi ρ fun h => r x l h Φ
def aSlT : ASl := fun x lo hi Φ => ∃ xs, x = .d (.tuple xs) ∧ Φ (.d (.tuple (cutP xs lo hi)))
def aSlL : ASl := fun x lo hi Φ => (∃ f xs, x = .l f xs ∧ Φ (.l true (cutP xs lo hi))) ∨ ∃ xs, x = .p (.list xs) ∧ Φ (.l true (cutP xs lo hi))
abbrev ABl := List AV → (AV → Prop) → Prop
def aLen : ABl := fun vs Φ => ∃ x xs, vs = [x] ∧ seqP x.dat = some xs ∧ Φ (.d (.int (xs.length : Nat)))
def aTupOf : ABl := fun vs Φ => ∃ x xs, vs = [x] ∧ ((x.dat = .tuple xs ∧ x.isD = true) ∨ (x.dat = .list xs ∧ immAll xs = true)) ∧ Φ (.d (.tuple xs))
def aLstOf : ABl := fun vs Φ => ∃ x xs, vs = [x] ∧ seqP x.dat = some xs ∧ (x.isS = true ∨ ∃ f ys, x = .l f ys) ∧ Φ (.l true xs)
def aInt1 : ABl := fun vs Φ => ∃ x, vs = [x] ∧ ((∃ i, x.dat = .int i ∧ Φ (.d (.int i))) ∨ ∃ b, x.dat = .bool b ∧ Φ (.d (.int (if b then 1 else 0))))
def aAbs : ABl := fun vs Φ => ∃ x i, vs = [x] ∧ x.dat = .int i ∧ Φ (.d (.int (if i < 0 then -i else i)))
def aMin4 : ABl := fun vs Φ => ∃ x y z w a b c e, vs = [x, y, z, w] ∧ x.dat = .int a ∧ y.dat = .int b ∧ z.dat = .int c ∧ w.dat = .int e ∧ ∀ m, m ≤ a → m ≤ b → m ≤ c → m ≤ e → (m = a ∨ m = b ∨ m = c ∨ m = e) → Φ (.d (.int m))
def aMin2 : ABl := fun vs Φ => ∃ x y i j, vs = [x, y] ∧ x.dat = .int i ∧ y.dat = .int j ∧ Φ (.d (.int (if j < i then j else i)))
def aAll : ABl := fun vs Φ => ∃ (x : AV) (bs : List Bool), vs = [x] ∧ x.dat = .list (bs.map PyData.bool) ∧ Φ (.d (.bool (bs.all id)))
def aAny : ABl := fun vs Φ => ∃ (x : AV) (bs : List Bool), vs = [x] ∧ x.dat = .list (bs.map PyData.bool) ∧ Φ (.d (.bool (bs.any id)))
def aSortedS : ABl := fun vs Φ => ∃ (x : AV) (xs : List Str), vs = [x] ∧ x.dat = .list (xs.map PyData.str) ∧ xs.length < 64 ∧ ∀ ys : List Str, ys.Perm xs → sortedS ys = true → Φ (.l true (ys.map PyData.str))
def truP : PyData → Bool → Prop
  | .none, k => k = false
  | .bool b, k => k = b
  | .int i, k => k = (i != 0)
  | .str y, k => y.length ≤ sizeLine ∧ k = ((y.length : Int) != 0)
  | .list xs, k => k = !xs.isEmpty
  | .tuple xs, k => k = !xs.isEmpty
  | .dict _, _ => False
def aTr (a : AE) : AT := fun ρ Φ => a ρ fun x => ∃ k, truP x.dat k ∧ Φ k
def aOrT (a b : AE) : AE := fun ρ Φ => a ρ fun x => ∃ k, truP x.dat k ∧ if k = true then Φ x else b ρ Φ
def aAndT (a b : AE) : AE := fun ρ Φ => a ρ fun x => ∃ k, truP x.dat k ∧ if k = true then b ρ Φ else Φ x
def aNotT (a : AE) : AE := fun ρ Φ => a ρ fun x => ∃ k, truP x.dat k ∧ Φ (.d (.bool (!k)))
section
variable {K : PySem.W.Frag} {ec : EC} {F : Fr K ec}
instance : SO F tNoPart aNoPart where
  snd := fun Z ρ σ H Φ Q o q k => k none H Z q o.refl
instance {te : TE} {ae : AE} [SE F te ae] : SO F (tPart te) (aPart ae) where
  snd := fun Z ρ σ H Φ Q o q k => by
    refine SE.snd (F := F) (te := te) (ae := ae) Z ρ σ H _ _ o q fun x ax H1 Z1 q1 s1 r1 => ?_
    obtain ⟨i, e, q1⟩ := q1
    exact ⟨i, r1.int (o.step s1).row e, k _ H1 Z1 q1 s1⟩
instance {r ar} {te : TE} {tl th : TO} {ae : AE} {al ah : AO} [SL F r ar] [SE F te ae] [SO F tl al] [SO F th ah] : SE F (tSl r te tl th) (aSl ar ae al ah) where
  snd := fun Z ρ σ H Φ Q o q k => by
    refine SE.snd (F := F) (te := te) (ae := ae) Z ρ σ H _ _ o q fun x ax H1 Z1 q1 s1 r1 => ?_
    refine SO.snd (F := F) (te := tl) (ae := al) Z1 ρ σ H1 _ _ (o.step s1) q1 fun lo H2 Z2 q2 s2 => ?_
    refine SO.snd (F := F) (te := th) (ae := ah) Z2 ρ σ H2 _ _ ((o.step s1).step s2) q2 fun hi H3 Z3 q3 s3 => ?_
    have s13 := (s1.trans o.row s2).trans o.row s3
    exact SL.snd (F := F) (r := r) (ar := ar) Z3 ρ σ H H3 x lo hi ax _ _ (o.step s13) ((r1.step s2).step s3) q3 fun v av H4 Z4 q4 s4 r4 => k v av H4 Z4 q4 (s13.trans o.row s4) (r4.back s13)
theorem cut_all {H : Hp} : ∀ {vs : List V} {xs : List PyData}, DpAll K H vs xs → ∀ n, DpAll K H (vs.drop n) (xs.drop n)
  | _, _, h, 0 => h
  | _, _, .nil, n + 1 => .nil
  | _, _, .cons _ t, n + 1 => cut_all t n
theorem take_all {H : Hp} : ∀ {vs : List V} {xs : List PyData}, DpAll K H vs xs → ∀ n, DpAll K H (vs.take n) (xs.take n)
  | _, _, h, 0 => .nil
  | _, _, .nil, n + 1 => .nil
  | _, _, .cons r t, n + 1 => .cons r (take_all t n)
theorem cutP_all {H : Hp} {vs : List V} {xs : List PyData} {lo hi : Option Int} (h : DpAll K H vs xs) : DpAll K H (cutV vs lo hi) (cutP xs lo hi) := by
  unfold cutV cutP
  rw [dpAll_len h]
  exact take_all (cut_all h _) _
theorem immAll_sub {xs ys : List PyData} (h : immAll xs = true) (m : ∀ y ∈ ys, y ∈ xs) : immAll ys = true := imm_all.mpr fun y hy => imm_all.mp h y (m y hy)
theorem cutP_mem {xs : List PyData} {lo hi : Option Int} : ∀ y ∈ cutP xs lo hi, y ∈ xs := fun y h => List.mem_of_mem_drop (List.mem_of_mem_take h)
instance : SL F (rSlA K) aSlT where
  snd := fun Z ρ σ He H x lo hi ax Φ Q o rx ⟨xs, e, q⟩ k => by
    subst e
    obtain ⟨i, d⟩ := rx
    cases d with
    | tup q1 a1 =>
    refine rSl q1 fun p H2 s2 h2 => ?_
    exact k _ _ H2 Z q (step_same o s2) ⟨tup_imm (immAll_sub (imm_tup i) cutP_mem), L2.Dp.tup h2 (DpAll.imm s2 (cutP_all a1))⟩
instance : SL F (rSlL K) aSlL where
  snd := fun Z ρ σ He H x lo hi ax Φ Q o rx q k => by
    rcases q with ⟨f, xs, e, q⟩ | ⟨xs, e, q⟩
    · subst e
      obtain ⟨p1, v1, rfl, _, _, _, _, h1, a1⟩ := rx
      exact ⟨p1, v1, rfl, SqL.of h1, fun p n => k _ _ _ Z q (Step.new_ o n) (rv_newL o n (cutP_all a1))⟩
    · subst e
      cases (show Dp K (Vw F Z H) x (.list xs) from rx) with
      | lst q1 a1 => exact ⟨_, _, rfl, vw_same.seq q1, fun p n => k _ _ _ Z q (Step.new_ o n) (rv_newL o n (cutP_all a1))⟩
instance : SB F (rLn K) aLen where
  snd := fun Z ρ σ He H xs axs Φ Q o rx ⟨x, ys, e, s, q⟩ k => by
    subst e
    cases rx with
    | cons r t =>
    cases t
    obtain ⟨a, vs, rfl, hq, _, d⟩ := r.items o.row s
    rw [← dpAll_len d] at q
    rcases hq with ⟨_, hq⟩ | ⟨_, hq⟩
    · exact rLnT hq (k _ _ H Z q o.refl (rv_int _))
    · exact rLnL hq (k _ _ H Z q o.refl (rv_int _))
instance : SB F (rTupOf K) aTupOf where
  snd := fun Z ρ σ He H xs axs Φ Q o rx ⟨x, ys, e, s, q⟩ k => by
    subst e
    cases rx with
    | cons r t =>
    cases t
    rcases s with ⟨e, c⟩ | ⟨e, i⟩
    · cases x with
      | d z =>
        cases e
        obtain ⟨i, d⟩ := r
        cases d with
        | tup q1 a1 => exact rTupT q1 (k _ _ H Z q o.refl ⟨i, L2.Dp.tup q1 a1⟩)
      | _ => cases c
    · obtain ⟨a, vs, rfl, hq, _, d⟩ := r.listP o.row e
      refine rTupL hq fun p H2 n s2 h2 => ?_
      exact k _ _ H2 Z q (step_same o s2) ⟨tup_imm i, L2.Dp.tup (SqT.of h2) (DpAll.imm s2 d)⟩
theorem stays_of {Z : Addr → Prop} {He H : Hp} {v : V} {x : AV} {xs : List PyData} (r0 : RowOk K F.ro H) (r : RV F Z He H v x) (s : seqP x.dat = some xs) (c : x.isS = true ∨ ∃ f ys, x = .l f ys) :
    ∃ a vs, v = .ref a ∧ (SqT K H a vs ∨ SqL K H a vs) ∧ DpAll K (Vw F Z H) vs xs := by
  cases x with
  | d z =>
    obtain ⟨a, vs, e, q, d⟩ := seq_items s (imm_vw (Z := Z) r0 r.1 r.2)
    refine ⟨a, vs, e, ?_, d⟩
    rcases q with ⟨_, q⟩ | ⟨_, q⟩
    · exact .inl ((imm_of_same vw_same).sqT q)
    · exact .inr (vw_same.seq q)
  | p z =>
    obtain ⟨a, vs, e, q, d⟩ := seq_items s (show Dp K (Vw F Z H) v z from r)
    refine ⟨a, vs, e, ?_, d⟩
    rcases q with ⟨_, q⟩ | ⟨_, q⟩
    · exact .inl ((imm_of_same vw_same).sqT q)
    · exact .inr (vw_same.seq q)
  | l f ys =>
    cases s
    obtain ⟨p1, v1, e, _, _, _, _, h1, a1⟩ := r
    exact ⟨p1, v1, e, .inr (SqL.of h1), a1⟩
  | t z => rcases c with c | ⟨f, ys, c⟩ <;> cases c
  | row => cases s
  | m P => rcases c with c | ⟨f, ys, c⟩ <;> cases c
instance : SB F (rLstOf K) aLstOf where
  snd := fun Z ρ σ He H xs axs Φ Q o rx ⟨x, ys, e, s, c, q⟩ k => by
    subst e
    cases rx with
    | cons r t =>
    cases t
    obtain ⟨a, vs, rfl, hq, d⟩ := stays_of o.row r s c
    exact ⟨a, vs, rfl, hq.symm, fun p n => k _ _ _ Z q (Step.new_ o n) (rv_newL o n d)⟩
instance : SB F rInt1 aInt1 where
  snd := fun Z ρ σ He H xs axs Φ Q o rx ⟨x, e, q⟩ k => by
    subst e
    cases rx with
    | cons r t =>
    cases t
    rcases q with ⟨i, e, q⟩ | ⟨b, e, q⟩
    · exact .inl ⟨i, congrArg (fun z => [z]) (r.int o.row e), k _ _ H Z q o.refl (rv_int _)⟩
    · exact .inr ⟨b, congrArg (fun z => [z]) (r.bl o.row e), k _ _ H Z q o.refl (rv_int _)⟩
instance : SB F rAbs1 aAbs where
  snd := fun Z ρ σ He H xs axs Φ Q o rx ⟨x, i, e, e1, q⟩ k => by
    subst e
    cases rx with
    | cons r t =>
    cases t
    exact ⟨i, congrArg (fun z => [z]) (r.int o.row e1), k _ _ H Z q o.refl (rv_int _)⟩
instance : SB F rMin4 aMin4 where
  snd := fun Z ρ σ He H xs axs Φ Q o rx ⟨x, y, z, w, a, b, c, e, e0, e1, e2, e3, e4, q⟩ k => by
    subst e0
    cases rx with | cons r1 t =>
    cases t with | cons r2 t =>
    cases t with | cons r3 t =>
    cases t with | cons r4 t =>
    cases t
    have h1 := r1.int o.row e1
    have h2 := r2.int o.row e2
    have h3 := r3.int o.row e3
    have h4 := r4.int o.row e4
    subst h1 h2 h3 h4
    exact ⟨a, b, c, e, rfl, fun m m1 m2 m3 m4 m5 => k _ _ H Z (q m m1 m2 m3 m4 m5) o.refl (rv_int _)⟩
instance : SB F (fun xs H Q => ∃ i j, xs = [V.int i, V.int j] ∧ Q (.int (if j < i then j else i)) H) aMin2 where
  snd := fun Z ρ σ He H xs axs Φ Q o rx ⟨x, y, i, j, e0, e1, e2, q⟩ k => by
    subst e0
    cases rx with | cons r1 t =>
    cases t with | cons r2 t =>
    cases t
    have h1 := r1.int o.row e1
    have h2 := r2.int o.row e2
    subst h1 h2
    exact ⟨i, j, rfl, k _ _ H Z q o.refl (rv_int _)⟩
theorem bools_inv {H : Hp} : ∀ {vs : List V} {bs : List Bool}, DpAll K H vs (bs.map PyData.bool) → vs = bs.map V.bl
  | _, [], .nil => rfl
  | _, b :: bs, .cons h t => by rw [dp_bl h, bools_inv t]; rfl
theorem strs_inv {H : Hp} : ∀ {vs : List V} {bs : List Str}, DpAll K H vs (bs.map PyData.str) → vs = bs.map V.str
  | _, [], .nil => rfl
  | _, b :: bs, .cons h t => by rw [dp_str h, strs_inv t]; rfl
theorem strs_dp {H : Hp} : ∀ (bs : List Str), DpAll K H (bs.map V.str) (bs.map PyData.str)
  | [] => .nil
  | b :: bs => .cons (.str b) (strs_dp bs)
instance : SB F (rAll K) aAll where
  snd := fun Z ρ σ He H xs axs Φ Q o rx ⟨x, bs, e, e1, q⟩ k => by
    subst e
    cases rx with | cons r t =>
    cases t
    obtain ⟨a, vs, rfl, hq, _, d⟩ := r.listP o.row e1
    rw [bools_inv d] at hq
    exact ⟨a, bs, rfl, hq, k _ _ H Z q o.refl (rv_bl _)⟩
instance : SB F (rAny K) aAny where
  snd := fun Z ρ σ He H xs axs Φ Q o rx ⟨x, bs, e, e1, q⟩ k => by
    subst e
    cases rx with | cons r t =>
    cases t
    obtain ⟨a, vs, rfl, hq, _, d⟩ := r.listP o.row e1
    rw [bools_inv d] at hq
    exact ⟨a, bs, rfl, hq, k _ _ H Z q o.refl (rv_bl _)⟩
instance : SB F (rSortedS K) aSortedS where
  snd := fun Z ρ σ He H xs axs Φ Q o rx ⟨x, bs, e, e1, few, q⟩ k => by
    subst e
    cases rx with | cons r t =>
    cases t
    obtain ⟨a, vs, rfl, hq, _, d⟩ := r.listP o.row e1
    rw [strs_inv d] at hq
    exact ⟨a, bs, rfl, hq, few, fun ys p y1 y2 n => k _ _ _ Z (q ys y1 y2) (Step.new_ o n) (rv_newL o n (strs_dp ys))⟩
theorem tru_of {H : Hp} {v : V} {x : PyData} {k : Bool} (d : Dp K H v x) (t : truP x k) : TruV K v H k := by
  cases d with
  | non => exact t
  | bl b => exact t
  | int i => exact t
  | str y => exact t
  | lst q a =>
    refine .inl ⟨_, q, ?_⟩
    cases a <;> exact t
  | tup q a =>
    refine .inr (.inl ⟨_, q, ?_⟩)
    cases a <;> exact t
theorem tru_row {av : AV} {k : Bool} (t : truP av.dat k) : av.opq = false := by cases av <;> first | rfl | exact t.elim
instance {te : TE} {ae : AE} [SE F te ae] : ST F (tTr K te) (aTr ae) where
  snd := fun Z ρ σ H Φ Q o q k => by
    refine SE.snd (F := F) (te := te) (ae := ae) Z ρ σ H _ _ o q fun x ax H1 Z1 q1 s1 r1 => ?_
    obtain ⟨b, t, q1⟩ := q1
    exact ⟨b, tru_of (r1.dp (o.step s1).row (tru_row t)) t, k _ H1 Z1 q1 s1⟩
instance {ta tb : TE} {aa ab : AE} [SE F ta aa] [SE F tb ab] : SE F (tOrT K ta tb) (aOrT aa ab) where
  snd := fun Z ρ σ H Φ Q o q k => by
    refine SE.snd (F := F) (te := ta) (ae := aa) Z ρ σ H _ _ o q fun x ax H1 Z1 q1 s1 r1 => ?_
    obtain ⟨c, t, q1⟩ := q1
    refine ⟨c, tru_of (r1.dp (o.step s1).row (tru_row t)) t, ?_⟩
    cases c with
    | false =>
      rw [if_neg Bool.false_ne_true] at q1 ⊢
      exact SE.snd (F := F) (te := tb) (ae := ab) Z1 ρ σ H1 _ _ (o.step s1) q1 fun x ax H2 Z2 q2 s2 r2 => k x ax H2 Z2 q2 (s1.trans o.row s2) (r2.back s1)
    | true =>
      rw [if_pos rfl] at q1 ⊢
      exact k _ _ H1 Z1 q1 s1 r1
instance {ta tb : TE} {aa ab : AE} [SE F ta aa] [SE F tb ab] : SE F (tAndT K ta tb) (aAndT aa ab) where
  snd := fun Z ρ σ H Φ Q o q k => by
    refine SE.snd (F := F) (te := ta) (ae := aa) Z ρ σ H _ _ o q fun x ax H1 Z1 q1 s1 r1 => ?_
    obtain ⟨c, t, q1⟩ := q1
    refine ⟨c, tru_of (r1.dp (o.step s1).row (tru_row t)) t, ?_⟩
    cases c with
    | true =>
      rw [if_pos rfl] at q1 ⊢
      exact SE.snd (F := F) (te := tb) (ae := ab) Z1 ρ σ H1 _ _ (o.step s1) q1 fun x ax H2 Z2 q2 s2 r2 => k x ax H2 Z2 q2 (s1.trans o.row s2) (r2.back s1)
    | false =>
      rw [if_neg Bool.false_ne_true] at q1 ⊢
      exact k _ _ H1 Z1 q1 s1 r1
instance {ta : TE} {aa : AE} [SE F ta aa] : SE F (tNotT K ta) (aNotT aa) where
  snd := fun Z ρ σ H Φ Q o q k => by
    refine SE.snd (F := F) (te := ta) (ae := aa) Z ρ σ H _ _ o q fun x ax H1 Z1 q1 s1 r1 => ?_
    obtain ⟨c, t, q1⟩ := q1
    exact ⟨c, tru_of (r1.dp (o.step s1).row (tru_row t)) t, k _ _ H1 Z1 q1 s1 (rv_bl _)⟩
end

def AV.own : AV → Option AV
  | .d x => some (.d x) | .p x => some (.p x) | .l true xs => some (.l false xs) | _ => none
def AV.ret : AV → Option AV
  | .d x => some (.d x)
  | .p x => if imm x then some (.d x) else none
  | .t x => if imm x then some (.d x) else none
  | .l _ xs => if immAll xs then some (.l true xs) else none
  | .row => none
  | .m _ => none
def pdv (e : PyData) : AV := if imm e then .d e else .p e
def fzS (ρ : Rho) (i : Nat) : Rho := match ρ[i]? with
  | some (some (.l false xs)) => ρ.set i (some (.p (.list xs)))
  | _ => ρ
def fz (ρ : Rho) : List Nat → Rho
  | [] => ρ
  | i :: is => fz (fzS ρ i) is
def wipeR (ρ : Rho) : List Nat → Rho
  | [] => ρ
  | v :: vs => (wipeR ρ vs).set v none
theorem wipeR_len (ρ : Rho) : ∀ vs, (wipeR ρ vs).length = ρ.length
  | [] => rfl
  | v :: vs => by unfold wipeR; rw [List.length_set, wipeR_len]
theorem wipeR_some {ρ : Rho} {i : Nat} {x : AV} : ∀ {vs : List Nat}, (wipeR ρ vs)[i]? = some (some x) → ρ[i]? = some (some x) ∧ i ∉ vs
  | [], h => ⟨h, by simp⟩
  | v :: vs, h => by
    unfold wipeR at h
    rw [List.getElem?_set] at h
    by_cases e : v = i
    · rw [if_pos e] at h
      split at h <;> cases h
    · rw [if_neg e] at h
      obtain ⟨h1, h2⟩ := wipeR_some h
      exact ⟨h1, fun m => (List.mem_cons.mp m).elim (fun q => e q.symm) h2⟩
theorem wipe_in {σ : L2.St} {j : Nat} : ∀ {vs : List Nat}, j ∈ vs → (wipe σ vs)[j]? = if j < σ.length then some none else none
  | v :: vs, h => by
    unfold wipe
    rw [List.getElem?_set]
    by_cases e : v = j
    · rw [if_pos e, wipe_length]
      subst e
      rfl
    · rw [if_neg e]
      rcases List.mem_cons.mp h with q | q
      · exact absurd q.symm e
      · exact wipe_in q
theorem wipe_eq {σ σ2 : L2.St} {vs sl : List Nat} (l : σ2.length = σ.length) (h : ∀ j, j ∉ sl → σ2[j]? = (wipe σ vs)[j]?) (s : ∀ j ∈ sl, j ∈ vs) : wipe σ2 vs = wipe σ vs := by
  refine List.ext_getElem? fun j => ?_
  by_cases m : j ∈ vs
  · rw [wipe_in m, wipe_in m, l]
  · rw [wipe_out m, h j fun q => m (s j q)]
section
variable {K : PySem.W.Frag} {ec : EC} {F : Fr K ec} {Z : Addr → Prop} {ρ : Rho} {σ : L2.St} {H He : Hp} {v : V} {av w : AV}
theorem Ok.wipe (o : Ok F Z ρ σ H) (vs : List Nat) : Ok F Z (wipeR ρ vs) (L2.wipe σ vs) H where
  len := by rw [wipe_length, wipeR_len, o.len]
  eff := o.eff
  row := o.row
  zok := o.zok
  nt := fun i x e => o.nt i x (wipeR_some e).1
  at_ := fun i av e => by
    obtain ⟨e1, e2⟩ := wipeR_some e
    obtain ⟨v, h1, h2⟩ := o.at_ i av e1
    exact ⟨v, by rw [wipe_out e2]; exact h1, h2⟩
  sep := fun i j xs ys n e1 e2 => by
    obtain ⟨h1, m1⟩ := wipeR_some e1
    obtain ⟨h2, m2⟩ := wipeR_some e2
    rw [wipe_out m1, wipe_out m2]
    exact o.sep i j xs ys n h1 h2
theorem Ok.old (o : Ok F Z ρ σ H) : Old ρ σ H := fun i xs e => by
  obtain ⟨v, h1, q, vs, rfl, _, _, _, _, hq, _⟩ := o.at_ i _ e
  exact ⟨q, h1, by rw [hq]; simp⟩
theorem Ok.oldFull (o : Ok F Z ρ σ H) : Old ρ σ Hfull := fun i xs e => by
  obtain ⟨q, h1, _⟩ := o.old i xs e
  exact ⟨q, h1, fun z => nomatch z⟩
theorem get_set {α : Type} {l : List α} {i j : Nat} {a b : α} (h : (l.set i a)[j]? = some b) : (i = j ∧ i < l.length ∧ a = b) ∨ (i ≠ j ∧ l[j]? = some b) := by
  rw [List.getElem?_set] at h
  by_cases e : i = j
  · rw [if_pos e] at h
    by_cases l1 : i < l.length
    · rw [if_pos l1] at h; exact .inl ⟨e, l1, Option.some.inj h⟩
    · rw [if_neg l1] at h; cases h
  · rw [if_neg e] at h
    exact .inr ⟨e, h⟩
/-- a value is stored -/
theorem Ok.put (o : Ok F Z ρ σ H) (r : RV F Z He H v av) (old : Old ρ σ He) (ow : av.own = some w) (i : Nat) : Ok F Z (ρ.set i (some w)) (σ.set i (some v)) H := by
  have rw' : RV F Z Hfull H v w := by
    cases av with
    | d x => cases ow; exact r
    | p x => cases ow; exact r
    | l f xs =>
      cases f with
      | true =>
        cases ow
        obtain ⟨q, vs, e, n, h0, z, fr, hq, a⟩ := r
        exact ⟨q, vs, e, n, h0, z, (fun z => nomatch z), hq, a⟩
      | false => cases ow
    | _ => cases ow
  -- nobody else's list
  have fresh : ∀ xs, w = AV.l false xs → ∀ (j : Nat) (ys : List PyData), ρ[j]? = some (some (.l false ys)) → σ[j]? ≠ some (some v) := by
    rintro xs rfl j ys e
    cases av with
    | l f zs =>
      cases f with
      | true =>
        obtain ⟨q, vs, rfl, n, h0, z, fr, hq, a⟩ := r
        obtain ⟨q2, h2, n2⟩ := old j ys e
        intro z
        rw [h2] at z
        cases z
        exact n2 (fr rfl)
      | false => cases ow
    | _ => cases ow
  refine ⟨by rw [List.length_set, List.length_set, o.len], o.eff, o.row, o.zok, fun j x e => ?_, fun j a e => ?_, fun j k xs ys n e1 e2 => ?_⟩
  · rcases get_set e with ⟨_, _, z⟩ | ⟨_, z⟩
    · cases z
      cases av with
      | l f _ => cases f <;> cases ow
      | _ => cases ow
    · exact o.nt j x z
  · rcases get_set e with ⟨rfl, l, z⟩ | ⟨n, z⟩
    · cases z
      exact ⟨v, by rw [List.getElem?_set_self (by rw [o.len]; exact l)], rw'⟩
    · obtain ⟨u, h1, h2⟩ := o.at_ j a z
      exact ⟨u, by rw [List.getElem?_set_ne n]; exact h1, h2⟩
  · rcases get_set e1 with ⟨rfl, l1, z1⟩ | ⟨n1, z1⟩
    · rcases get_set e2 with ⟨e, _, _⟩ | ⟨n2, z2⟩
      · exact absurd e n
      · rw [List.getElem?_set_self (by rw [o.len]; exact l1), List.getElem?_set_ne n2]
        exact fun z => fresh xs (Option.some.inj z1) k ys z2 z.symm
    · rcases get_set e2 with ⟨rfl, l2, z2⟩ | ⟨n2, z2⟩
      · rw [List.getElem?_set_self (by rw [o.len]; exact l2), List.getElem?_set_ne n1]
        exact fun z => fresh ys (Option.some.inj z2) j xs z1 z
      · rw [List.getElem?_set_ne n1, List.getElem?_set_ne n2]
        exact o.sep j k xs ys n z1 z2
theorem row_chg {q r : Addr} {H H' : Hp} (c : Chg q H H') (n : r ≠ q) (h : Row K H r) : Row K H' r := by
  obtain ⟨a, ns, i, m, g, h1, h2, h3⟩ := h
  exact ⟨a, ns, i, m, g, c.2 _ _ n h1, c.1.sqF h2, h3⟩
theorem not_keep {q : Addr} {vs : List V} (h0 : F.H0 q = none) (z : ¬ Z q) (hq : H q = some (.lst vs)) : ¬ keepP F Z H q := by
  rintro ⟨_, h | h | ⟨xs, h⟩ | ⟨o, u, h⟩⟩
  · exact z h
  · exact h h0
  · rw [hq] at h; cases h
  · rw [hq] at h; cases h
theorem vw_upd {q : Addr} {vs vs' : List V} (h0 : F.H0 q = none) (z : ¬ Z q) (hq : H q = some (.lst vs)) : Vw F Z (upd H q (.lst vs')) = Vw F Z H := by
  funext b
  unfold Vw
  by_cases e : b = q
  · subst e
    rw [if_neg (not_keep h0 z upd_same), if_neg (not_keep h0 z hq)]
  · have k : keepP F Z (upd H q (.lst vs')) b ↔ keepP F Z H b := by
      unfold keepP
      rw [upd_ne e]
    by_cases c : keepP F Z H b
    · rw [if_pos c, if_pos (k.mpr c), upd_ne e]
    · rw [if_neg c, if_neg (fun z => c (k.mp z))]
/-- a list of one's own is changed -/
theorem Ok.write (o : Ok F Z ρ σ H) {i : Nat} {xs xs' : List PyData} (e : ρ[i]? = some (some (.l false xs))) {q : Addr} {vs vs' : List V} (es : σ[i]? = some (some (.ref q))) (hq : H q = some (.lst vs)) (d : DpAll K (Vw F Z H) vs' xs') :
    Ok F Z (ρ.set i (some (.l false xs'))) σ (upd H q (.lst vs')) ∧ Vw F Z (upd H q (.lst vs')) = Vw F Z H := by
  obtain ⟨v, h1, q', us, rfl, n, h0, z, fr, hq', a⟩ := o.at_ i _ e
  rw [es] at h1
  cases h1
  have vw : Vw F Z (upd H q (.lst vs')) = Vw F Z H := vw_upd h0 z hq
  have c : Chg q H (upd H q (.lst vs')) := chg_lst hq
  refine ⟨⟨by rw [List.length_set]; exact o.len, ⟨o.eff.1.trans c.1, fun b ob nb h => c.2 b ob (ne_of_none h h0) (o.eff.2 b ob nb h)⟩, fun r hr => row_chg c (fun z => n (by rw [hr, z])) (o.row r hr), fun b hb => ?_, fun j x ej => ?_, fun j av ej => ?_, fun j k ys zs njk e1 e2 => ?_⟩, vw⟩
  · by_cases eb : b = q
    · rw [eb, upd_same]; simp
    · rw [upd_ne eb]; exact o.zok b hb
  · rcases get_set ej with ⟨_, _, w⟩ | ⟨_, w⟩
    · cases w
    · exact o.nt j x w
  · rcases get_set ej with ⟨rfl, l, w⟩ | ⟨nij, w⟩
    · cases w
      exact ⟨_, es, q, vs', rfl, n, h0, z, (fun z => nomatch z), upd_same, by rw [vw]; exact d⟩
    · obtain ⟨u, g1, g2⟩ := o.at_ j av w
      refine ⟨u, g1, ?_⟩
      cases av with
      | d x => exact ⟨g2.1, c.1.dp g2.1 g2.2⟩
      | p x =>
        show Dp K (Vw F Z _) u x
        rw [vw]
        exact g2
      | t x => exact absurd w (o.nt j x)
      | row => exact g2
      | m P => exact ⟨g2.1, by rw [vw]; exact g2.2⟩
      | l f ys =>
        obtain ⟨q2, us2, rfl, n2, h02, z2, fr2, hq2, a2⟩ := g2
        have nf : f = false := by
          cases f with
          | false => rfl
          | true => exact nomatch fr2 rfl
        subst nf
        have ne : q2 ≠ q := fun z => o.sep j i ys xs (Ne.symm nij) w e (by rw [g1, es, z])
        exact ⟨q2, us2, rfl, n2, h02, z2, fr2, by rw [upd_ne ne]; exact hq2, by rw [vw]; exact a2⟩
  · have back : ∀ {m : Nat} {ms : List PyData}, (ρ.set i (some (.l false xs')))[m]? = some (some (.l false ms)) → ∃ ms', ρ[m]? = some (some (.l false ms')) := fun h => by
      rcases get_set h with ⟨rfl, _, _⟩ | ⟨_, w⟩
      · exact ⟨_, e⟩
      · exact ⟨_, w⟩
    obtain ⟨_, b1⟩ := back e1
    obtain ⟨_, b2⟩ := back e2
    exact o.sep j k _ _ njk b1 b2
/-- a list of one's own is from now on only read -/
theorem Ok.freeze1 (o : Ok F Z ρ σ H) (i : Nat) : ∃ Z', Ok F Z' (fzS ρ i) σ H ∧ Same (Vw F Z H) (Vw F Z' H) := by
  unfold fzS
  split
  case h_2 => exact ⟨Z, o, Same.refl _⟩
  case h_1 xs e =>
    obtain ⟨v, h1, q, us, rfl, n, h0, z, fr, hq, a⟩ := o.at_ i _ e
    have kp : ∀ b, keepP F Z H b → keepP F (fun b => Z b ∨ b = q) H b := fun b ⟨k1, k2⟩ => ⟨k1, k2.elim (fun z => .inl (.inl z)) .inr⟩
    have vw : Same (Vw F Z H) (Vw F (fun b => Z b ∨ b = q) H) := fun b ob h => vw_of (kp b (vw_some h).1) (vw_some h).2
    refine ⟨fun b => Z b ∨ b = q, ⟨by rw [List.length_set]; exact o.len, o.eff, o.row, fun b hb => ?_, fun j x ej => ?_, fun j av ej => ?_, fun j k ys zs njk e1 e2 => ?_⟩, vw⟩
    · rcases hb with hb | hb
      · exact o.zok b hb
      · rw [hb, hq]; simp
    · rcases get_set ej with ⟨_, _, w⟩ | ⟨_, w⟩
      · cases w
      · exact o.nt j x w
    · rcases get_set ej with ⟨rfl, l, w⟩ | ⟨nij, w⟩
      · cases w
        refine ⟨_, h1, L2.Dp.lst (SqL.of (vw_of ⟨n, .inl (.inr rfl)⟩ hq)) (DpAll.imm vw a)⟩
      · obtain ⟨u, g1, g2⟩ := o.at_ j av w
        refine ⟨u, g1, ?_⟩
        cases av with
        | d x => exact g2
        | p x => exact Dp.imm vw g2
        | t x => exact absurd w (o.nt j x)
        | row => exact g2
        | m P => exact ⟨g2.1, g2.1 _ _ _ vw g2.2⟩
        | l f ys =>
          obtain ⟨q2, us2, rfl, n2, h02, z2, fr2, hq2, a2⟩ := g2
          have nf : f = false := by
            cases f with
            | false => rfl
            | true => exact nomatch fr2 rfl
          subst nf
          have ne : q2 ≠ q := fun z => o.sep j i ys xs (Ne.symm nij) w e (by rw [g1, h1, z])
          exact ⟨q2, us2, rfl, n2, h02, fun z => z.elim z2 ne, fr2, hq2, DpAll.imm vw a2⟩
    · rcases get_set e1 with ⟨_, _, w⟩ | ⟨_, w1⟩
      · cases w
      · rcases get_set e2 with ⟨_, _, w⟩ | ⟨_, w2⟩
        · cases w
        · exact o.sep j k _ _ njk w1 w2
theorem Ok.freeze : ∀ (is : List Nat) {Z : Addr → Prop} {ρ : Rho}, Ok F Z ρ σ H → ∃ Z', Ok F Z' (fz ρ is) σ H ∧ Same (Vw F Z H) (Vw F Z' H)
  | [], Z, ρ, o => ⟨Z, o, Same.refl _⟩
  | i :: is, Z, ρ, o => by
    obtain ⟨Z1, o1, s1⟩ := o.freeze1 i
    obtain ⟨Z2, o2, s2⟩ := Ok.freeze is o1
    exact ⟨Z2, o2, s1.trans s2⟩
theorem Wants.later {V0 V1 : Hp} {aD : AEnds} {D : Ends} (w : Wants F V0 aD D) (s : Same V0 V1) : Wants F V1 aD D :=
  ⟨fun Z ρ σ H a o s2 => w.nx Z ρ σ H a o (s.trans s2), fun Z ρ σ H a o s2 => w.bk Z ρ σ H a o (s.trans s2), fun Z ρ σ H a o s2 => w.ct Z ρ σ H a o (s.trans s2), w.rt⟩
theorem pdv_rv (r : RowOk K F.ro H) {e : PyData} {u : V} (h : Dp K (Vw F Z H) u e) : RV F Z He H u (pdv e) := rv_pd r h
end
/-! ### targets -/
def aName (i : Nat) : AG := fun av ρ Φ => ∃ w, av.own = some w ∧ Φ (ρ.set i (some w))
def aGNil : List AV → Rho → (Rho → Prop) → Prop := fun avs ρ Φ => avs = [] ∧ Φ ρ
def aGCons (t : AG) (u : List AV → Rho → (Rho → Prop) → Prop) : List AV → Rho → (Rho → Prop) → Prop := fun avs ρ Φ => ∃ a r, avs = a :: r ∧ t a ρ fun ρ' => u r ρ' Φ
def aGTup (n : Nat) (t : List AV → Rho → (Rho → Prop) → Prop) : AG := fun av ρ Φ => ∃ xs, av.dat = .tuple xs ∧ xs.length = n ∧ t (xs.map av.sub) ρ Φ
section
variable {K : PySem.W.Frag} {ec : EC} {F : Fr K ec}
instance (i : Nat) : SG F (gName i) (aName i) [i] where
  snd := fun Z ρ σ He H v av Φ Q o r old ⟨w, ow, q⟩ k =>
    k _ _ q (o.put r old ow i) (fun j n => by rw [List.getElem?_set_ne (by simpa using Ne.symm (fun e => n (by simp [e])))]) (List.length_set ..) fun full B ob j xs e => by
      rcases get_set e with ⟨rfl, _, z⟩ | ⟨n, z⟩
      · cases z
        cases av with
        | l f ys =>
          cases f with
          | true =>
            obtain ⟨q2, vs, e2, n2, h0, z2, fr, _⟩ := r
            exact absurd (fr rfl) (full q2)
          | false => cases ow
        | _ => cases ow
      · obtain ⟨q2, h1, h2⟩ := ob j xs z
        exact ⟨q2, by rw [List.getElem?_set_ne n]; exact h1, h2⟩
instance : SGs F gNil aGNil [] where
  snd := fun Z ρ σ H vs avs Φ Q o r ⟨e, q⟩ k => by
    subst e
    cases r
    exact ⟨rfl, k _ _ q o (fun _ _ => rfl) rfl fun _ h => h⟩
instance {t : TG} {u : TGs} {a : AG} {b} {sl sls : List Nat} [SG F t a sl] [SGs F u b sls] : SGs F (gCons t u) (aGCons a b) (sl ++ sls) where
  snd := fun Z ρ σ H vs avs Φ Q o r ⟨a0, r0, e, q⟩ k => by
    subst e
    cases r with
    | cons h t' =>
    refine ⟨_, _, rfl, SG.snd (F := F) (g := t) (ag := a) (sl := sl) Z ρ σ Hfull H _ a0 _ _ o h o.oldFull q fun ρ1 σ1 q1 o1 k1 l1 b1 => ?_⟩
    exact SGs.snd (F := F) (g := u) (ag := b) (sl := sls) Z ρ1 σ1 H _ r0 _ _ o1 t' q1 fun ρ2 σ2 q2 o2 k2 l2 b2 =>
      k ρ2 σ2 q2 o2 (fun j n => by
        rw [List.mem_append] at n
        rw [k2 j fun z => n (.inr z), k1 j fun z => n (.inl z)]) (l2.trans l1) fun B ob => b2 B (b1 (fun q z => nomatch z) B ob)
theorem paired_subs {Z : Addr → Prop} {H : Hp} {av : AV} : ∀ {vs : List V} {xs : List PyData}, Paired (fun u e => RV F Z Hfull H u (av.sub e)) vs xs → Paired (RV F Z Hfull H) vs (xs.map av.sub)
  | _, _, .nil => .nil
  | _, _, .cons r t => .cons r (paired_subs t)
instance {n : Nat} {t : TGs} {a} {sl : List Nat} [SGs F t a sl] : SG F (gTup K n t) (aGTup n a) sl where
  snd := fun Z ρ σ He H v av Φ Q o r old ⟨xs, e, l, q⟩ k => by
    obtain ⟨ad, vs, rfl, hq, ps, ds⟩ := r.tupP o.row e
    refine ⟨ad, vs, rfl, hq, by rw [paired_len ps]; exact l, ?_⟩
    exact SGs.snd (F := F) (g := t) (ag := a) (sl := sl) Z ρ σ H vs _ _ _ o (paired_subs ps) q fun ρ1 σ1 q1 o1 k1 l1 b1 => k ρ1 σ1 q1 o1 k1 l1 fun _ => b1
end

/-! ### statements -/
def aNext : AS := fun D ρ => D.nx ρ
def aNever : AS := fun _ _ => False
def aBreak : AS := fun D ρ => D.bk ρ
def aCont : AS := fun D ρ => D.ct ρ
def aSeq (a b : AS) : AS := fun D ρ => a { D with nx := b D } ρ
def aAsg (a : AE) (g : AG) : AS := fun D ρ => a ρ fun x => g x ρ D.nx
def aDrop (a : AE) : AS := fun D ρ => a ρ fun _ => D.nx ρ
def aIfS (c : AT) (a b : AS) : AS := fun D ρ => c ρ fun k => if k = true then a D ρ else b D ρ
def aRet (a : AE) : AS := fun D ρ => a ρ fun x => ∃ w, x.ret = some w ∧ D.rt w
def aRetN : AS := fun D _ => D.rt (.d .none)
def aPar (i j : Nat) (a : AA) : AS := fun D ρ => a ρ fun vs => ∃ x y u w, vs = [x, y] ∧ (x.isS = true ∨ y.isS = true) ∧ x.own = some u ∧ y.own = some w ∧ D.nx ((ρ.set i (some u)).set j (some w))
def aAug (i : Nat) (a : AE) (f : Int → Int → Int) : AS := fun D ρ => ∃ av n, ρ[i]? = some (some av) ∧ av.dat = .int n ∧ a ρ fun y => ∃ m, y.dat = .int m ∧ D.nx (ρ.set i (some (.d (.int (f n m)))))
def aApp (i : Nat) (a : AE) : AS := fun D ρ => ∃ xs, ρ[i]? = some (some (.l false xs)) ∧ a ρ fun y => y.isS = true ∧ xs.length ≤ 100000 ∧ D.nx (ρ.set i (some (.l false (xs ++ [y.dat]))))
def aExt (i : Nat) (a : AE) : AS := fun D ρ => ∃ xs, ρ[i]? = some (some (.l false xs)) ∧ a ρ fun y => ∃ f ys, y = .l f ys ∧ xs.length + ys.length ≤ 100000 ∧ D.nx (ρ.set i (some (.l false (xs ++ ys))))
def aPop (i : Nat) (g : AG) : AS := fun D ρ => ∃ xs y, ρ[i]? = some (some (.l false (xs ++ [y]))) ∧ g (pdv y) (ρ.set i (some (.l false xs))) D.nx
def aRevS (i : Nat) : AS := fun D ρ => ∃ xs, ρ[i]? = some (some (.l false xs)) ∧ D.nx (ρ.set i (some (.l false xs.reverse)))
def aClear (i : Nat) : AS := fun D ρ => ∃ xs, ρ[i]? = some (some (.l false xs)) ∧ D.nx (ρ.set i (some (.l false [])))
def aWhile (c : AT) (b : AS) : AS := fun D ρ => ∃ Inv : Nat → Rho → Prop, (∃ m, Inv m ρ) ∧ ∀ m ρ, Inv m ρ → c ρ fun k => if k = true then b { D with nx := fun ρ' => ∃ m', m' < m ∧ Inv m' ρ', ct := fun ρ' => ∃ m', m' < m ∧ Inv m' ρ', bk := D.nx } ρ else D.nx ρ
def aFor (w : AI) (g : AG) (b : AS) : AS := fun D ρ => ∃ fs, w (fz ρ fs) fun c its => c = true ∧ ∃ Inv : Nat → Rho → Prop, Inv 0 (fz ρ fs) ∧
  (∀ i x ρ', its[i]? = some x → Inv i ρ' → g x ρ' fun ρ2 => b { D with nx := Inv (i + 1), ct := Inv (i + 1), bk := D.nx } ρ2) ∧ ∀ ρ', Inv its.length ρ' → D.nx ρ'
def aLc (w : AI) (g : AG) (t : AT) (a : AE) (vs sl : List Nat) : AE := fun ρ Φ => w ρ fun _ its => (∀ j ∈ sl, j ∈ vs) ∧ its.length ≤ 100000 ∧ ∃ P : Nat → List PyData → Prop, P 0 [] ∧
  (∀ i x acc, its[i]? = some x → P i acc → acc.length ≤ i → g x (wipeR ρ vs) fun ρ2 => t ρ2 fun k => if k = true then a ρ2 fun y => y.isS = true ∧ P (i + 1) (acc ++ [y.dat]) else P (i + 1) acc) ∧
  ∀ acc, acc.length ≤ its.length → P its.length acc → Φ (.l true acc)
section
variable {K : PySem.W.Frag} {ec : EC} {F : Fr K ec}
instance : SS F tNext aNext where
  snd := fun Z ρ σ H aD D o q w => w.nx Z ρ σ H q o (Same.refl _)
instance : SS F tNever aNever where
  snd := fun Z ρ σ H aD D o q w => q
instance : SS F tBreak aBreak where
  snd := fun Z ρ σ H aD D o q w => w.bk Z ρ σ H q o (Same.refl _)
instance : SS F tCont aCont where
  snd := fun Z ρ σ H aD D o q w => w.ct Z ρ σ H q o (Same.refl _)
instance {t u : TS} {a b : AS} [SS F t a] [SS F u b] : SS F (tSeq t u) (aSeq a b) where
  snd := fun Z ρ σ H aD D o q w =>
    SS.snd (F := F) (ts := t) (as := a) Z ρ σ H _ { D with nx := u D } o q
      ⟨fun Z1 ρ1 σ1 H1 q1 o1 s1 => SS.snd (F := F) (ts := u) (as := b) Z1 ρ1 σ1 H1 aD D o1 q1 (w.later s1), w.bk, w.ct, w.rt⟩
instance {te : TE} {g : TG} {a : AE} {ag : AG} {sl : List Nat} [SE F te a] [SG F g ag sl] : SS F (tAsg te g) (aAsg a ag) where
  snd := fun Z ρ σ H aD D o q w => by
    refine SE.snd (F := F) (te := te) (ae := a) Z ρ σ H _ _ o q fun x ax H1 Z1 q1 s1 r1 => ?_
    have o1 := o.step s1
    exact SG.snd (F := F) (g := g) (ag := ag) (sl := sl) Z1 ρ σ H H1 x ax _ _ o1 r1 o.old q1 fun ρ2 σ2 q2 o2 _ _ _ => w.nx Z1 ρ2 σ2 H1 q2 o2 s1.vw
instance {te : TE} {a : AE} [SE F te a] : SS F (tDrop te) (aDrop a) where
  snd := fun Z ρ σ H aD D o q w => by
    refine SE.snd (F := F) (te := te) (ae := a) Z ρ σ H _ _ o q fun x ax H1 Z1 q1 s1 r1 => ?_
    exact w.nx Z1 ρ σ H1 q1 (o.step s1) s1.vw
instance {c : TT} {t u : TS} {ac : AT} {a b : AS} [ST F c ac] [SS F t a] [SS F u b] : SS F (tIfS c t u) (aIfS ac a b) where
  snd := fun Z ρ σ H aD D o q w => by
    refine ST.snd (F := F) (te := c) (ae := ac) Z ρ σ H _ _ o q fun k H1 Z1 q1 s1 => ?_
    cases k with
    | true =>
      rw [if_pos rfl] at q1 ⊢
      exact SS.snd (F := F) (ts := t) (as := a) Z1 ρ σ H1 aD D (o.step s1) q1 (w.later s1.vw)
    | false =>
      rw [if_neg Bool.false_ne_true] at q1 ⊢
      exact SS.snd (F := F) (ts := u) (as := b) Z1 ρ σ H1 aD D (o.step s1) q1 (w.later s1.vw)
theorem ret_of {Z : Addr → Prop} {ρ : Rho} {σ : L2.St} {He H : Hp} {v : V} {av w : AV} (o : Ok F Z ρ σ H) (r : RV F Z He H v av) (e : av.ret = some w) : Ret K F.H0 H v w := by
  cases av with
  | d x => cases e; exact r
  | p x =>
    have e : (if imm x = true then some (AV.d x) else none) = some w := e
    by_cases c : imm x = true
    · rw [if_pos c] at e; cases e; exact ⟨c, Dp.imm vw_same r⟩
    · rw [if_neg c] at e; cases e
  | t x =>
    have e : (if imm x = true then some (AV.d x) else none) = some w := e
    by_cases c : imm x = true
    · rw [if_pos c] at e; cases e; exact ⟨c, Dp.imm vt_same r⟩
    · rw [if_neg c] at e; cases e
  | l f xs =>
    have e : (if immAll xs = true then some (AV.l true xs) else none) = some w := e
    by_cases c : immAll xs = true
    · rw [if_pos c] at e; cases e
      obtain ⟨q, vs, rfl, n, h0, z, fr, hq, a⟩ := r
      exact ⟨q, vs, rfl, h0, hq, c, DpAll.imm vw_same a⟩
    · rw [if_neg c] at e; cases e
  | row => cases e
  | m P => cases e
theorem rv_S {Z : Addr → Prop} {He H : Hp} {v : V} {y : AV} (r : RV F Z He H v y) (s : y.isS = true) : RV F Z Hfull H v y := by
  cases y with
  | d _ => exact r
  | p _ => exact r
  | _ => cases s
instance {te : TE} {a : AE} [SE F te a] : SS F (tRet te) (aRet a) where
  snd := fun Z ρ σ H aD D o q w => by
    refine SE.snd (F := F) (te := te) (ae := a) Z ρ σ H _ _ o q fun x ax H1 Z1 ⟨u, e, q1⟩ s1 r1 => ?_
    have o1 := o.step s1
    exact w.rt x u H1 q1 o1.eff o1.row (ret_of o1 r1 e)
instance : SS F tRetN aRetN where
  snd := fun Z ρ σ H aD D o q w => w.rt .non _ H q o.eff o.row ⟨rfl, .non⟩
theorem own_S {av : AV} (h : av.isS = true) : av.own = some av := by
  cases av <;> first | rfl | cases h
instance {i j : Nat} {ta : TA} {a : AA} [SA F ta a] : SS F (tPar i j ta) (aPar i j a) where
  snd := fun Z ρ σ H aD D o q w => by
    refine SA.snd (F := F) (te := ta) (ae := a) Z ρ σ H _ _ o q fun vs avs H1 Z1 ⟨x, y, u, w', e, ss, e1, e2, q1⟩ st r => ?_
    subst e
    cases r with | cons r1 r =>
    cases r with | cons r2 r =>
    cases r
    have o1 := o.step st
    have p1 := o1.put r1 o.old e1 i
    refine ⟨_, _, rfl, w.nx Z1 _ _ H1 q1 ?_ st.vw⟩
    rcases ss with ss | ss
    · refine p1.put r2 ?_ e2 j
      rw [own_S ss] at e1
      cases e1
      intro k xs ek
      rcases get_set ek with ⟨_, _, z⟩ | ⟨n, z⟩
      · cases z
        cases ss
      · obtain ⟨q, g1, g2⟩ := o.old k xs z
        exact ⟨q, by rw [List.getElem?_set_ne n]; exact g1, g2⟩
    · rw [own_S ss] at e2
      cases e2
      exact p1.put (rv_S r2 ss) p1.oldFull (own_S ss) j
instance {i : Nat} {te : TE} {f : Int → Int → Int} {a : AE} [SE F te a] : SS F (tAug i te (ipI f)) (aAug i a f) where
  snd := fun Z ρ σ H aD D o q w => by
    obtain ⟨av, n, e, en, q⟩ := q
    obtain ⟨v, h1, r⟩ := o.at_ i av e
    refine ⟨v, h1, ?_⟩
    have hv := r.int o.row en
    subst hv
    refine SE.snd (F := F) (te := te) (ae := a) Z ρ σ H _ _ o q fun y ay H1 Z1 ⟨m, em, q1⟩ s1 r1 => ?_
    have o1 := o.step s1
    have hy := r1.int o1.row em
    subst hy
    exact ⟨n, m, rfl, rfl, w.nx Z1 _ _ H1 q1 (o1.put (rv_int _) o1.oldFull rfl i) s1.vw⟩
/-- the list at slot i -/
theorem Ok.mine {Z : Addr → Prop} {ρ : Rho} {σ : L2.St} {H : Hp} (o : Ok F Z ρ σ H) {i : Nat} {xs : List PyData} (e : ρ[i]? = some (some (.l false xs))) :
    ∃ q vs, σ[i]? = some (some (.ref q)) ∧ H q = some (.lst vs) ∧ DpAll K (Vw F Z H) vs xs := by
  obtain ⟨v, h1, q, vs, rfl, _, _, _, _, hq, a⟩ := o.at_ i _ e
  exact ⟨q, vs, h1, hq, a⟩
theorem stay1 {Z : Addr → Prop} {He H : Hp} {v : V} {y : AV} (r0 : RowOk K F.ro H) (r : RV F Z He H v y) (s : y.isS = true) : Dp K (Vw F Z H) v y.dat := by
  cases y with
  | d x => exact imm_vw r0 r.1 r.2
  | p x => exact r
  | _ => cases s
instance {i : Nat} {te : TE} {a : AE} [SE F te a] : SS F (tDrop (tBM K "list" rAppend (tVar i) (tCons te tNil))) (aApp i a) where
  snd := fun Z ρ σ H aD D o q w => by
    obtain ⟨xs, e, q⟩ := q
    obtain ⟨p, vs, es, hq, d⟩ := o.mine e
    refine ⟨_, es, rTyL (SqL.of hq) ?_⟩
    refine SE.snd (F := F) (te := te) (ae := a) Z ρ σ H _ _ o q fun y ay H1 Z1 ⟨sy, few, q1⟩ s1 r1 => ?_
    have o1 := o.step s1
    obtain ⟨p', vs1, es1, hq1, d1⟩ := o1.mine e
    rw [es] at es1
    cases es1
    have dy := stay1 o1.row r1 sy
    obtain ⟨ow, vw⟩ := o1.write e es hq1 (dpAll_app d1 (.cons dy .nil))
    exact ⟨p, vs1, y, rfl, rfl, hq1, lt_line (by rw [dpAll_len d1]; exact few), w.nx Z1 _ _ _ q1 ow (by rw [vw]; exact s1.vw)⟩
instance {i : Nat} {te : TE} {a : AE} [SE F te a] : SS F (tDrop (tBM K "list" rExtend (tVar i) (tCons te tNil))) (aExt i a) where
  snd := fun Z ρ σ H aD D o q w => by
    obtain ⟨xs, e, q⟩ := q
    obtain ⟨p, vs, es, hq, d⟩ := o.mine e
    refine ⟨_, es, rTyL (SqL.of hq) ?_⟩
    refine SE.snd (F := F) (te := te) (ae := a) Z ρ σ H _ _ o q fun y ay H1 Z1 ⟨f, ys, ey, few, q1⟩ s1 r1 => ?_
    subst ey
    have o1 := o.step s1
    obtain ⟨p', vs1, es1, hq1, d1⟩ := o1.mine e
    rw [es] at es1
    cases es1
    obtain ⟨p2, us, rfl, _, _, _, _, hq2, d2⟩ := r1
    obtain ⟨ow, vw⟩ := o1.write e es hq1 (dpAll_app d1 d2)
    exact ⟨p, p2, vs1, us, rfl, rfl, hq1, hq2, le_line (by rw [dpAll_len d1, dpAll_len d2]; exact few), w.nx Z1 _ _ _ q1 ow (by rw [vw]; exact s1.vw)⟩
theorem dpAll_snoc {H : Hp} : ∀ {vs : List V} {xs : List PyData} {y : PyData}, DpAll K H vs (xs ++ [y]) → ∃ us u, vs = us ++ [u] ∧ DpAll K H us xs ∧ Dp K H u y
  | _, [], _, .cons r .nil => ⟨[], _, rfl, .nil, r⟩
  | _, x :: xs, y, .cons r t => by
    obtain ⟨us, u, e, a, d⟩ := dpAll_snoc t
    exact ⟨_ :: us, u, by rw [e]; rfl, .cons r a, d⟩
instance {i : Nat} {g : TG} {ag : AG} {sl : List Nat} [SG F g ag sl] : SS F (tAsg (tBM0 K "list" rPop (tVar i)) g) (aPop i ag) where
  snd := fun Z ρ σ H aD D o q w => by
    obtain ⟨xs, y, e, q⟩ := q
    obtain ⟨p, vs, es, hq, d⟩ := o.mine e
    obtain ⟨us, u, rfl, d1, dy⟩ := dpAll_snoc d
    refine ⟨_, es, rTyL (SqL.of hq) ?_⟩
    obtain ⟨ow, vw⟩ := o.write e es hq d1
    refine ⟨p, us ++ [u], u, rfl, rfl, hq, by simp, ?_⟩
    rw [List.dropLast_concat]
    refine SG.snd (F := F) (g := g) (ag := ag) (sl := sl) Z _ σ Hfull _ u _ _ _ ow (pdv_rv ow.row (by rw [vw]; exact dy)) ow.oldFull q fun ρ2 σ2 q2 o2 _ _ _ => w.nx Z ρ2 σ2 _ q2 o2 (by rw [vw]; exact Same.refl _)
theorem dpAll_rev {H : Hp} {vs : List V} {xs : List PyData} (h : DpAll K H vs xs) : DpAll K H vs.reverse xs.reverse := by
  have : ∀ {vs : List V} {xs : List PyData}, DpAll K H vs xs → DpAll K H vs.reverse xs.reverse := by
    intro vs xs
    induction vs generalizing xs with
    | nil => intro h; cases h; exact .nil
    | cons v vs ih =>
      intro h
      cases h with
      | cons r t =>
        rw [List.reverse_cons, List.reverse_cons]
        exact dpAll_app (ih t) (.cons r .nil)
  exact this h
instance {i : Nat} : SS F (tDrop (tBM0 K "list" rReverse (tVar i))) (aRevS i) where
  snd := fun Z ρ σ H aD D o q w => by
    obtain ⟨xs, e, q⟩ := q
    obtain ⟨p, vs, es, hq, d⟩ := o.mine e
    refine ⟨_, es, rTyL (SqL.of hq) ?_⟩
    obtain ⟨ow, vw⟩ := o.write e es hq (dpAll_rev d)
    exact ⟨p, vs, rfl, rfl, hq, w.nx Z _ _ _ q ow (by rw [vw]; exact Same.refl _)⟩
instance {i : Nat} : SS F (tDrop (tBM0 K "list" rClear (tVar i))) (aClear i) where
  snd := fun Z ρ σ H aD D o q w => by
    obtain ⟨xs, e, q⟩ := q
    obtain ⟨p, vs, es, hq, d⟩ := o.mine e
    refine ⟨_, es, rTyL (SqL.of hq) ?_⟩
    obtain ⟨ow, vw⟩ := o.write (vs' := []) (xs' := []) e es hq .nil
    exact ⟨p, vs, rfl, rfl, hq, w.nx Z _ _ _ q ow (by rw [vw]; exact Same.refl _)⟩
instance {c : TT} {b : TS} {ac : AT} {ab : AS} [ST F c ac] [SS F b ab] : SS F (tWhile c b) (aWhile ac ab) where
  snd := fun Z0 ρ0 σ0 H0 aD D o0 q w => by
    obtain ⟨Inv, ⟨m0, i0⟩, turn⟩ := q
    refine ⟨fun m σ H => ∃ Z ρ, Inv m ρ ∧ Ok F Z ρ σ H ∧ Same (Vw F Z0 H0) (Vw F Z H), ⟨m0, Z0, ρ0, i0, o0, Same.refl _⟩, ?_⟩
    rintro m σ H ⟨Z, ρ, iv, o, sm⟩
    refine ST.snd (F := F) (te := c) (ae := ac) Z ρ σ H _ _ o (turn m ρ iv) fun k H1 Z1 q1 s1 => ?_
    have o1 := o.step s1
    have sm1 := sm.trans s1.vw
    cases k with
    | false =>
      rw [if_neg Bool.false_ne_true] at q1 ⊢
      exact w.nx Z1 ρ σ H1 q1 o1 sm1
    | true =>
      rw [if_pos rfl] at q1 ⊢
      refine ⟨fun σ' H' => ∃ m', m' < m ∧ ∃ Z ρ, Inv m' ρ ∧ Ok F Z ρ σ' H' ∧ Same (Vw F Z0 H0) (Vw F Z H'), fun σ' H' ⟨m', h1, z⟩ => ⟨m', h1, z⟩, ?_⟩
      refine SS.snd (F := F) (ts := b) (as := ab) Z1 ρ σ H1 _ _ o1 q1 ⟨?_, ?_, ?_, w.rt⟩
      · rintro Z2 ρ2 σ2 H2 ⟨m', h1, iv2⟩ o2 s2
        exact ⟨m', h1, Z2, ρ2, iv2, o2, sm1.trans s2⟩
      · intro Z2 ρ2 σ2 H2 q2 o2 s2
        exact w.nx Z2 ρ2 σ2 H2 q2 o2 (sm1.trans s2)
      · rintro Z2 ρ2 σ2 H2 ⟨m', h1, iv2⟩ o2 s2
        exact ⟨m', h1, Z2, ρ2, iv2, o2, sm1.trans s2⟩
instance {wi : TI} {g : TG} {b : TS} {ai : AI} {ag : AG} {sl : List Nat} {ab : AS} [SI F wi ai] [SG F g ag sl] [SS F b ab] : SS F (tFor wi g b) (aFor ai ag ab) where
  snd := fun Z ρ σ H aD D o q w => by
    obtain ⟨fs, q⟩ := q
    obtain ⟨Z0, o0, sm0⟩ := o.freeze fs
    refine SI.snd (F := F) (wi := wi) (ai := ai) Z0 _ σ H _ _ o0 q fun J c its G H1 Z1 q1 s1 wk => ?_
    obtain ⟨rfl, Inv, i0, turn, fin⟩ := q1
    have smA := sm0.trans s1.vw
    refine ⟨fun i m σ H => m = its.length - i ∧ i ≤ its.length ∧ ∃ Z ρ, Inv i ρ ∧ Ok F Z ρ σ H ∧ Same (Vw F Z1 H1) (Vw F Z H), ⟨_, rfl, Nat.zero_le _, Z1, _, i0, o0.step s1, Same.refl _⟩, ?_⟩
    rintro i m σ2 H2 ⟨rfl, hi, Z2, ρ2, iv, o2, sm⟩
    have gg := wk.loop rfl Z2 H2 sm
    rcases Nat.lt_or_ge i its.length with lt | ge
    · refine .inr ⟨wk.goes i H2 lt gg, fun σ H => ∃ Z ρ, Inv (i + 1) ρ ∧ Ok F Z ρ σ H ∧ Same (Vw F Z1 H1) (Vw F Z H), fun σ' H' z => ⟨its.length - (i + 1), by omega, rfl, lt, z⟩, fun x H3 y => ?_⟩
      obtain ⟨av, ea, s3, r3⟩ := wk.yields i Z2 ρ2 σ2 H2 x H3 lt gg o2 (.inr sm) y
      have o3 := o2.step s3
      have sm3 := sm.trans s3.vw
      refine SG.snd (F := F) (g := g) (ag := ag) (sl := sl) Z2 ρ2 σ2 Hfull H3 x av _ _ o3 r3 o3.oldFull (turn i av ρ2 ea iv) fun ρ4 σ4 q4 o4 _ _ _ => ?_
      refine SS.snd (F := F) (ts := b) (as := ab) Z2 ρ4 σ4 H3 _ _ o4 q4 ⟨?_, ?_, ?_, w.rt⟩
      · intro Z5 ρ5 σ5 H5 q5 o5 s5
        exact ⟨Z5, ρ5, q5, o5, sm3.trans s5⟩
      · intro Z5 ρ5 σ5 H5 q5 o5 s5
        exact w.nx Z5 ρ5 σ5 H5 q5 o5 (smA.trans (sm3.trans s5))
      · intro Z5 ρ5 σ5 H5 q5 o5 s5
        exact ⟨Z5, ρ5, q5, o5, sm3.trans s5⟩
    · have e : i = its.length := by omega
      subst e
      exact .inl ⟨wk.stops H2 gg, w.nx Z2 ρ2 σ2 H2 (fin ρ2 iv) o2 (smA.trans sm)⟩
/-- behind the loop's new list -/
theorem Step.held {Z1 Z2 : Addr → Prop} {H1 H2 : Hp} {D : Addr} {vs vs' : List V} (s : Step F Z1 H1 Z2 H2) (n : H1 D = none) (z : ¬ Z2 D) (h0 : F.H0 D = none) (nr : F.ro ≠ some D) (h : H2 D = some (.lst vs)) :
    Step F Z1 H1 Z2 (upd H2 D (.lst vs')) ∧ Vw F Z2 (upd H2 D (.lst vs')) = Vw F Z2 H2 := by
  have c : Chg D H2 (upd H2 D (.lst vs')) := chg_lst h
  refine ⟨⟨⟨s.eff.1.trans c.1, fun b o nb e => c.2 b o (ne_of_none e n) (s.eff.2 b o nb e)⟩, fun r e => row_chg c (fun q => nr (by rw [e, q])) (s.row r e), s.big, s.new, fun b hb => ?_⟩, vw_upd h0 z h⟩
  by_cases e : b = D
  · rw [e, upd_same]; simp
  · rw [upd_ne e]; exact s.zok b hb
instance {wi : TI} {g : TG} {tt : TT} {te : TE} {vs : List Nat} {ai : AI} {ag : AG} {sl : List Nat} {at' : AT} {ae : AE} [SI F wi ai] [SG F g ag sl] [ST F tt at'] [SE F te ae] : SE F (tLc wi g tt te vs) (aLc ai ag at' ae vs sl) where
  snd := fun Z ρ σ H Φ Q o q k => by
    refine SI.snd (F := F) (wi := wi) (ai := ai) Z ρ σ H _ _ o q fun J c its G H1 Z1 q1 s1 wk => ?_
    obtain ⟨sub, few, P, p0, turn, fin⟩ := q1
    intro D nD
    have o1 := o.step s1
    have h0 := h0_free o1 nD
    have nr := row_ne o1 nD
    have sD : Step F Z1 H1 Z1 (upd H1 D (.lst [])) := Step.new_ o1 nD
    refine ⟨fun i m H => m = its.length - i ∧ i ≤ its.length ∧ ∃ Z acc us, P i acc ∧ Step F Z1 H1 Z H ∧ ¬ Z D ∧ H D = some (.lst us) ∧ DpAll K (Vw F Z H) us acc ∧ acc.length ≤ i,
      ⟨_, rfl, Nat.zero_le _, Z1, [], [], p0, sD, z_free o1 nD, upd_same, .nil, Nat.le_refl _⟩, ?_⟩
    rintro i m H2 ⟨rfl, hi, Z2, acc, us, pi, s2, z2, hD, da, la⟩
    have gg := wk.calm Z2 H2 s2
    have s02 := s1.trans o.row s2
    rcases Nat.lt_or_ge i its.length with lt | ge
    · refine .inr ⟨wk.goes i H2 lt gg, fun H => ∃ Z acc us, P (i + 1) acc ∧ Step F Z1 H1 Z H ∧ ¬ Z D ∧ H D = some (.lst us) ∧ DpAll K (Vw F Z H) us acc ∧ acc.length ≤ i + 1, fun H' z => ⟨its.length - (i + 1), by omega, rfl, lt, z⟩, fun x H3 y => ?_⟩
      obtain ⟨av, ea, s3, r3⟩ := wk.yields i Z2 ρ σ H2 x H3 lt gg (o.step s02) (.inl s2) y
      have o3 := ((o.step s02).step s3).wipe vs
      refine SG.snd (F := F) (g := g) (ag := ag) (sl := sl) Z2 _ _ Hfull H3 x av _ _ o3 r3 o3.oldFull (turn i av acc ea pi la) fun ρ4 σ4 q4 o4 k4 l4 _ => ?_
      refine ⟨wipe_eq (by rw [l4, wipe_length]) k4 sub, ?_⟩
      refine ST.snd (F := F) (te := tt) (ae := at') Z2 ρ4 σ4 H3 _ _ o4 q4 fun kk H5 Z5 q5 s5 => ?_
      have o5 := o4.step s5
      have s25 := s3.trans (o.step s02).row s5
      have keepD : ∀ {Zn : Addr → Prop} {Hn : Hp}, Step F Z2 H2 Zn Hn → Hn D = some (.lst us) ∧ ¬ Zn D ∧ DpAll K (Vw F Zn Hn) us acc := fun sn =>
        ⟨sn.eff.2 _ _ nr hD, fun zz => (sn.new D zz).elim z2 fun e => (by rw [hD] at e; exact (nomatch e)), DpAll.imm sn.vw da⟩
      cases kk with
      | false =>
        rw [if_neg Bool.false_ne_true] at q5 ⊢
        obtain ⟨d1, d2, d3⟩ := keepD s25
        exact ⟨Z5, acc, us, q5, s2.trans o1.row s25, d2, d1, d3, Nat.le_succ_of_le la⟩
      | true =>
        rw [if_pos rfl] at q5 ⊢
        refine SE.snd (F := F) (te := te) (ae := ae) Z5 ρ4 σ4 H5 _ _ o5 q5 fun y ay H6 Z6 ⟨sy, q6⟩ s6 r6 => ?_
        have s26 := s25.trans (o.step s02).row s6
        obtain ⟨d1, d2, d3⟩ := keepD s26
        have o6 := o5.step s6
        obtain ⟨sh, vw⟩ := Step.held (vs' := us ++ [y]) (s2.trans o1.row s26) nD d2 h0 nr d1
        refine ⟨us, d1, lt_line (by rw [dpAll_len d3]; omega), Z6, acc ++ [ay.dat], us ++ [y], q6, sh, d2, upd_same, ?_, by rw [List.length_append]; exact Nat.succ_le_succ la⟩
        rw [vw]
        exact dpAll_app d3 (.cons (stay1 o6.row r6 sy) .nil)
    · have e : i = its.length := by omega
      subst e
      refine .inl ⟨wk.stops H2 gg, k _ _ H2 Z2 (fin acc la pi) s02 ⟨D, us, rfl, nr, h0, z2, fun _ => s1.older nD, hD, da⟩⟩
end

/-! ### what is walked -/
def itT : AV → Option (List PyData)
  | .d (.tuple xs) => some xs | .p (.tuple xs) => some xs | _ => none
def itL : AV → Option (Bool × List PyData)
  | .p (.list xs) => some (true, xs) | .l f xs => some (f, xs) | _ => none
def aITup (a : AE) : AI := fun ρ Φ => a ρ fun x => ∃ xs, itT x = some xs ∧ Φ true (xs.map x.sub)
def aIList (a : AE) : AI := fun ρ Φ => a ρ fun x => ∃ c xs, itL x = some (c, xs) ∧ Φ c (xs.map pdv)
def aRng1 (a : AA) : AI := fun ρ Φ => a ρ fun vs => ∃ x j, vs = [x] ∧ x.dat = .int j ∧ -(2 ^ 62) ≤ j ∧ j < 2 ^ 62 ∧ Φ true ((List.range j.toNat).map fun (i : Nat) => AV.d (.int (i : Int)))
def aRng2 (a : AA) : AI := fun ρ Φ => a ρ fun vs => ∃ x y i j, vs = [x, y] ∧ x.dat = .int i ∧ y.dat = .int j ∧ (-(2 ^ 62) ≤ i ∧ i < 2 ^ 62 ∧ -(2 ^ 62) ≤ j ∧ j < 2 ^ 62) ∧ Φ true ((List.range (j - i).toNat).map fun (k : Nat) => AV.d (.int (i + (k : Int))))
def enumP (f : PyData → AV) : Nat → List PyData → List AV
  | _, [] => []
  | i, x :: xs => mkT [.d (.int i), f x] :: enumP f (i + 1) xs
def aEnumT (a : AA) : AI := fun ρ Φ => a ρ fun vs => ∃ x xs, vs = [x] ∧ itT x = some xs ∧ Φ true (enumP x.sub 0 xs)
def aEnumL (a : AA) : AI := fun ρ Φ => a ρ fun vs => ∃ x c xs, vs = [x] ∧ itL x = some (c, xs) ∧ Φ c (enumP pdv 0 xs)
def zipP (f g : PyData → AV) (xs ys : List PyData) : List AV := List.zipWith (fun x y => mkT [f x, g y]) xs ys
def aZip (a : AA) : AI := fun ρ Φ => a ρ fun vs => ∃ x y, vs = [x, y] ∧ ((∃ xs ys, itT x = some xs ∧ itT y = some ys ∧ Φ true (zipP x.sub y.sub xs ys)) ∨ ∃ xs ys, x = .p (.list xs) ∧ y = .p (.list ys) ∧ Φ true (zipP pdv pdv xs ys))
def aRevI (a : AE) : AI := fun ρ Φ => a ρ fun x => (∃ xs, itT x = some xs ∧ Φ true (xs.reverse.map x.sub)) ∨ ∃ c xs, itL x = some (c, xs) ∧ Φ c (xs.reverse.map pdv)
section
variable {K : PySem.W.Frag} {ec : EC} {F : Fr K ec}
theorem vw_both {Z1 Z : Addr → Prop} {H1 H : Hp} (h : Step F Z1 H1 Z H ∨ Same (Vw F Z1 H1) (Vw F Z H)) : Same (Vw F Z1 H1) (Vw F Z H) := h.elim Step.vw id
theorem paired_of {α β : Type} {R : α → β → Prop} : ∀ {l : List α} {m : List β}, l.length = m.length → (∀ (i : Nat) (x : α) (y : β), l[i]? = some x → m[i]? = some y → R x y) → Paired R l m
  | [], [], _, _ => .nil
  | x :: l, y :: m, h, f => .cons (f 0 x y rfl rfl) (paired_of (Nat.succ.inj h) fun i a b e1 e2 => f (i + 1) a b e1 e2)
  | [], _ :: _, h, _ => by simp at h
  | _ :: _, [], h, _ => by simp at h
theorem dpAll_at {H : Hp} : ∀ {vs : List V} {xs : List PyData} {i : Nat} {v : V}, DpAll K H vs xs → vs[i]? = some v → ∃ e, xs[i]? = some e ∧ Dp K H v e
  | _, _, 0, _, .cons h _, e => by cases Option.some.inj e; exact ⟨_, rfl, h⟩
  | _, _, i + 1, _, .cons _ t, e => dpAll_at (i := i) t e
  | _, _, _, _, .nil, e => by simp at e
/-- a tuple that is walked -/
theorem itT_of {Z : Addr → Prop} {He H : Hp} {v : V} {x : AV} {xs : List PyData} (r0 : RowOk K F.ro H) (r : RV F Z He H v x) (e : itT x = some xs) :
    ∃ a vs, v = .ref a ∧ SqT K (Vw F Z H) a vs ∧ DpAll K (Vw F Z H) vs xs ∧ ∀ (Z' : Addr → Prop) (H' : Hp), Same (Vw F Z H) (Vw F Z' H') → ∀ (i : Nat) (u : V), vs[i]? = some u → ∃ y, xs[i]? = some y ∧ RV F Z' Hfull H' u (x.sub y) := by
  have main : ∀ z, z = PyData.tuple xs → Dp K (Vw F Z H) v z → ∃ a vs, v = .ref a ∧ SqT K (Vw F Z H) a vs ∧ DpAll K (Vw F Z H) vs xs := by
    intro z ez d
    subst ez
    cases d with
    | tup q a => exact ⟨_, _, rfl, q, a⟩
  cases x with
  | d z =>
    cases z with
    | tuple zs =>
      cases e
      obtain ⟨a, vs, e1, q, d⟩ := main _ rfl (imm_vw (Z := Z) r0 r.1 r.2)
      refine ⟨a, vs, e1, q, d, fun Z' H' s i u hu => ?_⟩
      obtain ⟨y, hy, dy⟩ := dpAll_at (DpAll.imm s d) hu
      exact ⟨y, hy, imm_all.mp (imm_tup r.1) y (List.mem_of_getElem? hy), Dp.imm vw_same dy⟩
    | _ => cases e
  | p z =>
    cases z with
    | tuple zs =>
      cases e
      obtain ⟨a, vs, e1, q, d⟩ := main _ rfl r
      refine ⟨a, vs, e1, q, d, fun Z' H' s i u hu => ?_⟩
      obtain ⟨y, hy, dy⟩ := dpAll_at (DpAll.imm s d) hu
      exact ⟨y, hy, by
        rw [sub_p]
        by_cases c : imm y = true
        · rw [if_pos c]; exact ⟨c, Dp.imm vw_same dy⟩
        · rw [if_neg c]; exact dy⟩
    | _ => cases e
  | _ => cases e
/-- a list that is walked: where it is a fresh one, nobody writes it from now on -/
theorem itL_of {Z : Addr → Prop} {ρ : Rho} {σ : L2.St} {He H : Hp} {v : V} {x : AV} {c : Bool} {xs : List PyData} (o : Ok F Z ρ σ H) (r : RV F Z He H v x) (e : itL x = some (c, xs)) (fr : ∀ q, He q = none → H q ≠ none → ∀ (i : Nat) ys, ρ[i]? = some (some (.l false ys)) → σ[i]? ≠ some (some (.ref q))) :
    ∃ a vs Z', v = .ref a ∧ SqL K H a vs ∧ Ok F Z' ρ σ H ∧ (∀ b, Z b → Z' b) ∧ (∀ b, Z' b → Z b ∨ He b = none) ∧ Same (Vw F Z H) (Vw F Z' H) ∧ DpAll K (Vw F Z' H) vs xs ∧ (c = true → SqL K (Vw F Z' H) a vs) ∧
      (F.ro ≠ some a ∨ SqL K (Vw F Z' H) a vs) := by
  cases x with
  | p z =>
    cases z with
    | list zs =>
      cases e
      cases (show Dp K (Vw F Z H) v (.list xs) from r) with
      | lst q a => exact ⟨_, _, Z, rfl, vw_same.seq q, o, fun _ h => h, fun _ h => .inl h, Same.refl _, a, fun _ => q, .inr q⟩
    | _ => cases e
  | l f ys =>
    cases e
    obtain ⟨q, vs, rfl, n, h0, z, fq, hq, a⟩ := r
    cases c with
    | false => exact ⟨q, vs, Z, rfl, SqL.of hq, o, fun _ h => h, fun _ h => .inl h, Same.refl _, a, (fun z => nomatch z), .inl n⟩
    | true =>
      have kp : ∀ b, keepP F Z H b → keepP F (fun b => Z b ∨ b = q) H b := fun b ⟨k1, k2⟩ => ⟨k1, k2.elim (fun z => .inl (.inl z)) .inr⟩
      have vw : Same (Vw F Z H) (Vw F (fun b => Z b ∨ b = q) H) := fun b ob h => vw_of (kp b (vw_some h).1) (vw_some h).2
      have me : SqL K (Vw F (fun b => Z b ∨ b = q) H) q vs := SqL.of (vw_of ⟨n, .inl (.inr rfl)⟩ hq)
      refine ⟨q, vs, fun b => Z b ∨ b = q, rfl, SqL.of hq, ⟨o.len, o.eff, o.row, fun b hb => hb.elim (o.zok b) fun e => by rw [e, hq]; simp, o.nt, fun j av ej => ?_, o.sep⟩, fun _ h => .inl h, fun b h => h.elim .inl fun e => .inr (by rw [e]; exact fq rfl), vw, DpAll.imm vw a, fun _ => me, .inl n⟩
      obtain ⟨u, g1, g2⟩ := o.at_ j av ej
      refine ⟨u, g1, ?_⟩
      cases av with
      | d x => exact g2
      | p x => exact Dp.imm vw g2
      | t x => exact absurd ej (o.nt j x)
      | row => exact g2
      | m P => exact ⟨g2.1, g2.1 _ _ _ vw g2.2⟩
      | l f ys =>
        obtain ⟨q2, us2, rfl, n2, h02, z2, fr2, hq2, a2⟩ := g2
        have nf : f = false := by
          cases f with
          | false => rfl
          | true => exact nomatch fr2 rfl
        subst nf
        have ne : q2 ≠ q := fun z => fr q (fq rfl) (by rw [hq]; simp) j ys ej (by rw [g1, z])
        exact ⟨q2, us2, rfl, n2, h02, fun z => z.elim z2 ne, fr2, hq2, DpAll.imm vw a2⟩
  | _ => cases e
theorem old_fr {ρ : Rho} {σ : L2.St} {He H : Hp} (old : Old ρ σ He) : ∀ q, He q = none → H q ≠ none → ∀ (i : Nat) ys, ρ[i]? = some (some (.l false ys)) → σ[i]? ≠ some (some (.ref q)) := fun q h _ i ys e z => by
  obtain ⟨q2, h1, h2⟩ := old i ys e
  rw [z] at h1
  cases h1
  exact h2 h
theorem pd_at {Z' : Addr → Prop} {H1 H' : Hp} {Z1 : Addr → Prop} {vs : List V} {xs : List PyData} (d : DpAll K (Vw F Z1 H1) vs xs) (s : Same (Vw F Z1 H1) (Vw F Z' H')) (r0 : RowOk K F.ro H') (i : Nat) (u : V) (hu : vs[i]? = some u) : ∃ y, xs[i]? = some y ∧ RV F Z' Hfull H' u (pdv y) := by
  obtain ⟨y, hy, dy⟩ := dpAll_at (DpAll.imm s d) hu
  exact ⟨y, hy, pdv_rv r0 dy⟩
instance {te : TE} {a : AE} [SE F te a] : SI F (iTup K te) (aITup a) where
  snd := fun Z ρ σ H Φ R o q k => by
    refine SE.snd (F := F) (te := te) (ae := a) Z ρ σ H _ _ o q fun x ax H1 Z1 ⟨xs, e, q1⟩ s1 r1 => ?_
    have o1 := o.step s1
    obtain ⟨ad, vs, rfl, hq, d, at_⟩ := itT_of o1.row r1 e
    refine ⟨ad, rfl, ⟨vs, (imm_of_same vw_same).sqT hq⟩, k _ true _ (fun H => SqT K H ad vs) H1 Z1 q1 s1 ⟨?_, ?_, ?_, ?_, ?_⟩⟩
    · exact fun Z H s => (imm_of_same vw_same).sqT ((imm_of_same s.vw).sqT hq)
    · exact fun _ Z H s => (imm_of_same vw_same).sqT ((imm_of_same s).sqT hq)
    · intro i H hi g
      rw [List.length_map, ← dpAll_len d] at hi
      exact ⟨vs, vs[i], g, List.getElem?_eq_getElem hi⟩
    · exact fun H g => ⟨vs, g, by rw [List.length_map, ← dpAll_len d]; exact Nat.le_refl _⟩
    · rintro i Z2 ρ2 σ2 H2 x H' hi g o2 st ⟨rfl, y⟩
      obtain ⟨e0, h0, h1⟩ := at_ Z2 _ (vw_both st) i x (y vs g)
      exact ⟨_, by rw [List.getElem?_map, h0]; rfl, o2.refl, h1⟩
instance {te : TE} {a : AE} [SE F te a] : SI F (iList K te) (aIList a) where
  snd := fun Z ρ σ H Φ R o q k => by
    refine SE.snd (F := F) (te := te) (ae := a) Z ρ σ H _ _ o q fun x ax H1 Z1 ⟨c, xs, e, q1⟩ s1 r1 => ?_
    have o1 := o.step s1
    obtain ⟨ad, vs, Z2, rfl, hq, o2, zb, zn, vw, d, cl, nr⟩ := itL_of o1 r1 e (old_fr o.old)
    have s2 : Step F Z H Z2 H1 := ⟨s1.eff, s1.row, fun b h => zb b (s1.big b h), fun b h => (zn b h).elim (fun z => s1.new b z) .inr, o2.zok⟩
    refine ⟨ad, rfl, ⟨vs, hq⟩, k _ c _ (fun H => SqL K H ad vs) H1 Z2 q1 s2 ⟨?_, ?_, ?_, ?_, ?_⟩⟩
    · intro Z H s
      rcases nr with nr | nr
      · rcases hq with (h | ⟨o, h⟩) | h
        · exact .inl (.inl (s.eff.2 _ _ nr h))
        · exact .inl (.inr ⟨o, s.eff.1.2 _ _ _ h⟩)
        · exact .inr h
      · exact vw_same.seq (s.vw.seq nr)
    · exact fun cc Z H s => vw_same.seq (s.seq (cl cc))
    · intro i H hi g
      rw [List.length_map, ← dpAll_len d] at hi
      exact ⟨vs, vs[i], g, List.getElem?_eq_getElem hi⟩
    · exact fun H g => ⟨vs, g, by rw [List.length_map, ← dpAll_len d]; exact Nat.le_refl _⟩
    · rintro i Z3 ρ3 σ3 H3 x H' hi g o3 st ⟨rfl, y⟩
      obtain ⟨e0, h0, h1⟩ := pd_at d (vw_both st) o3.row i x (y vs g)
      exact ⟨_, by rw [List.getElem?_map, h0]; rfl, o3.refl, h1⟩
instance {ta : TA} {a : AA} [SA F ta a] : SI F (iRng1 ta) (aRng1 a) where
  snd := fun Z ρ σ H Φ R o q k => by
    refine SA.snd (F := F) (te := ta) (ae := a) Z ρ σ H _ _ o q fun x ax H1 Z1 ⟨y, j, e, ej, b1, b2, q1⟩ s1 r1 => ?_
    subst e
    cases r1 with | cons r1 t =>
    cases t
    have o1 := o.step s1
    refine ⟨j, congrArg (fun z => [z]) (r1.int o1.row ej), b1, b2, k _ true _ (fun _ => True) H1 Z1 q1 s1 ⟨fun _ _ _ => trivial, fun _ _ _ _ => trivial, ?_, ?_, ?_⟩⟩
    · intro i H hi _
      rw [List.length_map, List.length_range] at hi
      exact hi
    · intro H _
      show j.toNat ≤ _
      rw [List.length_map, List.length_range]
      exact Nat.le_refl _
    · rintro i Z2 ρ2 σ2 H2 x H' hi g o2 st ⟨rfl, rfl⟩
      rw [List.length_map, List.length_range] at hi
      refine ⟨.d (.int (i : Int)), by rw [List.getElem?_map, List.getElem?_range hi]; rfl, o2.refl, ?_⟩
      rw [Int.zero_add]
      exact rv_int _
instance {ta : TA} {a : AA} [SA F ta a] : SI F (iRng2 ta) (aRng2 a) where
  snd := fun Z ρ σ H Φ R o q k => by
    refine SA.snd (F := F) (te := ta) (ae := a) Z ρ σ H _ _ o q fun x ax H1 Z1 ⟨y, z, i, j, e, ei, ej, b, q1⟩ s1 r1 => ?_
    subst e
    cases r1 with | cons r1 t =>
    cases t with | cons r2 t =>
    cases t
    have o1 := o.step s1
    have h1 := r1.int o1.row ei
    have h2 := r2.int o1.row ej
    subst h1 h2
    refine ⟨i, j, rfl, b, k _ true _ (fun _ => True) H1 Z1 q1 s1 ⟨fun _ _ _ => trivial, fun _ _ _ _ => trivial, ?_, ?_, ?_⟩⟩
    · intro i H hi _
      rw [List.length_map, List.length_range] at hi
      exact hi
    · intro H _
      show (j - i).toNat ≤ _
      rw [List.length_map, List.length_range]
      exact Nat.le_refl _
    · rintro m Z2 ρ2 σ2 H2 x H' hi g o2 st ⟨rfl, rfl⟩
      rw [List.length_map, List.length_range] at hi
      exact ⟨.d (.int (i + (m : Int))), by rw [List.getElem?_map, List.getElem?_range hi]; rfl, o2.refl, rv_int _⟩
theorem enumP_get {f : PyData → AV} : ∀ {xs : List PyData} {i j : Nat} {x : PyData}, xs[i]? = some x → (enumP f j xs)[i]? = some (mkT [.d (.int ((j + i : Nat) : Int)), f x])
  | x :: xs, 0, j, y, e => by cases Option.some.inj e; rfl
  | x :: xs, i + 1, j, y, e => by
    have := enumP_get (f := f) (xs := xs) (i := i) (j := j + 1) e
    rw [show j + 1 + i = j + (i + 1) by omega] at this
    exact this
  | [], _, _, _, e => by simp at e
theorem enumP_len {f : PyData → AV} : ∀ {xs : List PyData} {j : Nat}, (enumP f j xs).length = xs.length
  | [], _ => rfl
  | _ :: xs, j => congrArg (· + 1) (enumP_len (xs := xs) (j := j + 1))
theorem sub_isV (x : AV) (y : PyData) : (x.sub y).isV = true := by
  cases x <;> (simp only [sub_d, sub_p, sub_l, sub_t, sub_row, sub_m]; first | rfl | (split <;> rfl))
theorem pdv_isV (y : PyData) : (pdv y).isV = true := by
  unfold pdv
  split <;> rfl
/-- a new pair -/
theorem rv_pair {Z : Addr → Prop} {ρ : Rho} {σ : L2.St} {H : Hp} (o : Ok F Z ρ σ H) {T : Addr} (n : H T = none) {u v : V} {a b : AV} (ra : RV F Z Hfull H u a) (rb : RV F Z Hfull H v b) (va : a.isV = true) (vb : b.isV = true) :
    Step F Z H Z (upd H T (.tup [u, v])) ∧ RV F Z Hfull (upd H T (.tup [u, v])) (.ref T) (mkT [a, b]) := by
  refine ⟨Step.new_ o n, ?_⟩
  have := rv_newT o n (.cons ra (.cons rb .nil)) (by rw [List.all_cons, va, List.all_cons, vb]; rfl)
  have h : ∀ {av : AV}, (∀ xs, av ≠ .l true xs) → RV F Z H (upd H T (.tup [u, v])) (.ref T) av → RV F Z Hfull (upd H T (.tup [u, v])) (.ref T) av := by
    intro av na r
    cases av with
    | l f xs =>
      cases f with
      | true => exact absurd rfl (na xs)
      | false =>
        obtain ⟨q, vs, e, n, h0, z, fr, w⟩ := r
        exact ⟨q, vs, e, n, h0, z, (fun z => nomatch z), w⟩
    | _ => exact r
  refine h (fun xs => ?_) this
  unfold mkT
  split <;> (intro z; cases z)
instance {ta : TA} {a : AA} [SA F ta a] : SI F (iEnumT K ta) (aEnumT a) where
  snd := fun Z ρ σ H Φ R o q k => by
    refine SA.snd (F := F) (te := ta) (ae := a) Z ρ σ H _ _ o q fun x ax H1 Z1 ⟨y, xs, e, ey, q1⟩ s1 r1 => ?_
    subst e
    cases r1 with | cons r1 t =>
    cases t
    have o1 := o.step s1
    obtain ⟨ad, vs, rfl, hq, d, at_⟩ := itT_of o1.row r1 ey
    refine ⟨ad, vs, rfl, (imm_of_same vw_same).sqT hq, k _ true _ (fun H => SqT K H ad vs) H1 Z1 q1 s1 ⟨?_, ?_, ?_, ?_, ?_⟩⟩
    · exact fun Z H s => (imm_of_same vw_same).sqT ((imm_of_same s.vw).sqT hq)
    · exact fun _ Z H s => (imm_of_same vw_same).sqT ((imm_of_same s).sqT hq)
    · intro i H hi g
      rw [enumP_len, ← dpAll_len d] at hi
      exact ⟨vs, vs[i], g, List.getElem?_eq_getElem hi⟩
    · exact fun H g => ⟨vs, g, by rw [enumP_len, ← dpAll_len d]⟩
    · rintro i Z2 ρ2 σ2 H2 x H' hi g o2 st ⟨T, u, rfl, nT, rfl, y⟩
      obtain ⟨e0, h0, h1⟩ := at_ Z2 _ (vw_both st) i u (y vs g)
      obtain ⟨p1, p2⟩ := rv_pair o2 nT (rv_int (i : Nat)) h1 rfl (sub_isV _ _)
      exact ⟨_, by rw [enumP_get h0, Nat.zero_add], p1, p2⟩
instance {ta : TA} {a : AA} [SA F ta a] : SI F (iEnum K ta) (aEnumL a) where
  snd := fun Z ρ σ H Φ R o q k => by
    refine SA.snd (F := F) (te := ta) (ae := a) Z ρ σ H _ _ o q fun x ax H1 Z1 ⟨y, c, xs, e, ey, q1⟩ s1 r1 => ?_
    subst e
    cases r1 with | cons r1 t =>
    cases t
    have o1 := o.step s1
    obtain ⟨ad, vs, Z2, rfl, hq, o2, zb, zn, vw, d, cl, nr⟩ := itL_of o1 r1 ey (old_fr o.old)
    have s2 : Step F Z H Z2 H1 := ⟨s1.eff, s1.row, fun b h => zb b (s1.big b h), fun b h => (zn b h).elim (fun z => s1.new b z) .inr, o2.zok⟩
    refine ⟨ad, vs, rfl, hq, k _ c _ (fun H => SqL K H ad vs) H1 Z2 q1 s2 ⟨?_, ?_, ?_, ?_, ?_⟩⟩
    · intro Z H s
      rcases nr with nr | nr
      · rcases hq with (h | ⟨o, h⟩) | h
        · exact .inl (.inl (s.eff.2 _ _ nr h))
        · exact .inl (.inr ⟨o, s.eff.1.2 _ _ _ h⟩)
        · exact .inr h
      · exact vw_same.seq (s.vw.seq nr)
    · exact fun cc Z H s => vw_same.seq (s.seq (cl cc))
    · intro i H hi g
      rw [enumP_len, ← dpAll_len d] at hi
      exact ⟨vs, vs[i], g, List.getElem?_eq_getElem hi⟩
    · exact fun H g => ⟨vs, g, by rw [enumP_len, ← dpAll_len d]; exact Nat.le_refl _⟩
    · rintro i Z3 ρ3 σ3 H3 x H' hi g o3 st ⟨T, u, rfl, nT, rfl, y⟩
      obtain ⟨e0, h0, h1⟩ := pd_at d (vw_both st) o3.row i u (y vs g)
      obtain ⟨p1, p2⟩ := rv_pair o3 nT (rv_int (i : Nat)) h1 rfl (pdv_isV _)
      exact ⟨_, by rw [enumP_get h0, Nat.zero_add], p1, p2⟩
theorem rev_get {α : Type} {l : List α} {i : Nat} (h : i < l.length) : l.reverse[i]? = l[l.length - 1 - i]? := by
  rw [List.getElem?_reverse h]
instance {te : TE} {a : AE} [SE F te a] : SI F (RT.iRevA K te) (aRevI a) where
  snd := fun Z ρ σ H Φ R o q k => by
    refine SE.snd (F := F) (te := te) (ae := a) Z ρ σ H _ _ o q fun x ax H1 Z1 q1 s1 r1 => ?_
    have o1 := o.step s1
    rcases q1 with ⟨xs, e, q1⟩ | ⟨c, xs, e, q1⟩
    · obtain ⟨ad, vs, rfl, hq, d, at_⟩ := itT_of o1.row r1 e
      have ll := dpAll_len d
      refine ⟨ad, vs, rfl, .inr ⟨(imm_of_same vw_same).sqT hq, k _ true _ (fun H => SqT K H ad vs) H1 Z1 q1 s1 ⟨?_, ?_, ?_, ?_, ?_⟩⟩⟩
      · exact fun Z H s => (imm_of_same vw_same).sqT ((imm_of_same s.vw).sqT hq)
      · exact fun _ Z H s => (imm_of_same vw_same).sqT ((imm_of_same s).sqT hq)
      · intro i H hi g
        rw [List.length_map, List.length_reverse, ← ll] at hi
        exact ⟨hi, vs, vs[vs.length - 1 - i]'(by omega), g, List.getElem?_eq_getElem (by omega)⟩
      · intro H g
        show vs.length ≤ _
        rw [List.length_map, List.length_reverse, ← ll]
        exact Nat.le_refl _
      · rintro i Z2 ρ2 σ2 H2 x H' hi g o2 st ⟨rfl, y⟩
        rw [List.length_map, List.length_reverse] at hi
        obtain ⟨e0, h0, h1⟩ := at_ Z2 _ (vw_both st) _ x (y vs g)
        exact ⟨_, by rw [List.getElem?_map, rev_get hi, ← ll, h0]; rfl, o2.refl, h1⟩
    · obtain ⟨ad, vs, Z2, rfl, hq, o2, zb, zn, vw, d, cl, nr⟩ := itL_of o1 r1 e (old_fr o.old)
      have ll := dpAll_len d
      have s2 : Step F Z H Z2 H1 := ⟨s1.eff, s1.row, fun b h => zb b (s1.big b h), fun b h => (zn b h).elim (fun z => s1.new b z) .inr, o2.zok⟩
      refine ⟨ad, vs, rfl, .inl ⟨hq, k _ c _ (fun H => SqL K H ad vs) H1 Z2 q1 s2 ⟨?_, ?_, ?_, ?_, ?_⟩⟩⟩
      · intro Z H s
        rcases nr with nr | nr
        · rcases hq with (h | ⟨o, h⟩) | h
          · exact .inl (.inl (s.eff.2 _ _ nr h))
          · exact .inl (.inr ⟨o, s.eff.1.2 _ _ _ h⟩)
          · exact .inr h
        · exact vw_same.seq (s.vw.seq nr)
      · exact fun cc Z H s => vw_same.seq (s.seq (cl cc))
      · intro i H hi g
        rw [List.length_map, List.length_reverse, ← ll] at hi
        exact ⟨hi, vs, vs[vs.length - 1 - i]'(by omega), g, List.getElem?_eq_getElem (by omega)⟩
      · intro H g
        show vs.length ≤ _
        rw [List.length_map, List.length_reverse, ← ll]
        exact Nat.le_refl _
      · rintro i Z3 ρ3 σ3 H3 x H' hi g o3 st ⟨rfl, y⟩
        rw [List.length_map, List.length_reverse] at hi
        obtain ⟨e0, h0, h1⟩ := pd_at d (vw_both st) o3.row _ x (y vs g)
        exact ⟨_, by rw [List.getElem?_map, rev_get hi, ← ll, h0]; rfl, o3.refl, h1⟩
end

theorem zipP_get {f g : PyData → AV} : ∀ {xs ys : List PyData} {i : Nat} {x y : PyData}, xs[i]? = some x → ys[i]? = some y → (zipP f g xs ys)[i]? = some (mkT [f x, g y]) := by
  intro xs ys i x y h1 h2
  unfold zipP
  rw [List.getElem?_zipWith, h1, h2]
theorem zipP_len {f g : PyData → AV} {xs ys : List PyData} : (zipP f g xs ys).length = min xs.length ys.length := List.length_zipWith
section
variable {K : PySem.W.Frag} {ec : EC} {F : Fr K ec}
instance {ta : TA} {a : AA} [SA F ta a] : SI F (RZ.iZipA K ta) (aZip a) where
  snd := fun Z ρ σ H Φ R o q k => by
    refine SA.snd (F := F) (te := ta) (ae := a) Z ρ σ H _ _ o q fun x ax H1 Z1 ⟨y, z, e, q1⟩ s1 r1 => ?_
    subst e
    cases r1 with | cons r1 t =>
    cases t with | cons r2 t =>
    cases t
    have o1 := o.step s1
    rcases q1 with ⟨xs, ys, ey, ez, q1⟩ | ⟨xs, ys, ey, ez, q1⟩
    · obtain ⟨ad, vs, rfl, hq, d, at_⟩ := itT_of o1.row r1 ey
      obtain ⟨bd, us, rfl, hq2, d2, at2⟩ := itT_of o1.row r2 ez
      have l1 := dpAll_len d
      have l2 := dpAll_len d2
      refine ⟨ad, bd, vs, us, rfl, .inr ⟨(imm_of_same vw_same).sqT hq, (imm_of_same vw_same).sqT hq2, k _ true _ (fun H => SqT K H ad vs ∧ SqT K H bd us) H1 Z1 q1 s1 ⟨?_, ?_, ?_, ?_, ?_⟩⟩⟩
      · exact fun Z H s => ⟨(imm_of_same vw_same).sqT ((imm_of_same s.vw).sqT hq), (imm_of_same vw_same).sqT ((imm_of_same s.vw).sqT hq2)⟩
      · exact fun _ Z H s => ⟨(imm_of_same vw_same).sqT ((imm_of_same s).sqT hq), (imm_of_same vw_same).sqT ((imm_of_same s).sqT hq2)⟩
      · intro i H hi g
        rw [zipP_len] at hi
        exact ⟨vs, us, vs[i]'(by omega), us[i]'(by omega), g.1, g.2, List.getElem?_eq_getElem (by omega), List.getElem?_eq_getElem (by omega)⟩
      · exact fun H g => ⟨vs, us, g.1, g.2, by rw [zipP_len]; omega⟩
      · rintro i Z2 ρ2 σ2 H2 x H' hi g o2 st ⟨T, u, v, rfl, nT, rfl, y1, y2⟩
        obtain ⟨e0, h0, h1⟩ := at_ Z2 _ (vw_both st) i u (y1 vs g.1)
        obtain ⟨e1, g0, g1⟩ := at2 Z2 _ (vw_both st) i v (y2 us g.2)
        obtain ⟨p1, p2⟩ := rv_pair o2 nT h1 g1 (sub_isV _ _) (sub_isV _ _)
        exact ⟨_, zipP_get h0 g0, p1, p2⟩
    · subst ey ez
      have r1 : Dp K (Vw F Z1 H1) _ (.list xs) := r1
      have r2 : Dp K (Vw F Z1 H1) _ (.list ys) := r2
      cases r1 with
      | @lst ad vs _ hq d =>
      cases r2 with
      | @lst bd us _ hq2 d2 =>
      have l1 := dpAll_len d
      have l2 := dpAll_len d2
      refine ⟨ad, bd, vs, us, rfl, .inl ⟨vw_same.seq hq, vw_same.seq hq2, k _ true _ (fun H => SqL K H ad vs ∧ SqL K H bd us) H1 Z1 q1 s1 ⟨?_, ?_, ?_, ?_, ?_⟩⟩⟩
      · exact fun Z H s => ⟨vw_same.seq (s.vw.seq hq), vw_same.seq (s.vw.seq hq2)⟩
      · exact fun _ Z H s => ⟨vw_same.seq (s.seq hq), vw_same.seq (s.seq hq2)⟩
      · intro i H hi g
        rw [zipP_len] at hi
        exact ⟨vs, us, vs[i]'(by omega), us[i]'(by omega), g.1, g.2, List.getElem?_eq_getElem (by omega), List.getElem?_eq_getElem (by omega)⟩
      · exact fun H g => ⟨vs, us, g.1, g.2, by rw [zipP_len]; omega⟩
      · rintro i Z2 ρ2 σ2 H2 x H' hi g o2 st ⟨T, u, v, rfl, nT, rfl, y1, y2⟩
        obtain ⟨e0, h0, h1⟩ := pd_at d (vw_both st) o2.row i u (y1 vs g.1)
        obtain ⟨e1, g0, g1⟩ := pd_at d2 (vw_both st) o2.row i v (y2 us g.2)
        obtain ⟨p1, p2⟩ := rv_pair o2 nT h1 g1 (pdv_isV _) (pdv_isV _)
        exact ⟨_, zipP_get h0 g0, p1, p2⟩
end
/-! ### calls -/
abbrev ASp := List AV → (AV → Prop) → (Exc → Prop) → Prop
/-- an argument as the callee sees it -/
def AV.arg : AV → AV
  | .d x => .d x | .row => .row | .m P => .m P | a => .p a.dat
def argOk (K : PySem.W.Frag) (ro : Option Addr) (H : Hp) (v : V) : AV → Prop
  | .d x => imm x = true ∧ Dp K H v x
  | .p x => ro = none ∧ Dp K H v x
  | .row => ∃ r, ro = some r ∧ v = .ref r
  | .m P => ro = none ∧ (∀ H H' v, Same H H' → P H v → P H' v) ∧ P H v
  | _ => False
/-- a def's promise, told without the heap -/
def spA (K : PySem.W.Frag) (ec : EC) (asp : ASp) : Sp := fun vs H Q E => ∃ (ro : Option Addr) (as : List AV) (Φ : AV → Prop) (Ψ : Exc → Prop), Paired (argOk K ro H) vs as ∧ RowOk K ro H ∧ asp as Φ Ψ ∧
  (∀ v av H', Φ av → Eff ro H H' → RowOk K ro H' → Ret K H H' v av → Q v H') ∧ ∀ e c d H', Ψ e → Eff ro H H' → RowOk K ro H' → ec e c d H' → E c d H'
def aCall (asp : ASp) (Ψ : Exc → Prop) (a : AA) : AE := fun ρ Φ => a ρ fun vs => (vs.all AV.isA = true ∨ (∃ r, vs = .row :: r ∧ r.all AV.isD = true)) ∧ asp (vs.map AV.arg) Φ Ψ
section
variable {K : PySem.W.Frag} {ec : EC} {F : Fr K ec}
theorem ret_rv {Z : Addr → Prop} {ρ : Rho} {σ : L2.St} {H H' : Hp} {v : V} {av : AV} (o : Ok F Z ρ σ H) (s : Step F Z H Z H') (r : Ret K H H' v av) : RV F Z H H' v av := by
  cases av with
  | d x => exact r
  | l f xs =>
    cases f with
    | true =>
      obtain ⟨q, vs, rfl, h0, hq, i, a⟩ := r
      exact ⟨q, vs, rfl, row_ne o h0, h0_free o h0, z_free o h0, fun _ => h0, hq, imm_vwAll s.row i a⟩
    | false => exact r.elim
  | _ => exact r.elim
theorem same_eff {ro : Option Addr} {H H' : Hp} (e : Eff none H H') : Eff ro H H' := Eff.of e.same
theorem argsV {Z : Addr → Prop} {He H : Hp} {vs : List V} {avs : List AV} (r0 : RowOk K F.ro H) (r : Paired (RV F Z He H) vs avs) (c : avs.all AV.isA = true) : Paired (argOk K none H) vs (avs.map AV.arg) := by
  induction r with
  | nil => exact .nil
  | @cons v av vs avs h t ih =>
    rw [List.all_cons, Bool.and_eq_true] at c
    refine .cons ?_ (ih c.2)
    cases av with
    | d x => exact h
    | p x => exact ⟨rfl, h.dp r0 rfl⟩
    | l f xs => exact ⟨rfl, h.dp r0 rfl⟩
    | t x => exact ⟨rfl, h.dp r0 rfl⟩
    | row => cases c.1
    | m P => exact ⟨rfl, h.1, h.1 _ _ _ vw_same h.2⟩
theorem argsD {Z : Addr → Prop} {He H : Hp} {vs : List V} {avs : List AV} {ro : Option Addr} (r : Paired (RV F Z He H) vs avs) (c : avs.all AV.isD = true) : Paired (argOk K ro H) vs (avs.map AV.arg) := by
  induction r with
  | nil => exact .nil
  | @cons v av vs avs h t ih =>
    rw [List.all_cons, Bool.and_eq_true] at c
    refine .cons ?_ (ih c.2)
    cases av with
    | d x => exact h
    | _ => cases c.1
theorem call_snd {asp : ASp} {Z : Addr → Prop} {ρ : Rho} {σ : L2.St} {He H : Hp} {vs : List V} {avs : List AV} {Φ : AV → Prop} {Ψ : Exc → Prop} {Q : VK} {E : XK} (o : Ok F Z ρ σ H) (r : Paired (RV F Z He H) vs avs)
    (c : avs.all AV.isA = true ∨ (∃ r, avs = .row :: r ∧ r.all AV.isD = true)) (a : asp (avs.map AV.arg) Φ Ψ) (k : ∀ v av H' Z', Φ av → Step F Z H Z' H' → RV F Z' H H' v av → Q v H')
    (kE : ∀ e c d H', Ψ e → Step F Z H Z H' → ec e c d H' → E c d H') : spA K ec asp vs H Q E := by
  have st : ∀ {H' : Hp}, Eff F.ro H H' → RowOk K F.ro H' → Step F Z H Z H' := fun e r => ⟨e, r, fun _ h => h, fun _ h => .inl h, fun b h z => by
    cases q : H b with
    | none => exact o.zok b h q
    | some ob =>
      by_cases n : F.ro = some b
      · obtain ⟨xs, y⟩ := (r b n).lst
        rw [z] at y
        cases y
      · rw [e.2 b ob n q] at z
        cases z⟩
  rcases c with c | ⟨r', rfl, c⟩
  · refine ⟨none, _, Φ, Ψ, argsV o.row r c, (fun _ z => (nomatch z)), a, fun v av H' f e _ ret => ?_, fun e cl d H' f ef _ x => ?_⟩
    · have s := st (same_eff e) fun r hr => (o.row r hr).same e.same
      exact k v av H' Z f s (ret_rv o s ret)
    · exact kE e cl d H' f (st (same_eff ef) fun r hr => (o.row r hr).same ef.same) x
  · cases r with
    | cons h t =>
    obtain ⟨r, e1, e2⟩ := h
    refine ⟨F.ro, _, Φ, Ψ, .cons (show argOk K F.ro H _ AV.row from ⟨r, e1, e2⟩) (argsD t c), o.row, a, fun v av H' f e rr ret => ?_, fun e cl d H' f ef rr x => ?_⟩
    · have s := st e rr
      exact k v av H' Z f s (ret_rv o s ret)
    · exact kE e cl d H' f (st ef rr) x
instance {asp : ASp} {ta : TA} {a : AA} [SA F ta a] : SE F (tCall (spA K ec asp) [] E0 ta) (aCall asp (fun _ => False) a) where
  snd := fun Z ρ σ H Φ Q o q k => by
    refine SA.snd (F := F) (te := ta) (ae := a) Z ρ σ H _ _ o q fun vs avs H1 Z1 ⟨c, q1⟩ s1 r1 => ?_
    rw [List.append_nil]
    have o1 := o.step s1
    exact call_snd o1 r1 c q1 (fun v av H2 Z2 f s2 r2 => k v av H2 Z2 f (s1.trans o.row s2) (r2.back s1)) fun _ _ _ _ z => z.elim
instance (priority := low) {asp : ASp} {ta : TA} {a : AA} [SA F ta a] : SE F (tCall (spA K ec asp) [] F.E ta) (aCall asp F.Ψ a) where
  snd := fun Z ρ σ H Φ Q o q k => by
    refine SA.snd (F := F) (te := ta) (ae := a) Z ρ σ H _ _ o q fun vs avs H1 Z1 ⟨c, q1⟩ s1 r1 => ?_
    rw [List.append_nil]
    have o1 := o.step s1
    exact call_snd o1 r1 c q1 (fun v av H2 Z2 f s2 r2 => k v av H2 Z2 f (s1.trans o.row s2) (r2.back s1)) fun e cl d H2 f s2 x => F.link e cl d H2 f (o1.eff.trans s2.eff) s2.row x
end
/-! ### a def -/
def startA (n : Nat) (as : List AV) : Rho := as.map some ++ List.replicate (n - as.length) none
theorem spA_len {K : PySem.W.Frag} {ec : EC} {asp : ASp} {n : Nat} (h : ∀ as Φ Ψ, asp as Φ Ψ → as.length = n) : ∀ vs H Q E, spA K ec asp vs H Q E → vs.length = n := by
  rintro vs H Q E ⟨ro, as, Φ, Ψ, pr, _, a, _⟩
  rw [paired_len pr, h as Φ Ψ a]
/-- the body of a def, from its promise -/
theorem runA {K : PySem.W.Frag} {ec : EC} {asp : ASp} {N : List Str} {vs : List V} {H : Hp} {Q : VK} {E : XK} {ts : TS} (h : spA K ec asp vs H Q E)
    (body : ∀ (F : Fr K ec), F.H0 = H → F.E = E → ∀ as Φ, asp as Φ F.Ψ → ∃ (aS : AS) (_ : SS F ts aS), aS { nx := fun _ => Φ (.d .none), rt := Φ } (startA N.length as)) :
    ts { nx := fun _ H' => Q .non H', rt := Q } (L2.start N vs) H := by
  obtain ⟨ro, as, Φ, Ψ, pr, rw0, a, hQ, hE⟩ := h
  obtain ⟨aS, inst, g⟩ := body ⟨ro, H, E, Ψ, hE⟩ rfl rfl as Φ a
  have inst : SS (⟨ro, H, E, Ψ, hE⟩ : Fr K ec) ts aS := inst
  have ll := paired_len pr
  have slot : ∀ (i : Nat) (av : AV), (startA N.length as)[i]? = some (some av) → as[i]? = some av := by
    intro i av e
    unfold startA at e
    by_cases c : i < as.length
    · rw [List.getElem?_append_left (by rw [List.length_map]; exact c), List.getElem?_map] at e
      cases q : as[i]? with
      | none => rw [q] at e; cases e
      | some w => rw [q] at e; exact Option.some.inj e
    · rw [List.getElem?_append_right (by rw [List.length_map]; omega), List.getElem?_replicate] at e
      split at e <;> cases e
  refine inst.snd (fun _ => False) (startA N.length as) (L2.start N vs) H _ _ ⟨?_, Eff.refl _ _, rw0, fun _ z => z.elim, ?_, ?_, ?_⟩ g ⟨?_, fun _ _ _ _ z => z.elim, fun _ _ _ _ z => z.elim, ?_⟩
  · unfold L2.start startA
    rw [List.length_append, List.length_append, List.length_map, List.length_map, List.length_replicate, List.length_replicate, ll]
  · intro i x e
    obtain ⟨v, _, z⟩ := paired_at pr (slot i _ e)
    exact z
  · intro i av e
    have e' := slot i av e
    obtain ⟨v, hv, z⟩ := paired_at pr e'
    have lt := (List.getElem?_eq_some_iff.mp hv).1
    refine ⟨v, ?_, ?_⟩
    · unfold L2.start
      rw [List.getElem?_append_left (by rw [List.length_map]; exact lt), List.getElem?_map, hv]
      rfl
    · cases av with
      | d x => exact z
      | p x =>
        obtain ⟨e, z⟩ := z
        have e : ro = none := e
        subst e
        refine Dp.imm (fun b o hb => vw_of ⟨fun q => (by cases q), .inr (.inl (by show H b ≠ none; rw [hb]; simp))⟩ hb) z
      | row => exact z
      | m P =>
        obtain ⟨e, y, z⟩ := z
        have e : ro = none := e
        subst e
        exact ⟨y, y _ _ _ (fun b o hb => vw_of ⟨fun q => (by cases q), .inr (.inl (by show H b ≠ none; rw [hb]; simp))⟩ hb) z⟩
      | _ => exact z.elim
  · intro i j xs ys n e1 e2
    obtain ⟨v, _, z⟩ := paired_at pr (slot i _ e1)
    exact z.elim
  · intro Z ρ σ H' f o s
    exact hQ .non _ H' f o.eff o.row ⟨rfl, .non⟩
  · intro v av H' f e r ret
    exact hQ v av H' f e r ret

def ec0 : EC := fun _ _ _ _ => False
/-! ### a constant of the module -/
class KData (K : PySem.W.Frag) (a : Addr) (x : outParam PyData) : Prop where
  dp : ∀ H, Dp K H (.ref a) x
  im : imm x = true
instance {K : PySem.W.Frag} {ec : EC} {F : Fr K ec} {a : Addr} {x : PyData} [k0 : KData K a x] : SE F (tC (.ref a)) (aC x) where
  snd := fun Z ρ σ H Φ Q o q k => k _ _ H Z q o.refl ⟨k0.im, k0.dp H⟩
theorem flats_dp {K : PySem.W.Frag} {H : Hp} : ∀ {xs : List PyData}, xs.all flatP = true → DpAll K H (xs.map fV) xs
  | [], _ => .nil
  | x :: xs, h => by
    rw [List.all_cons, Bool.and_eq_true] at h
    refine .cons ?_ (flats_dp h.2)
    cases x <;> first | exact .non | exact .bl _ | exact .int _ | exact .str _ | cases h.1
theorem flats_imm : ∀ {xs : List PyData}, xs.all flatP = true → immAll xs = true
  | [], _ => rfl
  | x :: xs, h => by
    rw [List.all_cons, Bool.and_eq_true] at h
    rw [immAll, flat_imm h.1, flats_imm h.2]
    rfl
theorem kdata {K : PySem.W.Frag} {a : Addr} {xs : List PyData} (h : KT K a (xs.map fV)) (f : xs.all flatP = true) : KData K a (.tuple xs) :=
  ⟨fun H => .tup (h.sq H) (flats_dp f), tup_imm (flats_imm f)⟩
/-! ### what is asked behind a part -/
def QT (Φ : AV → Prop) : List AV → Prop := fun xs => xs.all AV.isV = true ∧ xs.length ≤ 100000 ∧ Φ (mkT xs)
def QL (Φ : AV → Prop) : List AV → Prop := fun xs => xs.all AV.isS = true ∧ xs.length ≤ 100000 ∧ Φ (.l true (xs.map AV.dat))
def QRet (R : AV → Prop) : AV → Prop := fun x => ∃ w, x.ret = some w ∧ R w
def QBl (Ψ : Bool → Prop) : AV → Prop := fun x => ∃ k, x.dat = .bool k ∧ Ψ k
def QTr (Ψ : Bool → Prop) : AV → Prop := fun x => ∃ k, truP x.dat k ∧ Ψ k
def QPart (Q : Option Int → Prop) : AV → Prop := fun x => ∃ i, x.dat = .int i ∧ Q (some i)
def QCall (asp : ASp) (Φ : AV → Prop) (X : Exc → Prop) : List AV → Prop := fun vs => (vs.all AV.isA = true ∨ (∃ r, vs = .row :: r ∧ r.all AV.isD = true)) ∧ asp (vs.map AV.arg) Φ X
def QIT (R : Bool → List AV → Prop) : AV → Prop := fun x => ∃ xs, itT x = some xs ∧ R true (xs.map x.sub)
def QIL (R : Bool → List AV → Prop) : AV → Prop := fun x => ∃ c xs, itL x = some (c, xs) ∧ R c (xs.map pdv)
def QR1 (R : Bool → List AV → Prop) : List AV → Prop := fun vs => ∃ x j, vs = [x] ∧ x.dat = .int j ∧ -(2 ^ 62) ≤ j ∧ j < 2 ^ 62 ∧ R true ((List.range j.toNat).map fun (i : Nat) => AV.d (.int (i : Int)))
def QR2 (R : Bool → List AV → Prop) : List AV → Prop := fun vs => ∃ x y i j, vs = [x, y] ∧ x.dat = .int i ∧ y.dat = .int j ∧ (-(2 ^ 62) ≤ i ∧ i < 2 ^ 62 ∧ -(2 ^ 62) ≤ j ∧ j < 2 ^ 62) ∧ R true ((List.range (j - i).toNat).map fun (k : Nat) => AV.d (.int (i + (k : Int))))
def QET (R : Bool → List AV → Prop) : List AV → Prop := fun vs => ∃ x xs, vs = [x] ∧ itT x = some xs ∧ R true (enumP x.sub 0 xs)
def QEL (R : Bool → List AV → Prop) : List AV → Prop := fun vs => ∃ x c xs, vs = [x] ∧ itL x = some (c, xs) ∧ R c (enumP pdv 0 xs)
def QZ (R : Bool → List AV → Prop) : List AV → Prop := fun vs => ∃ x y, vs = [x, y] ∧ ((∃ xs ys, itT x = some xs ∧ itT y = some ys ∧ R true (zipP x.sub y.sub xs ys)) ∨ ∃ xs ys, x = .p (.list xs) ∧ y = .p (.list ys) ∧ R true (zipP pdv pdv xs ys))
def QRv (R : Bool → List AV → Prop) : AV → Prop := fun x => (∃ xs, itT x = some xs ∧ R true (xs.reverse.map x.sub)) ∨ ∃ c xs, itL x = some (c, xs) ∧ R c (xs.reverse.map pdv)
def QFor (ρ : Rho) (g : AG) (b : AS) (D : AEnds) : Bool → List AV → Prop := fun c its => c = true ∧ ∃ Inv : Nat → Rho → Prop, Inv 0 ρ ∧
  (∀ i x ρ', its[i]? = some x → Inv i ρ' → g x ρ' fun ρ2 => b { D with nx := Inv (i + 1), ct := Inv (i + 1), bk := D.nx } ρ2) ∧ ∀ ρ', Inv its.length ρ' → D.nx ρ'
def QLc (g : AG) (t : AT) (a : AE) (vs sl : List Nat) (ρ : Rho) (Φ : AV → Prop) : Bool → List AV → Prop := fun _ its => (∀ j ∈ sl, j ∈ vs) ∧ its.length ≤ 100000 ∧ ∃ P : Nat → List PyData → Prop, P 0 [] ∧
  (∀ i x acc, its[i]? = some x → P i acc → acc.length ≤ i → g x (wipeR ρ vs) fun ρ2 => t ρ2 fun k => if k = true then a ρ2 fun y => y.isS = true ∧ P (i + 1) (acc ++ [y.dat]) else P (i + 1) acc) ∧
  ∀ acc, acc.length ≤ its.length → P its.length acc → Φ (.l true acc)
/-! ### reading on -/
section
variable {ρ : Rho} {D : AEnds} {Φ : AV → Prop} {Ψ : Bool → Prop}
theorem wSeq {a b : AS} (h : a { D with nx := b D } ρ) : aSeq a b D ρ := h
theorem wNext (h : D.nx ρ) : aNext D ρ := h
theorem wAsg {a : AE} {g : AG} (h : a ρ fun x => g x ρ D.nx) : aAsg a g D ρ := h
theorem wDrop {a : AE} (h : a ρ fun _ => D.nx ρ) : aDrop a D ρ := h
theorem wIfS {c : AT} {a b : AS} (h : c ρ fun k => if k = true then a D ρ else b D ρ) : aIfS c a b D ρ := h
theorem wRet {a : AE} (h : a ρ (QRet D.rt)) : aRet a D ρ := h
theorem wRetN (h : D.rt (.d .none)) : aRetN D ρ := h
theorem wRd {x : PyData} {Q : AV → Prop} (h : Q (.d x)) : QRet Q (.d x) := ⟨_, rfl, h⟩
theorem wRl {f : Bool} {xs : List PyData} {Q : AV → Prop} (i : immAll xs = true) (h : Q (.l true xs)) : QRet Q (.l f xs) := ⟨_, by show (if immAll xs = true then _ else _) = _; rw [if_pos i], h⟩
theorem wRp {x : PyData} {Q : AV → Prop} (i : imm x = true) (h : Q (.d x)) : QRet Q (.p x) := ⟨_, by show (if imm x = true then _ else _) = _; rw [if_pos i], h⟩
theorem wRt {x : PyData} {Q : AV → Prop} (i : imm x = true) (h : Q (.d x)) : QRet Q (.t x) := ⟨_, by show (if imm x = true then _ else _) = _; rw [if_pos i], h⟩
theorem wBreak (h : D.bk ρ) : aBreak D ρ := h
theorem wCont (h : D.ct ρ) : aCont D ρ := h
theorem wName {i : Nat} {x w : AV} {Q : Rho → Prop} (e : x.own = some w) (h : Q (ρ.set i (some w))) : aName i x ρ Q := ⟨w, e, h⟩
theorem wGTup {n : Nat} {t : List AV → Rho → (Rho → Prop) → Prop} {av : AV} {xs : List PyData} {Q : Rho → Prop} (e : av.dat = .tuple xs) (l : xs.length = n) (h : t (xs.map av.sub) ρ Q) : aGTup n t av ρ Q := ⟨xs, e, l, h⟩
theorem wGNil {Q : Rho → Prop} (h : Q ρ) : aGNil [] ρ Q := ⟨rfl, h⟩
theorem wGCons {t : AG} {u : List AV → Rho → (Rho → Prop) → Prop} {a : AV} {r : List AV} {Q : Rho → Prop} (h : t a ρ fun ρ' => u r ρ' Q) : aGCons t u (a :: r) ρ Q := ⟨a, r, rfl, h⟩
theorem wVar {i : Nat} {av : AV} (e : ρ[i]? = some (some av)) (h : Φ av) : aVar i ρ Φ := ⟨av, e, h⟩
theorem wC {x : PyData} (h : Φ (.d x)) : aC x ρ Φ := h
theorem wOp {r : AR2} {a b : AE} (h : a ρ fun x => b ρ fun y => r x y Φ) : aOp r a b ρ Φ := h
theorem wUn {r : AV → (AV → Prop) → Prop} {a : AE} (h : a ρ fun x => r x Φ) : aUn r a ρ Φ := h
theorem wNil {Q : List AV → Prop} (h : Q []) : aNil ρ Q := h
theorem wCons {a : AE} {r : AA} {Q : List AV → Prop} (h : a ρ fun x => r ρ fun xs => Q (x :: xs)) : aCons a r ρ Q := h
theorem wCB {r : ABl} {a : AA} (h : a ρ fun xs => r xs Φ) : aCB r a ρ Φ := h
theorem wTup {a : AA} (h : a ρ (QT Φ)) : aTup a ρ Φ := h
theorem wLst {a : AA} (h : a ρ (QL Φ)) : aLst a ρ Φ := h
theorem wIf {t : AT} {a b : AE} (h : t ρ fun c => if c = true then a ρ Φ else b ρ Φ) : aIf t a b ρ Φ := h
theorem wAndV {a b : AE} (h : a ρ (QBl fun c => if c = true then b ρ Φ else Φ (.d (.bool false)))) : aAndV a b ρ Φ := h
theorem wOrV {a b : AE} (h : a ρ (QBl fun c => if c = true then Φ (.d (.bool true)) else b ρ Φ)) : aOrV a b ρ Φ := h
theorem wNotV {a : AE} (h : a ρ (QBl fun c => Φ (.d (.bool (!c))))) : aNotV a ρ Φ := h
theorem wChain {r r' : AR2} {a b c : AE} (h : a ρ fun x => b ρ fun y => r x y (QBl fun k => if k = true then c ρ fun w => r' y w Φ else Φ (.d (.bool false)))) : aChain r r' a b c ρ Φ := h
theorem wTest {a : AE} (h : a ρ (QBl Ψ)) : aTest a ρ Ψ := h
theorem wAnd {t u : AT} (h : t ρ fun c => if c = true then u ρ Ψ else Ψ false) : aAnd t u ρ Ψ := h
theorem wOr {t u : AT} (h : t ρ fun c => if c = true then Ψ true else u ρ Ψ) : aOr t u ρ Ψ := h
theorem wNot {t : AT} (h : t ρ fun c => Ψ (!c)) : aNot t ρ Ψ := h
theorem wYes (h : Ψ true) : aYes ρ Ψ := h
theorem wTr {a : AE} (h : a ρ (QTr Ψ)) : aTr a ρ Ψ := h
theorem wOrT {a b : AE} (h : a ρ fun x => ∃ k, truP x.dat k ∧ if k = true then Φ x else b ρ Φ) : aOrT a b ρ Φ := h
theorem wAndT {a b : AE} (h : a ρ fun x => ∃ k, truP x.dat k ∧ if k = true then b ρ Φ else Φ x) : aAndT a b ρ Φ := h
theorem wNotT {a : AE} (h : a ρ (QTr fun k => Φ (.d (.bool (!k))))) : aNotT a ρ Φ := h
theorem wBl {b : Bool} {Q : Bool → Prop} (h : Q b) : QBl Q (.d (.bool b)) := ⟨b, rfl, h⟩
theorem wI {f : Int → Int → PyData} {i j : Int} (h : Φ (.d (f i j))) : aI f (.d (.int i)) (.d (.int j)) Φ := ⟨i, j, rfl, rfl, h⟩
theorem wIc {C : Int → Int → Prop} {f : Int → Int → PyData} {i j : Int} (c : C i j) (h : Φ (.d (f i j))) : aIc C f (.d (.int i)) (.d (.int j)) Φ := ⟨i, j, rfl, rfl, c, h⟩
theorem wNeg {f : Int → Int} {i : Int} (h : Φ (.d (.int (f i)))) : aNeg f (.d (.int i)) Φ := ⟨i, rfl, h⟩
theorem wEqS {x y : Str} (h : Φ (.d (.bool (decide (V.str x = V.str y))))) : aEq (.d (.str x)) (.d (.str y)) Φ := ⟨rfl, rfl, rfl, h⟩
theorem wNeS {x y : Str} (h : Φ (.d (.bool (!decide (V.str x = V.str y))))) : aNe (.d (.str x)) (.d (.str y)) Φ := ⟨rfl, rfl, rfl, h⟩
theorem wEqI {x y : Int} (h : Φ (.d (.bool (decide (V.int x = V.int y))))) : aEq (.d (.int x)) (.d (.int y)) Φ := ⟨rfl, rfl, rfl, h⟩
theorem wNeI {x y : Int} (h : Φ (.d (.bool (!decide (V.int x = V.int y))))) : aNe (.d (.int x)) (.d (.int y)) Φ := ⟨rfl, rfl, rfl, h⟩
theorem wEqB {x y : Bool} (h : Φ (.d (.bool (decide (V.bl x = V.bl y))))) : aEq (.d (.bool x)) (.d (.bool y)) Φ := ⟨rfl, rfl, rfl, h⟩
theorem wNeB {x y : Bool} (h : Φ (.d (.bool (!decide (V.bl x = V.bl y))))) : aNe (.d (.bool x)) (.d (.bool y)) Φ := ⟨rfl, rfl, rfl, h⟩
theorem wIsN {x : AV} (v : x.isV = true) (h : Φ (.d (.bool (isNon x.dat)))) : aIsN x (.d .none) Φ := ⟨v, rfl, h⟩
theorem wNotN {x : AV} (v : x.isV = true) (h : Φ (.d (.bool (!isNon x.dat)))) : aNotN x (.d .none) Φ := ⟨v, rfl, h⟩
theorem wIsB {a b : Bool} (h : Φ (.d (.bool (decide (a = b))))) : aIsB (.d (.bool a)) (.d (.bool b)) Φ := ⟨a, b, rfl, rfl, h⟩
theorem wNotB {a b : Bool} (h : Φ (.d (.bool (!decide (a = b))))) : aNotB (.d (.bool a)) (.d (.bool b)) Φ := ⟨a, b, rfl, rfl, h⟩
theorem wIn {x : AV} {y : AV} {xs : List PyData} (s : seqP y.dat = some xs) (f1 : flatP x.dat = true) (f2 : xs.all flatP = true) (h : Φ (.d (.bool (inV (fV x.dat) (xs.map fV))))) : aIn false x y Φ := ⟨xs, s, f1, f2, h⟩
theorem wNotIn {x : AV} {y : AV} {xs : List PyData} (s : seqP y.dat = some xs) (f1 : flatP x.dat = true) (f2 : xs.all flatP = true) (h : Φ (.d (.bool (!inV (fV x.dat) (xs.map fV))))) : aIn true x y Φ := ⟨xs, s, f1, f2, h⟩
theorem wIxT {x : AV} {xs : List PyData} {i : Int} {e : PyData} (s : x.dat = .tuple xs) (g : atI xs i = some e) (h : Φ (x.sub e)) : aIxT x (.d (.int i)) Φ := ⟨xs, i, e, s, rfl, g, h⟩
theorem wIxL {x : AV} {xs : List PyData} {i : Int} {e : PyData} (s : x.dat = .list xs) (g : atI xs i = some e) (h : Φ (x.sub e)) : aIxL x (.d (.int i)) Φ := ⟨xs, i, e, s, rfl, g, h⟩
theorem wIx {x : AV} {xs : List PyData} {i : Int} {e : PyData} (s : seqP x.dat = some xs) (g : atI xs i = some e) (h : Φ (x.sub e)) : aIx x (.d (.int i)) Φ := ⟨xs, i, e, s, rfl, g, h⟩
theorem wCat {xs ys : List PyData} (l : xs.length + ys.length ≤ 100000) (h : Φ (.d (.tuple (xs ++ ys)))) : aCat (.d (.tuple xs)) (.d (.tuple ys)) Φ := ⟨xs, ys, rfl, rfl, l, h⟩
theorem wCatE {x y : PyData} {xs ys : List PyData} (e1 : x = .tuple xs) (e2 : y = .tuple ys) (l : xs.length + ys.length ≤ 100000) (h : Φ (.d (.tuple (xs ++ ys)))) : aCat (.d x) (.d y) Φ := ⟨xs, ys, by rw [e1], by rw [e2], l, h⟩
theorem wCatL {f g : Bool} {xs ys : List PyData} (l : xs.length + ys.length ≤ 100000) (h : Φ (.l true (xs ++ ys))) : aCatL (.l f xs) (.l g ys) Φ := ⟨f, g, xs, ys, rfl, rfl, l, h⟩
theorem wSl {r : ASl} {a : AE} {lo hi : AO} (h : a ρ fun x => lo ρ fun l => hi ρ fun h => r x l h Φ) : aSl r a lo hi ρ Φ := h
theorem wNoPart {Q : Option Int → Prop} (h : Q none) : aNoPart ρ Q := h
theorem wPart {a : AE} {Q : Option Int → Prop} (h : a ρ (QPart Q)) : aPart a ρ Q := h
theorem wPi {i : Int} {Q : Option Int → Prop} (h : Q (some i)) : QPart Q (.d (.int i)) := ⟨i, rfl, h⟩
theorem wSlT {xs : List PyData} {lo hi : Option Int} (h : Φ (.d (.tuple (cutP xs lo hi)))) : aSlT (.d (.tuple xs)) lo hi Φ := ⟨xs, rfl, h⟩
theorem wSlTE {x : PyData} {xs : List PyData} {lo hi : Option Int} (e : x = .tuple xs) (h : Φ (.d (.tuple (cutP xs lo hi)))) : aSlT (.d x) lo hi Φ := ⟨xs, by rw [e], h⟩
theorem wLen {x : AV} {xs : List PyData} (s : seqP x.dat = some xs) (h : Φ (.d (.int (xs.length : Nat)))) : aLen [x] Φ := ⟨x, xs, rfl, s, h⟩
theorem wTupL {x : AV} {xs : List PyData} (e : x.dat = .list xs) (i : immAll xs = true) (h : Φ (.d (.tuple xs))) : aTupOf [x] Φ := ⟨x, xs, rfl, .inr ⟨e, i⟩, h⟩
theorem wIntI {i : Int} (h : Φ (.d (.int i))) : aInt1 [.d (.int i)] Φ := ⟨_, rfl, .inl ⟨i, rfl, h⟩⟩
theorem wIntB {b : Bool} (h : Φ (.d (.int (if b then 1 else 0)))) : aInt1 [.d (.bool b)] Φ := ⟨_, rfl, .inr ⟨b, rfl, h⟩⟩
theorem wAbs {i : Int} (h : Φ (.d (.int (if i < 0 then -i else i)))) : aAbs [.d (.int i)] Φ := ⟨_, i, rfl, rfl, h⟩
theorem wMin2 {i j : Int} (h : Φ (.d (.int (if j < i then j else i)))) : aMin2 [.d (.int i), .d (.int j)] Φ := ⟨_, _, i, j, rfl, rfl, rfl, h⟩
theorem wCall {asp : ASp} {X : Exc → Prop} {a : AA} (h : a ρ (QCall asp Φ X)) : aCall asp X a ρ Φ := h
theorem wApp {i : Nat} {a : AE} {xs : List PyData} (e : ρ[i]? = some (some (.l false xs))) (h : a ρ fun y => y.isS = true ∧ xs.length ≤ 100000 ∧ D.nx (ρ.set i (some (.l false (xs ++ [y.dat]))))) : aApp i a D ρ := ⟨xs, e, h⟩
theorem wPop {i : Nat} {g : AG} {xs : List PyData} {y : PyData} (e : ρ[i]? = some (some (.l false (xs ++ [y])))) (h : g (pdv y) (ρ.set i (some (.l false xs))) D.nx) : aPop i g D ρ := ⟨xs, y, e, h⟩
theorem wITup {a : AE} {R : Bool → List AV → Prop} (h : a ρ (QIT R)) : aITup a ρ R := h
theorem wIList {a : AE} {R : Bool → List AV → Prop} (h : a ρ (QIL R)) : aIList a ρ R := h
/-- for, with what is frozen -/
theorem wFor {w : AI} {g : AG} {b : AS} (fs : List Nat) (h : w (fz ρ fs) (QFor (fz ρ fs) g b D)) : aFor w g b D ρ := ⟨fs, h⟩
theorem wFor0 {w : AI} {g : AG} {b : AS} (h : w ρ (QFor ρ g b D)) : aFor w g b D ρ := ⟨[], h⟩
theorem wLc {w : AI} {g : AG} {t : AT} {a : AE} {vs sl : List Nat} (h : w ρ (QLc g t a vs sl ρ Φ)) : aLc w g t a vs sl ρ Φ := h
end
/-- a comprehension that gives f x for each x of which p is true -/
theorem lcF {c : Bool} {α : Type} {its : List AV} (xs : List α) (f : α → PyData) (p : α → Bool) (s : α → AV) {g : AG} {t : AT} {a : AE} {vs sl : List Nat} {ρ : Rho} {Φ : AV → Prop} (e : its = xs.map s) (sub : ∀ j ∈ sl, j ∈ vs) (few : xs.length ≤ 100000)
    (turn : ∀ x, x ∈ xs → ∀ (P1 : PyData → Prop) (P0 : Prop), (p x = true → P1 (f x)) → (p x = false → P0) → g (s x) (wipeR ρ vs) fun ρ2 => t ρ2 fun k => if k = true then a ρ2 fun y => y.isS = true ∧ P1 y.dat else P0) (h : Φ (.l true ((xs.filter p).map f))) :
    QLc g t a vs sl ρ Φ c its := by
  subst e
  refine ⟨sub, by rw [List.length_map]; exact few, fun i acc => acc = ((xs.take i).filter p).map f, rfl, ?_, ?_⟩
  · rintro i x acc hx rfl _
    rw [List.getElem?_map] at hx
    cases hq : xs[i]? with
    | none => rw [hq] at hx; cases hx
    | some z =>
      rw [hq] at hx
      cases hx
      refine turn z (List.mem_of_getElem? hq) (fun d => (((xs.take i).filter p).map f) ++ [d] = ((xs.take (i + 1)).filter p).map f) (((xs.take i).filter p).map f = ((xs.take (i + 1)).filter p).map f) (fun c => ?_) fun c => ?_
      · rw [take_next hq, List.filter_append, List.map_append]
        simp [List.filter_cons, c]
      · rw [take_next hq, List.filter_append, List.map_append]
        simp [List.filter_cons, c]
  · rintro acc _ rfl
    rw [List.length_map, List.take_length]
    exact h
/-- a comprehension that gives f x for each x -/
theorem lcM {c : Bool} {α : Type} {its : List AV} (xs : List α) (f : α → PyData) (s : α → AV) {g : AG} {a : AE} {vs sl : List Nat} {ρ : Rho} {Φ : AV → Prop} (e : its = xs.map s) (sub : ∀ j ∈ sl, j ∈ vs) (few : xs.length ≤ 100000)
    (turn : ∀ x, x ∈ xs → ∀ (P : PyData → Prop), P (f x) → g (s x) (wipeR ρ vs) fun ρ2 => a ρ2 fun y => y.isS = true ∧ P y.dat) (h : Φ (.l true (xs.map f))) :
    QLc g aYes a vs sl ρ Φ c its := by
  refine lcF xs f (fun _ => true) s e sub few (fun x hx P1 P0 h1 _ => ?_) (by rw [List.filter_eq_self.mpr fun _ _ => rfl]; exact h)
  have e : ∀ ρ2, (aYes ρ2 fun k => if k = true then a ρ2 fun y => y.isS = true ∧ P1 y.dat else P0) = a ρ2 fun y => y.isS = true ∧ P1 y.dat := fun ρ2 => by
    unfold aYes
    simp
  simp only [e]
  exact turn x hx P1 (h1 rfl)
section
variable {Φ : AV → Prop} {X : Exc → Prop} {asp : ASp} {a b c d e f : PyData}
theorem wT0 (h : Φ (.d (.tuple []))) : QT Φ [] := ⟨rfl, by decide, h⟩
theorem wT1 (h : Φ (.d (.tuple [a]))) : QT Φ [.d a] := ⟨rfl, (by simp), h⟩
theorem wT2 (h : Φ (.d (.tuple [a, b]))) : QT Φ [.d a, .d b] := ⟨rfl, (by simp), h⟩
theorem wT3 (h : Φ (.d (.tuple [a, b, c]))) : QT Φ [.d a, .d b, .d c] := ⟨rfl, (by simp), h⟩
theorem wT4 (h : Φ (.d (.tuple [a, b, c, d]))) : QT Φ [.d a, .d b, .d c, .d d] := ⟨rfl, (by simp), h⟩
theorem wT5 (h : Φ (.d (.tuple [a, b, c, d, e]))) : QT Φ [.d a, .d b, .d c, .d d, .d e] := ⟨rfl, (by simp), h⟩
theorem wTn {xs : List AV} (v : xs.all AV.isV = true) (l : xs.length ≤ 100000) (h : Φ (mkT xs)) : QT Φ xs := ⟨v, l, h⟩
theorem wLn {xs : List AV} {ys : List PyData} (v : xs.all AV.isS = true) (l : xs.length ≤ 100000) (e : xs.map AV.dat = ys) (h : Φ (.l true ys)) : QL Φ xs := ⟨v, l, by rw [e]; exact h⟩
theorem wA1 (h : asp [.d a] Φ X) : QCall asp Φ X [.d a] := ⟨.inl rfl, h⟩
theorem wA2 (h : asp [.d a, .d b] Φ X) : QCall asp Φ X [.d a, .d b] := ⟨.inl rfl, h⟩
theorem wA3 (h : asp [.d a, .d b, .d c] Φ X) : QCall asp Φ X [.d a, .d b, .d c] := ⟨.inl rfl, h⟩
theorem wA4 (h : asp [.d a, .d b, .d c, .d d] Φ X) : QCall asp Φ X [.d a, .d b, .d c, .d d] := ⟨.inl rfl, h⟩
theorem wA5 (h : asp [.d a, .d b, .d c, .d d, .d e] Φ X) : QCall asp Φ X [.d a, .d b, .d c, .d d, .d e] := ⟨.inl rfl, h⟩
theorem wR0 (h : asp [.row] Φ X) : QCall asp Φ X [.row] := ⟨.inr ⟨_, rfl, rfl⟩, h⟩
theorem wR1 (h : asp [.row, .d a] Φ X) : QCall asp Φ X [.row, .d a] := ⟨.inr ⟨_, rfl, rfl⟩, h⟩
theorem wR2 (h : asp [.row, .d a, .d b] Φ X) : QCall asp Φ X [.row, .d a, .d b] := ⟨.inr ⟨_, rfl, rfl⟩, h⟩
theorem wR3 (h : asp [.row, .d a, .d b, .d c] Φ X) : QCall asp Φ X [.row, .d a, .d b, .d c] := ⟨.inr ⟨_, rfl, rfl⟩, h⟩
theorem wAn {vs us : List AV} (c : vs.all AV.isA = true) (e : vs.map AV.arg = us) (h : asp us Φ X) : QCall asp Φ X vs := ⟨.inl c, by rw [e]; exact h⟩
theorem wKeepB {b : Bool} {Q : Bool → Prop} (h : Q b) : QTr Q (.d (.bool b)) := ⟨b, rfl, h⟩
theorem wTruS {x : AV} {xs : List PyData} {Q : Bool → Prop} (e : seqP x.dat = some xs) (h : Q (!xs.isEmpty)) : QTr Q x := by
  refine ⟨_, ?_, h⟩
  cases q : x.dat with
  | list z => rw [q] at e; cases e; exact rfl
  | tuple z => rw [q] at e; cases e; exact rfl
  | _ => rw [q] at e; cases e
theorem pd_im {x : PyData} (h : imm x = true) : pdv x = .d x := if_pos h
theorem subp_im {x y : PyData} (h : imm y = true) : (AV.p x).sub y = .d y := if_pos h
theorem subl_im {g : Bool} {x : List PyData} {y : PyData} (h : imm y = true) : (AV.l g x).sub y = .d y := if_pos h
theorem subt_im {x y : PyData} (h : imm y = true) : (AV.t x).sub y = .d y := if_pos h
end
theorem wGT2 {t : List AV → Rho → (Rho → Prop) → Prop} {ρ : Rho} {Q : Rho → Prop} {y a b : PyData} (e : y = .tuple [a, b]) (h : t [.d a, .d b] ρ Q) : aGTup 2 t (.d y) ρ Q := ⟨[a, b], e, rfl, h⟩
theorem wGT3 {t : List AV → Rho → (Rho → Prop) → Prop} {ρ : Rho} {Q : Rho → Prop} {y a b c : PyData} (e : y = .tuple [a, b, c]) (h : t [.d a, .d b, .d c] ρ Q) : aGTup 3 t (.d y) ρ Q := ⟨[a, b, c], e, rfl, h⟩

/-! ### sizes, words, drawings as data -/
def dSz (w h : Nat) : PyData := .tuple [.int w, .int h]
def dWs (l : List Str) : PyData := .tuple (l.map PyData.str)
theorem immAll_map {α : Type} {f : α → PyData} (h : ∀ x, imm (f x) = true) : ∀ l : List α, immAll (l.map f) = true
  | [] => rfl
  | x :: l => by rw [List.map_cons, immAll, h x, immAll_map h l]; rfl
theorem imm_sz (w h : Nat) : imm (dSz w h) = true := rfl
theorem imm_ws (l : List Str) : imm (dWs l) = true := tup_imm (immAll_map (fun _ => rfl) l)
theorem imm_row (l : List Co) : imm (dRow l) = true := tup_imm (immAll_map (fun _ => rfl) l)
theorem imm_rows (l : List (List Co)) : imm (dRows l) = true := tup_imm (immAll_map imm_row l)
section
variable {K : PySem.W.Frag} {ec : EC} {H H' : Hp} {v : V} {ro : Option Addr}
theorem dpAll_inv1 {f : α → PyData} {g : α → V} (h : ∀ {v x}, Dp K H v (f x) → v = g x) : ∀ {vs : List V} {l : List α}, DpAll K H vs (l.map f) → vs = l.map g
  | _, [], .nil => rfl
  | _, x :: l, .cons a b => by rw [h a, dpAll_inv1 h b]; rfl
theorem dp_sz {w h : Nat} (d : Dp K H v (dSz w h)) : ∃ p, v = .ref p ∧ SqT K H p [.int w, .int h] := by
  cases d with
  | tup q a =>
    cases a with | cons a1 a =>
    cases a with | cons a2 a =>
    cases a
    have e1 := dp_int a1
    have e2 := dp_int a2
    subst e1 e2
    exact ⟨_, rfl, q⟩
theorem sz_dp {p : Addr} {w h : Nat} (q : SqT K H p [.int w, .int h]) : Dp K H (.ref p) (dSz w h) := .tup q (.cons (.int _) (.cons (.int _) .nil))
theorem dp_ws {l : List Str} (d : Dp K H v (dWs l)) : ∃ p, v = .ref p ∧ SqT K H p (ws l) := by
  cases d with
  | tup q a =>
    have e := dpAll_inv1 (f := PyData.str) (g := V.str) (fun z => dp_str z) a
    subst e
    exact ⟨_, rfl, q⟩
theorem ws_dp {p : Addr} {l : List Str} (q : SqT K H p (ws l)) : Dp K H (.ref p) (dWs l) := .tup q (strs_dp l)
theorem dp_row {l : List Co} (d : Dp K H v (dRow l)) : ∃ p, v = .ref p ∧ SqT K H p (cs l) := by
  cases d with
  | tup q a =>
    have e := dpAll_inv1 (f := fun c : Co => PyData.str c.s) (g := fun c => V.str c.s) (fun z => dp_str z) a
    subst e
    exact ⟨_, rfl, q⟩
theorem dp_rowsAll : ∀ {vs : List V} {rows : List (List Co)}, DpAll K H vs (rows.map dRow) → ∃ as : List Addr, vs = as.map V.ref ∧ Paired (fun a row => SqT K H a (cs row)) as rows
  | _, [], .nil => ⟨[], rfl, .nil⟩
  | _, r :: rows, .cons a b => by
    obtain ⟨p, rfl, h⟩ := dp_row a
    obtain ⟨as, rfl, q⟩ := dp_rowsAll b
    exact ⟨p :: as, rfl, .cons h q⟩
theorem dp_rows {rows : List (List Co)} (d : Dp K H v (dRows rows)) : ∃ p, v = .ref p ∧ Drw K H p rows := by
  cases d with
  | tup q a =>
    obtain ⟨as, rfl, z⟩ := dp_rowsAll a
    exact ⟨_, rfl, as, q, z⟩
theorem rows_dp {p : Addr} {rows : List (List Co)} (d : Drw K H p rows) : Dp K H (.ref p) (dRows rows) := d.dp
/-- the arguments -/
theorem arg1 {vs : List V} {x : PyData} (p : Paired (argOk K ro H) vs [.d x]) : ∃ v, vs = [v] ∧ Dp K H v x := by
  cases p with | cons a p =>
  cases p
  exact ⟨_, rfl, a.2⟩
theorem arg2 {vs : List V} {x y : PyData} (p : Paired (argOk K ro H) vs [.d x, .d y]) : ∃ v u, vs = [v, u] ∧ Dp K H v x ∧ Dp K H u y := by
  cases p with | cons a p =>
  cases p with | cons b p =>
  cases p
  exact ⟨_, _, rfl, a.2, b.2⟩
theorem arg3 {vs : List V} {x y z : PyData} (p : Paired (argOk K ro H) vs [.d x, .d y, .d z]) : ∃ v u w, vs = [v, u, w] ∧ Dp K H v x ∧ Dp K H u y ∧ Dp K H w z := by
  cases p with | cons a p =>
  cases p with | cons b p =>
  cases p with | cons c p =>
  cases p
  exact ⟨_, _, _, rfl, a.2, b.2, c.2⟩
theorem arg4 {vs : List V} {x y z t : PyData} (p : Paired (argOk K ro H) vs [.d x, .d y, .d z, .d t]) : ∃ v u w s, vs = [v, u, w, s] ∧ Dp K H v x ∧ Dp K H u y ∧ Dp K H w z ∧ Dp K H s t := by
  cases p with | cons a p =>
  cases p with | cons b p =>
  cases p with | cons c p =>
  cases p with | cons e p =>
  cases p
  exact ⟨_, _, _, _, rfl, a.2, b.2, c.2, e.2⟩
theorem arg5 {vs : List V} {x y z t u : PyData} (p : Paired (argOk K ro H) vs [.d x, .d y, .d z, .d t, .d u]) : ∃ a b c d e, vs = [a, b, c, d, e] ∧ Dp K H a x ∧ Dp K H b y ∧ Dp K H c z ∧ Dp K H d t ∧ Dp K H e u := by
  cases p with | cons a p =>
  cases p with | cons b p =>
  cases p with | cons c p =>
  cases p with | cons e p =>
  cases p with | cons f p =>
  cases p
  exact ⟨_, _, _, _, _, rfl, a.2, b.2, c.2, e.2, f.2⟩
theorem argR {vs : List V} {as : List AV} (p : Paired (argOk K ro H) vs (.row :: as)) : ∃ r us, ro = some r ∧ vs = .ref r :: us ∧ Paired (argOk K ro H) us as := by
  cases p with | cons a p =>
  obtain ⟨r, e1, e2⟩ := a
  subst e2
  exact ⟨r, _, e1, rfl, p⟩
theorem argN {vs : List V} (p : Paired (argOk K ro H) vs []) : vs = [] := by cases p; rfl
theorem retD {x : PyData} {H0 : Hp} (i : imm x = true) (d : Dp K H v x) : Ret K H0 H v (.d x) := ⟨i, d⟩
theorem retI {i : Int} {H0 : Hp} : Ret K H0 H (.int i) (.d (.int i)) := ⟨rfl, .int i⟩
theorem retB {i : Bool} {H0 : Hp} : Ret K H0 H (.bl i) (.d (.bool i)) := ⟨rfl, .bl i⟩
theorem retS {i : Str} {H0 : Hp} : Ret K H0 H (.str i) (.d (.str i)) := ⟨rfl, .str i⟩
theorem retN {H0 : Hp} : Ret K H0 H .non (.d .none) := ⟨rfl, .non⟩
theorem rowSame (r : RowOk K ro H) (s : Same H H') : RowOk K ro H' := fun a e => (r a e).same s
theorem rowOf {r : Addr} (h : Row K H r) : RowOk K (some r) H := fun a e => by cases e; exact h
end
/-! ### a law -/
def spLaw (K : PySem.W.Frag) : Sp := fun vs H Q _ => ∃ (a : Addr) (ns : List Int), vs = [.ref a] ∧ SqF K H a (ns.map V.int) ∧ ns.length ≤ 63 ∧ ∀ H', Q (.bl true) H'
/-- behind its first row, which makes the reader -/
theorem runLaw {K : PySem.W.Frag} {n : Nat} {N : List Str} {a : Addr} {ns : List Int} {H : Hp} {Q : VK} {ts : TS} (hS : SqF K H a (ns.map V.int)) (hl : ns.length ≤ 63) (q : ∀ H', Q (.bl true) H')
    (body : ∀ F : Fr K ec0, ∃ (aS : AS) (_ : SS F ts aS), aS { nx := fun _ => False, rt := fun av => av = .d (.bool true) } (none :: some .row :: List.replicate n none)) (hN : N.length = n + 2 := by rfl) :
    tSeq (tAsg (tLst (tCons (tVar 0) (tCons (tC (.int 0)) (tCons (tC (.int 0)) (tCons (tC (.int 0)) tNil))))) (gName 1)) ts { nx := fun _ H' => Q .non H', rt := Q } (L2.start N [.ref a]) H := by
  have e0 : L2.start N [.ref a] = some (.ref a) :: none :: List.replicate n none := by
    unfold L2.start
    rw [hN]
    rfl
  rw [e0]
  refine ⟨_, rfl, Nat.le_of_ble_eq_true rfl, fun r nr => ?_⟩
  have R : Row K (upd H r (.lst [.ref a, .int 0, .int 0, .int 0])) r := ⟨a, ns, 0, 0, 0, upd_same, (imm_of_same (same_new nr)).sqF hS, by decide, by decide, by decide, by decide, by omega⟩
  obtain ⟨aS, inst, g⟩ := body ⟨some r, upd H r (.lst [.ref a, .int 0, .int 0, .int 0]), fun _ _ _ => True, fun _ => False, fun _ _ _ _ z => z.elim⟩
  refine inst.snd (fun _ => False) (none :: some .row :: List.replicate n none) _ _ _ _ ⟨?_, Eff.refl _ _, rowOf R, fun _ z => z.elim, ?_, ?_, ?_⟩ g ⟨fun _ _ _ _ z => z.elim, fun _ _ _ _ z => z.elim, fun _ _ _ _ z => z.elim, ?_⟩
  · simp
  · intro i x e
    match i with
    | 0 => cases e
    | 1 => cases e
    | i + 2 =>
      simp only [List.getElem?_cons_succ, List.getElem?_replicate] at e
      split at e <;> cases e
  · intro i av e
    match i with
    | 0 => cases e
    | 1 =>
      cases e
      exact ⟨_, rfl, r, rfl, rfl⟩
    | i + 2 =>
      simp only [List.getElem?_cons_succ, List.getElem?_replicate] at e
      split at e <;> cases e
  · intro i j xs ys _ e
    match i with
    | 0 => cases e
    | 1 => cases e
    | i + 2 =>
      simp only [List.getElem?_cons_succ, List.getElem?_replicate] at e
      split at e <;> cases e
  · rintro v av H' rfl _ _ ret
    have := dp_bl ret.2
    subst this
    exact q H'

/-! ### zip of a list and a tuple -/
/-- the list at p, the tuple at q -/
def ItzM (K : PySem.W.Frag) (p q : Addr) : It where
  go := fun n G => ∃ us ws u v, (SqL K G p us ∧ us[n]? = some u) ∧ SqT K G q ws ∧ ws[n]? = some v
  yld := fun n G r G' => ∃ T u v, r = .ref T ∧ G T = none ∧ G' = upd G T (.tup [u, v]) ∧ (∀ us, SqL K G p us → us[n]? = some u) ∧ ∀ ws, SqT K G q ws → ws[n]? = some v
  stop := fun n G => ∃ us ws, SqL K G p us ∧ SqT K G q ws ∧ n = min us.length ws.length
theorem five {c z TI TO i1 i2 : Addr} (h : c ∈ [z, TI, TO, i1, i2]) : c = z ∨ c = TI ∨ c = TO ∨ c = i1 ∨ c = i2 := by simpa using h
/-- how a zip of both stands -/
def StM (z TI TO i1 i2 p q : Addr) (n : Nat) (g : Heap) : Prop :=
  IsZip g z TI TO .none ∧ IsTupOf2 g TI (.ref i1) (.ref i2) ∧ (∃ x y, IsTupOf2 g TO x y) ∧ g.IsListIter i1 p n ∧ g.IsTupleIter i2 q n
theorem StM.low {z TI TO i1 i2 p q : Addr} {n : Nat} {g : Heap} (st : StM z TI TO i1 i2 p q n g) {c : Addr} (h : c ∈ [z, TI, TO, i1, i2]) : ∃ o, g.get? c = some o ∧ ∀ v, o.data ≠ .cell v := by
  obtain ⟨s1, s2, ⟨x, y, s3⟩, ⟨o4, s4, _, d4⟩, ⟨o5, s5, _, d5⟩⟩ := st
  rcases five h with e | e | e | e | e <;> subst e
  · exact ⟨_, s1, fun _ w => nomatch w⟩
  · exact ⟨_, s2, fun _ w => nomatch w⟩
  · exact ⟨_, s3, fun _ w => nomatch w⟩
  · exact ⟨o4, s4, fun _ w => by rw [d4] at w; cases w⟩
  · exact ⟨o5, s5, fun _ w => by rw [d5] at w; cases w⟩
theorem StM.moved {z TI TO i1 i2 p q : Addr} {n : Nat} {g g' : Heap} (st : StM z TI TO i1 i2 p q n g) (k : ∀ c ∈ [z, TI, TO, i1, i2], ∀ o, g.get? c = some o → g'.get? c = some o) : StM z TI TO i1 i2 p q n g' := by
  obtain ⟨s1, s2, ⟨x, y, s3⟩, s4, s5⟩ := st
  exact ⟨k z (by simp) _ s1, k TI (by simp) _ s2, ⟨x, y, k TO (by simp) _ s3⟩, s4.at fun o w => k i1 (by simp) o w, s5.at fun o w => k i2 (by simp) o w⟩
theorem turn_zipM {P : Program} {w : World} {K : PySem.W.Frag} {elts : List Expr} {kk : Nat} {tpos : Pos} {p q z TI TO i1 i2 : Addr} (S : ZipSep2 z TI TO i1 i2 [i1, p] [i2, q]) :
    Turn P w K (.Tuple elts kk tpos) (ItzM K p q) [z, TI, TO, i1, i2] z (StM z TI TO i1 i2 p q) where
  mem := List.mem_cons_self
  obj := fun n g st c hc => st.low hc
  keep := fun n g g' st k => st.moved k
  item := by
    intro X eP ew eK calm n pins s σ G E I fresh st go
    subst eP ew eK
    obtain ⟨us, ws, u, v, ⟨hus, hu⟩, hws, hv⟩ := go
    obtain ⟨its1, r1, lst, _⟩ := I.list hus
    obtain ⟨its2, r2, tup, _⟩ := I.tuple hws
    obtain ⟨a1, ha1, ra1⟩ := r1.get hu
    obtain ⟨a2, ha2, ra2⟩ := r2.get hv
    obtain ⟨s1, s2, ⟨x0, y0, s3⟩, s4, s5⟩ := st
    have hd := I.ok.hd calm
    have np : p ≠ i1 := fun e => by
      obtain ⟨o, ho, hc, _⟩ := s4
      have := lst.isList
      obtain ⟨o', ho', hc', _⟩ := this
      rw [e, ho] at ho'
      cases ho'
      rw [hc] at hc'
      injection hc' with w
      exact absurd w (by decide)
    have nq : q ≠ i2 := fun e => by
      obtain ⟨o, ho, hc, _⟩ := s5
      obtain ⟨o', ho', hc', _⟩ := tup
      rw [e, ho] at ho'
      cases ho'
      rw [hc] at hc'
      injection hc' with w
      exact absurd w (by decide)
    have D1 := Draws.list (prog := X.prog) (w := X.w) (A := X.A.in1) hd i1 p np its1.toArray
    have D2 := Draws.tuple (prog := X.prog) (w := X.w) (A := X.A.in1) hd i2 q nq its2.toArray
    have lt1 : n < its1.toArray.size := by rw [List.size_toArray]; exact (List.getElem?_eq_some_iff.mp ha1).1
    have lt2 : n < its2.toArray.size := by rw [List.size_toArray]; exact (List.getElem?_eq_some_iff.mp ha2).1
    have lowz : z < s.heap.objs.size := Heap.lt_size s1
    refine wpAny_pyNext_zipD2_item S D1 D2 s1 s2 s3 ⟨s4, lst.isList⟩ ⟨s5, tup⟩ lt1 lt2 fun b1 b2 g1 tk h1 h2 z1 t1 st1 st2 new size1 kept1 => ?_
    have e1 : b1 = a1 := by
      rw [List.getElem?_toArray, ha1] at h1
      exact (Option.some.inj h1).symm
    have e2 : b2 = a2 := by
      rw [List.getElem?_toArray, ha2] at h2
      exact (Option.some.inj h2).symm
    subst e1 e2
    refine ⟨_, rfl, wpAny_letOwnedTupleGo_zip (s := { s with heap := g1, toks := tk }) z1 fun g2 z2 but => ?_⟩
    have new2 : g2.get? s.heap.objs.size = some { cls := .type "tuple", data := .seq #[b1, b2] } := (but.2 _ (Nat.ne_of_gt lowz)).trans new
    have okT : ObjOk X.prog X.w (upd G s.heap.objs.size (.tup [u, v])) g2 s.heap.objs.size (.tup [u, v]) :=
      ⟨Nat.le_of_ble_eq_true rfl, [b1, b2], .cons ra1 (.cons ra2 .nil), _, new2, rfl, _, rfl⟩
    have old : ∀ c o, c ∉ [z, TI, TO, i1, i2] → s.heap.get? c = some o → g2.get? c = some o := fun c o nc w => by
      have hz : c ≠ z := fun e => nc (by simp [e])
      exact (but.2 c hz).trans (kept1 c o hz (fun e => nc (by simp [e])) (fun e => nc (by simp [e])) (fun e => nc (by simp [e])) w)
    have I1 : Inv X pins σ (upd G s.heap.objs.size (.tup [u, v])) { s with heap := g2, toks := tk } := I.turnedNew (ch := [z, TI, TO, i1, i2]) (fun c o nc w => old c o nc w) fresh (Nat.le_refl _) okT
    refine ⟨.ref s.heap.objs.size, _, I1, rfl, ⟨_, u, v, rfl, I.hok.fresh (Nat.le_refl _), rfl, fun us' h => ?_, fun ws' h => ?_⟩, ⟨z2, ?_, ⟨b1, b2, ?_⟩, ?_, ?_⟩, fun c hc => ?_⟩
    · rw [I.list_inj h hus]; exact hu
    · rw [I.tuple_inj h hws]; exact hv
    · exact (but.2 _ S.TIz).trans (kept1 _ _ S.TIz S.TITO S.TIi1 S.TIi2 s2)
    · exact (but.2 _ S.TOz).trans t1
    · exact st1.1.at fun o w => (but.2 _ (Ne.symm S.zi1)).trans w
    · exact st2.1.at fun o w => (but.2 _ (Ne.symm S.zi2)).trans w
    · have lowc : c < s.heap.objs.size := by
        obtain ⟨o, w, _⟩ := (show StM z TI TO i1 i2 p q n s.heap from ⟨s1, s2, ⟨x0, y0, s3⟩, s4, s5⟩).low hc
        exact Heap.lt_size w
      rw [upd_ne (Nat.ne_of_lt lowc)]
      exact (fresh c hc).1
  done := by
    intro X eP ew eK calm n pins s σ G E I fresh st stop
    subst eP ew eK
    obtain ⟨us, ws, hus, hws, e⟩ := stop
    obtain ⟨its1, r1, lst, _⟩ := I.list hus
    obtain ⟨its2, r2, tup, _⟩ := I.tuple hws
    obtain ⟨s1, s2, ⟨x0, y0, s3⟩, s4, s5⟩ := st
    have hd := I.ok.hd calm
    have np : p ≠ i1 := fun e => by
      obtain ⟨o, ho, hc, _⟩ := s4
      obtain ⟨o', ho', hc', _⟩ := lst.isList
      rw [e, ho] at ho'
      cases ho'
      rw [hc] at hc'
      injection hc' with w
      exact absurd w (by decide)
    have nq : q ≠ i2 := fun e => by
      obtain ⟨o, ho, hc, _⟩ := s5
      obtain ⟨o', ho', hc', _⟩ := tup
      rw [e, ho] at ho'
      cases ho'
      rw [hc] at hc'
      injection hc' with w
      exact absurd w (by decide)
    have D1 := Draws.list (prog := X.prog) (w := X.w) (A := X.A.in1) hd i1 p np its1.toArray
    have D2 := Draws.tuple (prog := X.prog) (w := X.w) (A := X.A.in1) hd i2 q nq its2.toArray
    have l1 : its1.toArray.size = us.length := by rw [List.size_toArray, r1.length]
    have l2 : its2.toArray.size = ws.length := by rw [List.size_toArray, r2.length]
    refine wpAny_pyNext_zipD2_end S D1 D2 s1 s2 s3 ⟨s4, lst.isList⟩ ⟨s5, tup⟩ (by omega) (by omega) (by omega) fun g1 tk kept1 => ⟨rfl, ?_⟩
    exact I.turnedL (ch := [z, TI, TO, i1, i2]) (fun c o nc w => kept1 c o (fun e => nc (by simp [e])) (fun e => nc (by simp [e])) (fun e => nc (by simp [e])) (fun e => nc (by simp [e])) w) fresh
  self := fun A n s Q E st h => wpAny_pyIter_zip st.1 h
def IZipMQ (K : PySem.W.Frag) (R : It → Hp → Prop) : List V → Hp → Prop := fun vs G => ∃ p q us ws, vs = [.ref p, .ref q] ∧ SqL K G p us ∧ SqT K G q ws ∧ R (ItzM K p q) G
def iZipM (K : PySem.W.Frag) (ta : TA) : TI := fun σ H R => ta σ H (IZipMQ K R)
theorem pi_zipM {X : Cx} {e e2 : Expr} {ta : TA} {p pos tpos : Pos} {elts : List Expr} {kk : Nat} (hg : Gl X "zip") (hm : X.mg "zip" = none) (ha : PA X [e, e2] ta)
    (two : starEach [e, e2] X.env = (false, eval e X.env) :: starEach [e2] X.env := by rfl) (one : (backTo pos (starEach [e2] X.env)).any (·.1) = false := by rfl) :
    PI X (.Tuple elts kk tpos) (.Call (.Name "zip" p) [e, e2] [] pos) (iZipM X.K ta) := by
  refine ⟨fun pins s σ H R I want => ?_⟩
  refine Call_ (ld_blt I hg hm boot_zip (callWith_type1 (thn (ha.run pos pins s σ H _ I want) fun vals s1 ⟨vs, G, I1, rel, a, b, us, ws, ev, hus, hws, q⟩ => ?_) two one))
  subst ev
  cases rel with | cons ra rel =>
  cases rel with | cons rb rel =>
  cases rel
  cases ra
  cases rb
  obtain ⟨its1, _, lst, _⟩ := I1.list hus
  obtain ⟨its2, _, tup, _⟩ := I1.tuple hws
  have lowA : a < s1.heap.objs.size := lst.lt
  have lowB : b < s1.heap.objs.size := by
    obtain ⟨o, w, _⟩ := tup
    exact Heap.lt_size w
  refine zip_begins2 (begins_list a its1.toArray) (begins_tuple b its2.toArray) lst.isList tup fun g z TI TO g1 g2 size1 kept => wpAny_pyIter_zip z ?_
  have S := zip_sep2 (N := s1.heap.objs.size) (fp1 := [a]) (fp2 := [b]) (fun c hc => by rw [List.mem_singleton.mp hc]; exact lowA) (fun c hc => by rw [List.mem_singleton.mp hc]; exact lowB)
  refine ⟨_, [s1.heap.objs.size + 4, s1.heap.objs.size + 2, s1.heap.objs.size + 3, s1.heap.objs.size, s1.heap.objs.size + 1], _, _, G, rfl, I1.kept (t' := s1.toks) kept, turn_zipM S, ⟨z, TI, ⟨_, _, TO⟩, ⟨_, g1, rfl, rfl⟩, ⟨_, g2, rfl, rfl⟩⟩, fun c hc => ?_, q⟩
  have young : s1.heap.objs.size ≤ c := by
    rcases five hc with e | e | e | e | e <;> rw [e]
    · exact Nat.le_add_right _ _
    · exact Nat.le_add_right _ _
    · exact Nat.le_add_right _ _
    · exact Nat.le_refl _
    · exact Nat.le_add_right _ _
  exact I1.fpOk young (I1.hok.fresh young)
theorem k_zipM {X : Cx} (K : PySem.W.Frag) {e e2 : Expr} {ta : TA} {p pos tpos : Pos} {elts : List Expr} {kk : Nat} (hg : Gl X "zip") (hm : X.mg "zip" = none) (ha : PA X [e, e2] ta) (hK : X.K = K := by rfl)
    (two : starEach [e, e2] X.env = (false, eval e X.env) :: starEach [e2] X.env := by rfl) (one : (backTo pos (starEach [e2] X.env)).any (·.1) = false := by rfl) :
    PI X (.Tuple elts kk tpos) (.Call (.Name "zip" p) [e, e2] [] pos) (iZipM K ta) := by
  subst hK
  exact pi_zipM hg hm ha two one
def aZipM (a : AA) : AI := fun ρ Φ => a ρ fun vs => ∃ x y xs ys, vs = [x, y] ∧ x = .p (.list xs) ∧ itT y = some ys ∧ Φ true (zipP pdv y.sub xs ys)
instance {K : PySem.W.Frag} {ec : EC} {F : Fr K ec} {ta : TA} {a : AA} [SA F ta a] : SI F (iZipM K ta) (aZipM a) where
  snd := fun Z ρ σ H Φ R o q k => by
    refine SA.snd (F := F) (te := ta) (ae := a) Z ρ σ H _ _ o q fun x ax H1 Z1 ⟨y, z, xs, ys, e, ey, ez, q1⟩ s1 r1 => ?_
    subst e ey
    cases r1 with | cons r1 t =>
    cases t with | cons r2 t =>
    cases t
    have o1 := o.step s1
    have r1 : Dp K (Vw F Z1 H1) _ (.list xs) := r1
    cases r1 with
    | @lst ad vs _ hq d =>
    obtain ⟨bd, us, rfl, hq2, d2, at2⟩ := itT_of o1.row r2 ez
    have l1 := dpAll_len d
    have l2 := dpAll_len d2
    refine ⟨ad, bd, vs, us, rfl, vw_same.seq hq, (imm_of_same vw_same).sqT hq2, k _ true _ (fun H => SqL K H ad vs ∧ SqT K H bd us) H1 Z1 q1 s1 ⟨?_, ?_, ?_, ?_, ?_⟩⟩
    · exact fun Z H s => ⟨vw_same.seq (s.vw.seq hq), (imm_of_same vw_same).sqT ((imm_of_same s.vw).sqT hq2)⟩
    · exact fun _ Z H s => ⟨vw_same.seq (s.seq hq), (imm_of_same vw_same).sqT ((imm_of_same s).sqT hq2)⟩
    · intro i H hi g
      rw [zipP_len] at hi
      exact ⟨vs, us, vs[i]'(by omega), us[i]'(by omega), ⟨g.1, List.getElem?_eq_getElem (by omega)⟩, g.2, List.getElem?_eq_getElem (by omega)⟩
    · exact fun H g => ⟨vs, us, g.1, g.2, by rw [zipP_len]; omega⟩
    · rintro i Z2 ρ2 σ2 H2 x H' hi g o2 st ⟨T, u, v, rfl, nT, rfl, y1, y2⟩
      obtain ⟨e0, h0, h1⟩ := pd_at d (vw_both st) o2.row i u (y1 vs g.1)
      obtain ⟨e1, g0, g1⟩ := at2 Z2 _ (vw_both st) i v (y2 us g.2)
      obtain ⟨p1, p2⟩ := rv_pair o2 nT h1 g1 (pdv_isV _) (sub_isV _ _)
      exact ⟨_, zipP_get h0 g0, p1, p2⟩
/-! ### x or y by truth, enumerate of a list: K by its name -/
theorem k_orT {X : Cx} (K : PySem.W.Frag) {a b : Expr} {rest : List Expr} {ta tb : TE} {pos : Pos} (ha : PE X a ta) (hb : PE X (.BoolOp .Or (b :: rest) pos) tb) (hK : X.K = K := by rfl) : PE X (.BoolOp .Or (a :: b :: rest) pos) (tOrT K ta tb) := by
  subst hK
  exact pe_orT ha hb
theorem k_andT {X : Cx} (K : PySem.W.Frag) {a b : Expr} {rest : List Expr} {ta tb : TE} {pos : Pos} (ha : PE X a ta) (hb : PE X (.BoolOp .And (b :: rest) pos) tb) (hK : X.K = K := by rfl) : PE X (.BoolOp .And (a :: b :: rest) pos) (tAndT K ta tb) := by
  subst hK
  exact pe_andT ha hb
theorem k_enumL {X : Cx} (K : PySem.W.Frag) {e : Expr} {ta : TA} {p pos tpos : Pos} {elts : List Expr} {kk : Nat} (hg : Gl X "enumerate") (hm : X.mg "enumerate" = none) (ha : PA X [e] ta)
    (hK : X.K = K := by rfl) (one : starEach [e] X.env = [(false, eval e X.env)] := by rfl) : PI X (.Tuple elts kk tpos) (.Call (.Name "enumerate" p) [e] [] pos) (iEnum K ta) := by
  subst hK
  exact pi_enum hg hm ha one
theorem k_inD {X : Cx} (K : PySem.W.Frag) (hu : X.A.units + 65 < cLine) (hK : X.K = K := by rfl) : OpR X (compareOp .In) (rInD K) := hK ▸ op_inD hu
theorem k_notInD {X : Cx} (K : PySem.W.Frag) (hu : X.A.units + 65 < cLine) (hK : X.K = K := by rfl) : OpR X (compareOp .NotIn) (rNotInD K) := hK ▸ op_notInD hu
/-! ### a comprehension with two clauses -/
def aLc2 (w : AI) (g : AG) (t : AT) (w1 : AI) (g1 : AG) (t1 : AT) (a : AE) (vs vs1 sl sl1 : List Nat) : AE := fun ρ Φ => w ρ fun _ its => ((∀ j ∈ sl, j ∈ vs) ∧ ∀ j ∈ sl1, j ∈ vs1) ∧ ∃ P : Nat → List PyData → Prop, P 0 [] ∧
  (∀ i x acc, its[i]? = some x → P i acc → g x (wipeR ρ vs) fun ρ2 => t ρ2 fun k => if k = true then
    w1 ρ2 fun c1 its1 => c1 = true ∧ ∃ P1 : Nat → List PyData → Prop, P1 0 acc ∧
      (∀ j y acc1, its1[j]? = some y → P1 j acc1 → g1 y (wipeR ρ2 vs1) fun ρ3 => t1 ρ3 fun k => if k = true then a ρ3 fun z => z.isS = true ∧ acc1.length ≤ 100000 ∧ P1 (j + 1) (acc1 ++ [z.dat]) else P1 (j + 1) acc1) ∧
      ∀ acc1, P1 its1.length acc1 → P (i + 1) acc1
    else P (i + 1) acc) ∧
  ∀ acc, P its.length acc → Φ (.l true acc)
section
variable {K : PySem.W.Frag} {ec : EC} {F : Fr K ec}
/-- a step but for the list at D -/
structure StepD (F : Fr K ec) (D : Addr) (Z : Addr → Prop) (H : Hp) (Z' : Addr → Prop) (H' : Hp) : Prop where
  imm : Imm H H'
  eff : ∀ b o, F.ro ≠ some b → b ≠ D → H b = some o → H' b = some o
  row : RowOk K F.ro H'
  big : ∀ b, Z b → Z' b
  new : ∀ b, Z' b → Z b ∨ H b = none
  zok : ∀ b, Z' b → H' b ≠ none
/-- what may still be changed -/
def Alive (o : HO) : Prop := (∀ xs, o ≠ .tup xs) ∧ ∀ a b, o ≠ .frz a b
theorem alive_lst (us : List V) : Alive (.lst us) := ⟨(fun _ z => nomatch z), (fun _ _ z => nomatch z)⟩
/-- nobody's -/
structure Lone (F : Fr K ec) (D : Addr) (Z : Addr → Prop) (H : Hp) : Prop where
  nz : ¬ Z D
  h0 : F.H0 D = none
  ro : F.ro ≠ some D
  at_ : ∃ o, H D = some o ∧ Alive o
theorem Lone.not {D : Addr} {Z : Addr → Prop} {H : Hp} (l : Lone F D Z H) : ¬ keepP F Z H D := by
  obtain ⟨o, h, a1, a2⟩ := l.at_
  rintro ⟨_, z | z | ⟨xs, z⟩ | ⟨x, u, z⟩⟩
  · exact l.nz z
  · exact z l.h0
  · rw [h] at z; cases z; exact a1 _ rfl
  · rw [h] at z; cases z; exact a2 _ _ rfl
theorem Step.toD {D : Addr} {Z Z' : Addr → Prop} {H H' : Hp} (s : Step F Z H Z' H') : StepD F D Z H Z' H' := ⟨s.eff.1, fun b o n _ h => s.eff.2 b o n h, s.row, s.big, s.new, s.zok⟩
theorem StepD.vw {D : Addr} {Z Z' : Addr → Prop} {H H' : Hp} (l : Lone F D Z H) (s : StepD F D Z H Z' H') : Same (Vw F Z H) (Vw F Z' H') := fun b o h => by
  obtain ⟨kp, hb⟩ := vw_some h
  have nb : b ≠ D := fun e => l.not (by rw [← e]; exact kp)
  refine vw_of ⟨kp.1, ?_⟩ (s.eff b o kp.1 nb hb)
  rcases kp.2 with q | q | ⟨xs, q⟩ | ⟨oo, u, q⟩
  · exact .inl (s.big b q)
  · exact .inr (.inl q)
  · exact .inr (.inr (.inl ⟨xs, s.imm.1 _ _ q⟩))
  · exact .inr (.inr (.inr ⟨oo, u, s.imm.2 _ _ _ q⟩))
theorem StepD.lone {D : Addr} {Z Z' : Addr → Prop} {H H' : Hp} (l : Lone F D Z H) (s : StepD F D Z H Z' H') (h : ∃ o, H' D = some o ∧ Alive o) : Lone F D Z' H' := by
  refine ⟨fun z => ?_, l.h0, l.ro, h⟩
  obtain ⟨us, e, _⟩ := l.at_
  rcases s.new D z with q | q
  · exact l.nz q
  · rw [e] at q; cases q
theorem StepD.trans {D : Addr} {Z Z1 Z2 : Addr → Prop} {H H1 H2 : Hp} (r0 : RowOk K F.ro H) (l : Lone F D Z H) (a : StepD F D Z H Z1 H1) (b : StepD F D Z1 H1 Z2 H2) (h1 : ∃ o, H1 D = some o) : StepD F D Z H Z2 H2 :=
  ⟨a.imm.trans b.imm, fun c o n nd h => b.eff c o n nd (a.eff c o n nd h), b.row, fun c h => b.big c (a.big c h), fun c h => by
    rcases b.new c h with z | z
    · exact a.new c z
    · refine .inr ?_
      cases q : H c with
      | none => rfl
      | some o =>
        have nd : c ≠ D := fun e => by
          obtain ⟨us, w⟩ := h1
          rw [e, w] at z
          cases z
        have nr : F.ro ≠ some c := fun e => by
          obtain ⟨xs, w⟩ := (a.row c e).lst
          rw [z] at w
          cases w
        rw [a.eff c o nr nd q] at z
        exact (nomatch z), b.zok⟩
theorem Ok.stepD {D : Addr} {Z Z' : Addr → Prop} {ρ : Rho} {σ : L2.St} {H H' : Hp} (o : Ok F Z ρ σ H) (l : Lone F D Z H) (me : ∀ (i : Nat) xs, ρ[i]? = some (some (.l false xs)) → σ[i]? ≠ some (some (.ref D))) (s : StepD F D Z H Z' H') : Ok F Z' ρ σ H' := by
  have vw := s.vw l
  refine ⟨o.len, ⟨o.eff.1.trans s.imm, fun b ob n h => s.eff b ob n (fun e => by rw [e, l.h0] at h; cases h) (o.eff.2 b ob n h)⟩, s.row, s.zok, o.nt, fun i av e => ?_, o.sep⟩
  obtain ⟨v, g1, g2⟩ := o.at_ i av e
  refine ⟨v, g1, ?_⟩
  cases av with
  | d x => exact ⟨g2.1, s.imm.dp g2.1 g2.2⟩
  | p x => exact Dp.imm vw g2
  | t x => exact absurd e (o.nt i x)
  | row => exact g2
  | m P => exact ⟨g2.1, g2.1 _ _ _ vw g2.2⟩
  | l f xs =>
    obtain ⟨q, vs, rfl, n, h0, z, fr, hq, a⟩ := g2
    have nf : f = false := by
      cases f with
      | false => rfl
      | true => exact nomatch fr rfl
    subst nf
    have nd : q ≠ D := fun w => me i xs e (by rw [g1, w])
    refine ⟨q, vs, rfl, n, h0, fun w => ?_, fr, s.eff q _ n nd hq, DpAll.imm vw a⟩
    rcases s.new q w with y | y
    · exact z y
    · rw [hq] at y; cases y
theorem vw_updA {Z : Addr → Prop} {H : Hp} {D : Addr} {o : HO} (n : ¬ keepP F Z H D) (n2 : ¬ keepP F Z (upd H D o) D) : Vw F Z (upd H D o) = Vw F Z H := by
  funext b
  unfold Vw
  by_cases e : b = D
  · subst e
    rw [if_neg n2, if_neg n]
  · have k : keepP F Z (upd H D o) b ↔ keepP F Z H b := by
      unfold keepP
      rw [upd_ne e]
    by_cases c : keepP F Z H b
    · rw [if_pos c, if_pos (k.mpr c), upd_ne e]
    · rw [if_neg c, if_neg (fun z => c (k.mp z))]
theorem chg_alive {D : Addr} {H : Hp} {o o' : HO} (h : H D = some o) (al : Alive o) : Chg D H (upd H D o') := by
  refine ⟨⟨fun b ys hb => ?_, fun b x z hb => ?_⟩, fun b x n hb => ?_⟩
  · rw [upd_ne (fun e => by rw [e, h] at hb; cases hb; exact al.1 _ rfl)]; exact hb
  · rw [upd_ne (fun e => by rw [e, h] at hb; cases hb; exact al.2 _ _ rfl)]; exact hb
  · rw [upd_ne n]; exact hb
/-- D is written -/
theorem StepD.putA {D : Addr} {Z Z' : Addr → Prop} {H H' : Hp} (l : Lone F D Z H) (s : StepD F D Z H Z' H') {o o' : HO} (h : H' D = some o) (al : Alive o) (al' : Alive o') : StepD F D Z H Z' (upd H' D o') ∧ Vw F Z' (upd H' D o') = Vw F Z' H' := by
  have l' := s.lone l ⟨o, h, al⟩
  have c : Chg D H' (upd H' D o') := chg_alive h al
  have st : StepD F D Z H Z' (upd H' D o') := ⟨s.imm.trans c.1, fun b o n nd e => c.2 b o nd (s.eff b o n nd e), fun r e => row_chg c (fun q => l.ro (by rw [e, q])) (s.row r e), s.big, s.new, fun b hb => by
    by_cases e : b = D
    · rw [e, upd_same]; simp
    · rw [upd_ne e]; exact s.zok b hb⟩
  exact ⟨st, vw_updA l'.not (st.lone l ⟨o', upd_same, al'⟩).not⟩
theorem StepD.put {D : Addr} {Z Z' : Addr → Prop} {H H' : Hp} (l : Lone F D Z H) (s : StepD F D Z H Z' H') {us vs : List V} (h : H' D = some (.lst us)) : StepD F D Z H Z' (upd H' D (.lst vs)) ∧ Vw F Z' (upd H' D (.lst vs)) = Vw F Z' H' :=
  s.putA l h (alive_lst us) (alive_lst vs)
instance {wi wi1 : TI} {g g1 : TG} {tt tt1 : TT} {te : TE} {vs vs1 : List Nat} {ai ai1 : AI} {ag ag1 : AG} {sl sl1 : List Nat} {at' at1 : AT} {ae : AE} [SI F wi ai] [SG F g ag sl] [ST F tt at'] [SI F wi1 ai1] [SG F g1 ag1 sl1] [ST F tt1 at1] [SE F te ae] :
    SE F (tLc2 wi g tt wi1 g1 tt1 te vs vs1) (aLc2 ai ag at' ai1 ag1 at1 ae vs vs1 sl sl1) where
  snd := fun Z ρ σ H Φ Q o q k => by
    refine SI.snd (F := F) (wi := wi) (ai := ai) Z ρ σ H _ _ o q fun J c its G H1 Z1 q1 s1 wk => ?_
    obtain ⟨⟨sub, sub1⟩, P, p0, turn, fin⟩ := q1
    intro D nD
    have o1 := o.step s1
    have h0 := h0_free o1 nD
    have nr := row_ne o1 nD
    have sD : Step F Z1 H1 Z1 (upd H1 D (.lst [])) := Step.new_ o1 nD
    refine ⟨fun i m H => m = its.length - i ∧ i ≤ its.length ∧ ∃ Z acc us, P i acc ∧ Step F Z1 H1 Z H ∧ ¬ Z D ∧ H D = some (.lst us) ∧ DpAll K (Vw F Z H) us acc,
      ⟨_, rfl, Nat.zero_le _, Z1, [], [], p0, sD, z_free o1 nD, upd_same, .nil⟩, ?_⟩
    rintro i m H2 ⟨rfl, hi, Z2, acc, us, pi, s2, z2, hD, da⟩
    have gg := wk.calm Z2 H2 s2
    have s02 := s1.trans o.row s2
    rcases Nat.lt_or_ge i its.length with lt | ge
    · refine .inr ⟨wk.goes i H2 lt gg, fun H => ∃ Z acc us, P (i + 1) acc ∧ Step F Z1 H1 Z H ∧ ¬ Z D ∧ H D = some (.lst us) ∧ DpAll K (Vw F Z H) us acc, fun H' z => ⟨its.length - (i + 1), by omega, rfl, lt, z⟩, fun x H3 y => ?_⟩
      obtain ⟨av, ea, s3, r3⟩ := wk.yields i Z2 ρ σ H2 x H3 lt gg (o.step s02) (.inl s2) y
      have oo := (o.step s02).step s3
      have o3 := oo.wipe vs
      refine SG.snd (F := F) (g := g) (ag := ag) (sl := sl) Z2 _ _ Hfull H3 x av _ _ o3 r3 o3.oldFull (turn i av acc ea pi) fun ρ4 σ4 q4 o4 k4 l4 b4 => ?_
      refine ⟨wipe_eq (by rw [l4, wipe_length]) k4 sub, ?_⟩
      refine ST.snd (F := F) (te := tt) (ae := at') Z2 ρ4 σ4 H3 _ _ o4 q4 fun kk H5 Z5 q5 s5 => ?_
      have o5 := o4.step s5
      have s25 := s3.trans (o.step s02).row s5
      have s15 := s2.trans o1.row s25
      have keepD : ∀ {Zn : Addr → Prop} {Hn : Hp}, Step F Z2 H2 Zn Hn → Hn D = some (.lst us) ∧ ¬ Zn D ∧ DpAll K (Vw F Zn Hn) us acc := fun sn =>
        ⟨sn.eff.2 _ _ nr hD, fun zz => (sn.new D zz).elim z2 fun e => (by rw [hD] at e; exact (nomatch e)), DpAll.imm sn.vw da⟩
      obtain ⟨d1, d2, d3⟩ := keepD s25
      cases kk with
      | false =>
        rw [if_neg Bool.false_ne_true] at q5 ⊢
        exact ⟨Z5, acc, us, q5, s15, d2, d1, d3⟩
      | true =>
        rw [if_pos rfl] at q5 ⊢
        refine SI.snd (F := F) (wi := wi1) (ai := ai1) Z5 ρ4 σ4 H5 _ _ o5 q5 fun J1 c1 its1 G1 H6 Z6 q6 s6 wk1 => ?_
        obtain ⟨rfl, P1, p10, turn1, fin1⟩ := q6
        have s26 := s25.trans (o.step s02).row s6
        have s16 := s2.trans o1.row s26
        obtain ⟨e1, e2, e3⟩ := keepD s26
        have o6 := o5.step s6
        have lone : Lone F D Z6 H6 := ⟨e2, h0, nr, _, e1, alive_lst us⟩
        -- no slot holds the new list
        have me : ∀ (i : Nat) xs, ρ4[i]? = some (some (.l false xs)) → σ4[i]? ≠ some (some (.ref D)) := by
          intro j xs ej z
          have ob : Old (wipeR ρ vs) (L2.wipe σ vs) H1 := (o1.wipe vs).old
          obtain ⟨q2, w1, w2⟩ := b4 (fun q z => nomatch z) H1 ob j xs ej
          rw [z] at w1
          cases w1
          exact w2 nD
        refine ⟨fun j m H => m = its1.length - j ∧ j ≤ its1.length ∧ ∃ Z acc us, P1 j acc ∧ StepD F D Z6 H6 Z H ∧ H D = some (.lst us) ∧ DpAll K (Vw F Z H) us acc,
          ⟨_, rfl, Nat.zero_le _, Z6, acc, us, p10, (o6.refl).toD, e1, e3⟩, ?_⟩
        rintro j m H7 ⟨rfl, hj, Z7, acc1, us1, pj, s7, hD7, da7⟩
        have sm7 := s7.vw lone
        have l7 := s7.lone lone ⟨_, hD7, alive_lst us1⟩
        have g7 := wk1.loop rfl Z7 H7 sm7
        have o7 := o6.stepD lone me s7
        rcases Nat.lt_or_ge j its1.length with lt1 | ge1
        · refine .inr ⟨wk1.goes j H7 lt1 g7, fun H => ∃ Z acc us, P1 (j + 1) acc ∧ StepD F D Z6 H6 Z H ∧ H D = some (.lst us) ∧ DpAll K (Vw F Z H) us acc, fun H' z => ⟨its1.length - (j + 1), by omega, rfl, lt1, z⟩, fun x1 H8 y1 => ?_⟩
          obtain ⟨av1, ea1, s8, r8⟩ := wk1.yields j Z7 ρ4 σ4 H7 x1 H8 lt1 g7 o7 (.inr sm7) y1
          have oo8 := o7.step s8
          have o8 := oo8.wipe vs1
          refine SG.snd (F := F) (g := g1) (ag := ag1) (sl := sl1) Z7 _ _ Hfull H8 x1 av1 _ _ o8 r8 o8.oldFull (turn1 j av1 acc1 ea1 pj) fun ρ9 σ9 q9 o9 k9 l9 _ => ?_
          refine ⟨wipe_eq (by rw [l9, wipe_length]) k9 sub1, ?_⟩
          refine ST.snd (F := F) (te := tt1) (ae := at1) Z7 ρ9 σ9 H8 _ _ o9 q9 fun kk H10 Z10 q10 s10 => ?_
          have s710 := s8.trans o7.row s10
          have keepE : ∀ {Zn : Addr → Prop} {Hn : Hp}, Step F Z7 H7 Zn Hn → Hn D = some (.lst us1) ∧ DpAll K (Vw F Zn Hn) us1 acc1 ∧ StepD F D Z6 H6 Zn Hn := fun sn =>
            ⟨sn.eff.2 _ _ nr hD7, DpAll.imm sn.vw da7, s7.trans o6.row lone sn.toD ⟨_, hD7⟩⟩
          cases kk with
          | false =>
            rw [if_neg Bool.false_ne_true] at q10 ⊢
            obtain ⟨f1, f2, f3⟩ := keepE s710
            exact ⟨Z10, acc1, us1, q10, f3, f1, f2⟩
          | true =>
            rw [if_pos rfl] at q10 ⊢
            refine SE.snd (F := F) (te := te) (ae := ae) Z10 ρ9 σ9 H10 _ _ (o9.step s10) q10 fun z az H11 Z11 ⟨sz, few, q11⟩ s11 r11 => ?_
            have s711 := s710.trans o7.row s11
            obtain ⟨f1, f2, f3⟩ := keepE s711
            have o11 := (o9.step s10).step s11
            obtain ⟨p1, p2⟩ := f3.put lone (vs := us1 ++ [z]) f1
            refine ⟨us1, f1, lt_line (by rw [dpAll_len f2]; exact few), Z11, acc1 ++ [az.dat], us1 ++ [z], q11, p1, upd_same, ?_⟩
            rw [p2]
            exact dpAll_app f2 (.cons (stay1 o11.row r11 sz) .nil)
        · have e : j = its1.length := by omega
          subst e
          refine .inl ⟨wk1.stops H7 g7, Z7, acc1, us1, fin1 acc1 pj, ?_, l7.nz, hD7, da7⟩
          refine ⟨⟨s16.eff.1.trans s7.imm, fun b ob n h => ?_⟩, s7.row, fun b h => s7.big b (s16.big b h), fun b h => ?_, s7.zok⟩
          · exact s7.eff b ob n (fun e => by rw [e, nD] at h; cases h) (s16.eff.2 b ob n h)
          · rcases s7.new b h with z | z
            · exact s16.new b z
            · exact .inr (s16.older z)
    · have e : i = its.length := by omega
      subst e
      refine .inl ⟨wk.stops H2 gg, k _ _ H2 Z2 (fin acc pi) s02 ⟨D, us, rfl, nr, h0, z2, fun _ => s1.older nD, hD, da⟩⟩
end

theorem enumP_inv {f : PyData → AV} {xs : List PyData} {j i : Nat} {y : AV} (h : (enumP f j xs)[i]? = some y) : ∃ e, xs[i]? = some e ∧ y = mkT [.d (.int ((j + i : Nat) : Int)), f e] := by
  have l : i < xs.length := by
    have := (List.getElem?_eq_some_iff.mp h).1
    rwa [enumP_len] at this
  refine ⟨xs[i], List.getElem?_eq_getElem l, ?_⟩
  have := enumP_get (f := f) (j := j) (List.getElem?_eq_getElem l)
  rw [this] at h
  exact (Option.some.inj h).symm
theorem zipP_inv {f g : PyData → AV} {xs ys : List PyData} {i : Nat} {z : AV} (h : (zipP f g xs ys)[i]? = some z) : ∃ x y, xs[i]? = some x ∧ ys[i]? = some y ∧ z = mkT [f x, g y] := by
  have l := (List.getElem?_eq_some_iff.mp h).1
  rw [zipP_len] at l
  have l1 : i < xs.length := by omega
  have l2 : i < ys.length := by omega
  refine ⟨xs[i], ys[i], List.getElem?_eq_getElem l1, List.getElem?_eq_getElem l2, ?_⟩
  rw [zipP_get (List.getElem?_eq_getElem l1) (List.getElem?_eq_getElem l2)] at h
  exact (Option.some.inj h).symm
theorem map_inv {α β : Type} {f : α → β} {l : List α} {i : Nat} {y : β} (h : (l.map f)[i]? = some y) : ∃ x, l[i]? = some x ∧ y = f x := by
  rw [List.getElem?_map] at h
  cases q : l[i]? with
  | none => rw [q] at h; cases h
  | some x => rw [q] at h; exact ⟨x, rfl, (Option.some.inj h).symm⟩
theorem range_inv {n i j : Nat} (h : (List.range n)[i]? = some j) : j = i ∧ i < n := by
  have l := (List.getElem?_eq_some_iff.mp h).1
  rw [List.length_range] at l
  rw [List.getElem?_range l] at h
  exact ⟨(Option.some.inj h).symm, l⟩
section
variable {ρ : Rho} {D : AEnds} {g : AG} {b : AS}
theorem turns {its : List AV} {ρ0 : Rho} (Inv : Nat → Rho → Prop) (h0 : Inv 0 ρ0) (hs : ∀ i x ρ', its[i]? = some x → Inv i ρ' → g x ρ' fun ρ2 => b { D with nx := Inv (i + 1), ct := Inv (i + 1), bk := D.nx } ρ2)
    (hd : ∀ ρ', Inv its.length ρ' → D.nx ρ') : QFor ρ0 g b D true its := ⟨rfl, Inv, h0, hs, hd⟩
theorem forTup {x : AV} {xs : List PyData} {ρ0 : Rho} (e : itT x = some xs) (Inv : Nat → Rho → Prop) (h0 : Inv 0 ρ0) (hs : ∀ i y ρ', xs[i]? = some y → Inv i ρ' → g (x.sub y) ρ' fun ρ2 => b { D with nx := Inv (i + 1), ct := Inv (i + 1), bk := D.nx } ρ2)
    (hd : ∀ ρ', Inv xs.length ρ' → D.nx ρ') : QIT (QFor ρ0 g b D) x := by
  refine ⟨xs, e, turns Inv h0 (fun i y ρ' hy hi => ?_) (by rw [List.length_map]; exact hd)⟩
  obtain ⟨z, hz, rfl⟩ := map_inv hy
  exact hs i z ρ' hz hi
theorem forList {x : AV} {xs : List PyData} {ρ0 : Rho} (e : itL x = some (true, xs)) (Inv : Nat → Rho → Prop) (h0 : Inv 0 ρ0) (hs : ∀ i y ρ', xs[i]? = some y → Inv i ρ' → g (pdv y) ρ' fun ρ2 => b { D with nx := Inv (i + 1), ct := Inv (i + 1), bk := D.nx } ρ2)
    (hd : ∀ ρ', Inv xs.length ρ' → D.nx ρ') : QIL (QFor ρ0 g b D) x := by
  refine ⟨true, xs, e, turns Inv h0 (fun i y ρ' hy hi => ?_) (by rw [List.length_map]; exact hd)⟩
  obtain ⟨z, hz, rfl⟩ := map_inv hy
  exact hs i z ρ' hz hi
theorem forRng {n : Nat} {ρ0 : Rho} (few : n ≤ 1000000) (Inv : Nat → Rho → Prop) (h0 : Inv 0 ρ0) (hs : ∀ i ρ', i < n → Inv i ρ' → g (.d (.int (i : Nat))) ρ' fun ρ2 => b { D with nx := Inv (i + 1), ct := Inv (i + 1), bk := D.nx } ρ2)
    (hd : ∀ ρ', Inv n ρ' → D.nx ρ') : QR1 (QFor ρ0 g b D) [.d (.int (n : Nat))] := by
  refine ⟨_, (n : Int), rfl, rfl, by omega, by omega, turns Inv h0 (fun i y ρ' hy hi => ?_) (by rw [List.length_map, List.length_range]; exact hd)⟩
  obtain ⟨z, hz, rfl⟩ := map_inv hy
  obtain ⟨rfl, l⟩ := range_inv hz
  exact hs z ρ' l hi
theorem forEnum {x : AV} {xs : List PyData} {ρ0 : Rho} (e : itT x = some xs) (im : ∀ y ∈ xs, x.sub y = .d y) (Inv : Nat → Rho → Prop) (h0 : Inv 0 ρ0) (hs : ∀ i y ρ', xs[i]? = some y → Inv i ρ' → g (.d (.tuple [.int (i : Nat), y])) ρ' fun ρ2 => b { D with nx := Inv (i + 1), ct := Inv (i + 1), bk := D.nx } ρ2)
    (hd : ∀ ρ', Inv xs.length ρ' → D.nx ρ') : QET (QFor ρ0 g b D) [x] := by
  refine ⟨x, xs, rfl, e, turns Inv h0 (fun i y ρ' hy hi => ?_) (by rw [enumP_len]; exact hd)⟩
  obtain ⟨z, hz, rfl⟩ := enumP_inv hy
  rw [im z (List.mem_of_getElem? hz), Nat.zero_add]
  exact hs i z ρ' hz hi
theorem forEnumL {x : AV} {xs : List PyData} {ρ0 : Rho} (e : itL x = some (true, xs)) (im : ∀ y ∈ xs, pdv y = .d y) (Inv : Nat → Rho → Prop) (h0 : Inv 0 ρ0) (hs : ∀ i y ρ', xs[i]? = some y → Inv i ρ' → g (.d (.tuple [.int (i : Nat), y])) ρ' fun ρ2 => b { D with nx := Inv (i + 1), ct := Inv (i + 1), bk := D.nx } ρ2)
    (hd : ∀ ρ', Inv xs.length ρ' → D.nx ρ') : QEL (QFor ρ0 g b D) [x] := by
  refine ⟨x, true, xs, rfl, e, turns Inv h0 (fun i y ρ' hy hi => ?_) (by rw [enumP_len]; exact hd)⟩
  obtain ⟨z, hz, rfl⟩ := enumP_inv hy
  rw [im z (List.mem_of_getElem? hz), Nat.zero_add]
  exact hs i z ρ' hz hi
def QZM (R : Bool → List AV → Prop) : List AV → Prop := fun vs => ∃ x y xs ys, vs = [x, y] ∧ x = .p (.list xs) ∧ itT y = some ys ∧ R true (zipP pdv y.sub xs ys)
theorem forZipM {xs ys : List PyData} {y : AV} {ρ0 : Rho} (e : itT y = some ys) (im : ∀ z ∈ xs, pdv z = .d z) (im2 : ∀ z ∈ ys, y.sub z = .d z) (l : xs.length = ys.length) (Inv : Nat → Rho → Prop) (h0 : Inv 0 ρ0)
    (hs : ∀ i u v ρ', xs[i]? = some u → ys[i]? = some v → Inv i ρ' → g (.d (.tuple [u, v])) ρ' fun ρ2 => b { D with nx := Inv (i + 1), ct := Inv (i + 1), bk := D.nx } ρ2)
    (hd : ∀ ρ', Inv xs.length ρ' → D.nx ρ') : QZM (QFor ρ0 g b D) [.p (.list xs), y] := by
  refine ⟨_, y, xs, ys, rfl, rfl, e, turns Inv h0 (fun i z ρ' hz hi => ?_) (by rw [zipP_len, ← l, Nat.min_self]; exact hd)⟩
  obtain ⟨u, v, hu, hv, rfl⟩ := zipP_inv hz
  rw [im u (List.mem_of_getElem? hu), im2 v (List.mem_of_getElem? hv)]
  exact hs i u v ρ' hu hv hi
theorem forZipT {xs ys : List PyData} {x y : AV} {ρ0 : Rho} (e1 : itT x = some xs) (e2 : itT y = some ys) (im : ∀ z ∈ xs, x.sub z = .d z) (im2 : ∀ z ∈ ys, y.sub z = .d z) (l : xs.length = ys.length) (Inv : Nat → Rho → Prop) (h0 : Inv 0 ρ0)
    (hs : ∀ i u v ρ', xs[i]? = some u → ys[i]? = some v → Inv i ρ' → g (.d (.tuple [u, v])) ρ' fun ρ2 => b { D with nx := Inv (i + 1), ct := Inv (i + 1), bk := D.nx } ρ2)
    (hd : ∀ ρ', Inv xs.length ρ' → D.nx ρ') : QZ (QFor ρ0 g b D) [x, y] := by
  refine ⟨x, y, rfl, .inl ⟨xs, ys, e1, e2, turns Inv h0 (fun i z ρ' hz hi => ?_) (by rw [zipP_len, ← l, Nat.min_self]; exact hd)⟩⟩
  obtain ⟨u, v, hu, hv, rfl⟩ := zipP_inv hz
  rw [im u (List.mem_of_getElem? hu), im2 v (List.mem_of_getElem? hv)]
  exact hs i u v ρ' hu hv hi
theorem forZipL {xs ys : List PyData} {ρ0 : Rho} (im : ∀ z ∈ xs, pdv z = .d z) (im2 : ∀ z ∈ ys, pdv z = .d z) (l : xs.length = ys.length) (Inv : Nat → Rho → Prop) (h0 : Inv 0 ρ0)
    (hs : ∀ i u v ρ', xs[i]? = some u → ys[i]? = some v → Inv i ρ' → g (.d (.tuple [u, v])) ρ' fun ρ2 => b { D with nx := Inv (i + 1), ct := Inv (i + 1), bk := D.nx } ρ2)
    (hd : ∀ ρ', Inv xs.length ρ' → D.nx ρ') : QZ (QFor ρ0 g b D) [.p (.list xs), .p (.list ys)] := by
  refine ⟨_, _, rfl, .inr ⟨xs, ys, rfl, rfl, turns Inv h0 (fun i z ρ' hz hi => ?_) (by rw [zipP_len, ← l, Nat.min_self]; exact hd)⟩⟩
  obtain ⟨u, v, hu, hv, rfl⟩ := zipP_inv hz
  rw [im u (List.mem_of_getElem? hu), im2 v (List.mem_of_getElem? hv)]
  exact hs i u v ρ' hu hv hi
end
/-! ### what a comprehension walks -/
section
variable {g : AG} {t : AT} {a : AE} {vs sl : List Nat} {ρ : Rho} {Φ : AV → Prop}
theorem qTup {x : AV} {xs : List PyData} {R : Bool → List AV → Prop} (e : itT x = some xs) (h : R true (xs.map x.sub)) : QIT R x := ⟨xs, e, h⟩
theorem qList {x : AV} {c : Bool} {xs : List PyData} {R : Bool → List AV → Prop} (e : itL x = some (c, xs)) (h : R c (xs.map pdv)) : QIL R x := ⟨c, xs, e, h⟩
theorem qRng {n : Nat} {R : Bool → List AV → Prop} (few : n ≤ 1000000) (h : R true ((List.range n).map fun (i : Nat) => AV.d (.int (i : Int)))) : QR1 R [.d (.int (n : Nat))] := ⟨_, (n : Int), rfl, rfl, by omega, by omega, h⟩
theorem qEnum {x : AV} {xs : List PyData} {R : Bool → List AV → Prop} (e : itT x = some xs) (h : R true (enumP x.sub 0 xs)) : QET R [x] := ⟨x, xs, rfl, e, h⟩
theorem qZipT {x y : AV} {xs ys : List PyData} {R : Bool → List AV → Prop} (e : itT x = some xs) (e2 : itT y = some ys) (h : R true (zipP x.sub y.sub xs ys)) : QZ R [x, y] := ⟨x, y, rfl, .inl ⟨xs, ys, e, e2, h⟩⟩
theorem qRevT {x : AV} {xs : List PyData} {R : Bool → List AV → Prop} (e : itT x = some xs) (h : R true (xs.reverse.map x.sub)) : QRv R x := .inl ⟨xs, e, h⟩
theorem qRevL {x : AV} {c : Bool} {xs : List PyData} {R : Bool → List AV → Prop} (e : itL x = some (c, xs)) (h : R c (xs.reverse.map pdv)) : QRv R x := .inr ⟨c, xs, e, h⟩
theorem wRng1 {a : AA} {R : Bool → List AV → Prop} (h : a ρ (QR1 R)) : aRng1 a ρ R := h
theorem wRng2 {a : AA} {R : Bool → List AV → Prop} (h : a ρ (QR2 R)) : aRng2 a ρ R := h
theorem wEnumT {a : AA} {R : Bool → List AV → Prop} (h : a ρ (QET R)) : aEnumT a ρ R := h
theorem wEnumL {a : AA} {R : Bool → List AV → Prop} (h : a ρ (QEL R)) : aEnumL a ρ R := h
theorem wZipM {a : AA} {R : Bool → List AV → Prop} (h : a ρ (QZM R)) : aZipM a ρ R := h
theorem wZip {a : AA} {R : Bool → List AV → Prop} (h : a ρ (QZ R)) : aZip a ρ R := h
theorem wRevI {a : AE} {R : Bool → List AV → Prop} (h : a ρ (QRv R)) : aRevI a ρ R := h
def QLc2 (g : AG) (t : AT) (w1 : AI) (g1 : AG) (t1 : AT) (a : AE) (vs vs1 sl sl1 : List Nat) (ρ : Rho) (Φ : AV → Prop) : Bool → List AV → Prop := fun _ its => ((∀ j ∈ sl, j ∈ vs) ∧ ∀ j ∈ sl1, j ∈ vs1) ∧ ∃ P : Nat → List PyData → Prop, P 0 [] ∧
  (∀ i x acc, its[i]? = some x → P i acc → g x (wipeR ρ vs) fun ρ2 => t ρ2 fun k => if k = true then
    w1 ρ2 fun c1 its1 => c1 = true ∧ ∃ P1 : Nat → List PyData → Prop, P1 0 acc ∧
      (∀ j y acc1, its1[j]? = some y → P1 j acc1 → g1 y (wipeR ρ2 vs1) fun ρ3 => t1 ρ3 fun k => if k = true then a ρ3 fun z => z.isS = true ∧ acc1.length ≤ 100000 ∧ P1 (j + 1) (acc1 ++ [z.dat]) else P1 (j + 1) acc1) ∧
      ∀ acc1, P1 its1.length acc1 → P (i + 1) acc1
    else P (i + 1) acc) ∧
  ∀ acc, P its.length acc → Φ (.l true acc)
theorem wLc2 {w w1 : AI} {g1 : AG} {t1 : AT} {vs1 sl1 : List Nat} (h : w ρ (QLc2 g t w1 g1 t1 a vs vs1 sl sl1 ρ Φ)) : aLc2 w g t w1 g1 t1 a vs vs1 sl sl1 ρ Φ := h
/-- two clauses, in short: what each x of the first, then each y of the second gives -/
def QIn (g1 : AG) (t1 : AT) (a : AE) (vs1 : List Nat) (ρ2 : Rho) (acc : List PyData) (C : List PyData → Prop) : Bool → List AV → Prop := fun c1 its1 => c1 = true ∧ ∃ P1 : Nat → List PyData → Prop, P1 0 acc ∧
      (∀ j y acc1, its1[j]? = some y → P1 j acc1 → g1 y (wipeR ρ2 vs1) fun ρ3 => t1 ρ3 fun k => if k = true then a ρ3 fun z => z.isS = true ∧ acc1.length ≤ 100000 ∧ P1 (j + 1) (acc1 ++ [z.dat]) else P1 (j + 1) acc1) ∧
      ∀ acc1, P1 its1.length acc1 → C acc1
theorem lc2 {c : Bool} {α : Type} {its : List AV} (xs : List α) (f : α → List PyData) (s : α → AV) {w1 : AI} {g1 : AG} {t1 : AT} {vs1 sl1 : List Nat} (e : its = xs.map s) (sub : ∀ j ∈ sl, j ∈ vs) (sub1 : ∀ j ∈ sl1, j ∈ vs1) (few : (xs.flatMap f).length ≤ 100000)
    (turn : ∀ x, x ∈ xs → ∀ (acc : List PyData) (C : List PyData → Prop), acc.length + (f x).length ≤ 100000 → C (acc ++ f x) → g (s x) (wipeR ρ vs) fun ρ2 => w1 ρ2 (QIn g1 t1 a vs1 ρ2 acc C)) (h : Φ (.l true (xs.flatMap f))) :
    QLc2 g aYes w1 g1 t1 a vs vs1 sl sl1 ρ Φ c its := by
  subst e
  refine ⟨⟨sub, sub1⟩, fun i acc => acc = (xs.take i).flatMap f, rfl, ?_, ?_⟩
  · rintro i x acc hx rfl
    obtain ⟨z, hq, rfl⟩ := map_inv hx
    have e : ∀ (A B : Rho → Prop), (fun ρ2 => aYes ρ2 fun k => if k = true then A ρ2 else B ρ2) = A := fun A B => by
      funext ρ2
      unfold aYes
      simp
    rw [e]
    have tk := take_next hq
    refine turn z (List.mem_of_getElem? hq) _ (fun acc1 => acc1 = (xs.take (i + 1)).flatMap f) ?_ (by rw [tk, List.flatMap_append]; simp)
    have := List.length_flatMap (l := xs) (f := f)
    have e2 : xs = xs.take (i + 1) ++ xs.drop (i + 1) := (List.take_append_drop _ _).symm
    rw [e2, List.flatMap_append, tk, List.flatMap_append] at few
    simp only [List.length_append, List.flatMap_cons, List.flatMap_nil, List.append_nil] at few
    omega
  · rintro acc rfl
    rw [List.length_map, List.take_length]
    exact h
theorem inF {c1 : Bool} {β : Type} {its1 : List AV} (ys : List β) (f : β → PyData) (p : β → Bool) (s : β → AV) {g1 : AG} {t1 : AT} {vs1 : List Nat} {ρ2 : Rho} {acc : List PyData} {C : List PyData → Prop} (hc : c1 = true) (e : its1 = ys.map s) (few : acc.length + ((ys.filter p).map f).length ≤ 100000)
    (turn : ∀ y, y ∈ ys → ∀ (P1 : PyData → Prop) (L P0 : Prop), L → (p y = true → P1 (f y)) → (p y = false → P0) → g1 (s y) (wipeR ρ2 vs1) fun ρ3 => t1 ρ3 fun k => if k = true then a ρ3 fun z => z.isS = true ∧ L ∧ P1 z.dat else P0)
    (h : C (acc ++ (ys.filter p).map f)) : QIn g1 t1 a vs1 ρ2 acc C c1 its1 := by
  subst e
  refine ⟨hc, fun j acc1 => acc1 = acc ++ ((ys.take j).filter p).map f, by simp, ?_, ?_⟩
  · rintro j y acc1 hy rfl
    obtain ⟨z, hq, rfl⟩ := map_inv hy
    refine turn z (List.mem_of_getElem? hq) (fun d => (acc ++ ((ys.take j).filter p).map f) ++ [d] = acc ++ ((ys.take (j + 1)).filter p).map f) _ _ ?_ (fun c => ?_) fun c => ?_
    · have h1 : ((ys.take j).filter p).length ≤ (ys.filter p).length := ((List.take_sublist j ys).filter p).length_le
      rw [List.length_append, List.length_map]
      rw [List.length_map] at few
      omega
    · show (acc ++ ((ys.take j).filter p).map f) ++ [f z] = _
      rw [take_next hq, List.filter_append, List.map_append]
      simp [List.filter_cons, c]
    · show acc ++ ((ys.take j).filter p).map f = acc ++ ((ys.take (j + 1)).filter p).map f
      rw [take_next hq, List.filter_append, List.map_append]
      simp [List.filter_cons, c]
  · rintro acc1 rfl
    rw [List.length_map, List.take_length]
    exact h
end

/-! ### data that is compared by what it is made of -/
structure Dat {α : Type} [DecidableEq α] (f : α → PyData) (n : Nat) : Prop where
  eq : ∀ x y, PyData.eqv (f x) (f y) = decide (x = y)
  can : ∀ x, (f x).canLay0 = true
  dep : ∀ x, (f x).depth ≤ n
  im : ∀ x, imm (f x) = true
section
variable {α β γ : Type} [DecidableEq α] [DecidableEq β] [DecidableEq γ] {f : α → PyData} {g : β → PyData} {n m : Nat}
theorem Dat.up (d : Dat f n) (h : n ≤ m) : Dat f m := ⟨d.eq, d.can, fun x => Nat.le_trans (d.dep x) h, d.im⟩
theorem Dat.tup (d : Dat f n) : Dat (fun l : List α => PyData.tuple (l.map f)) (n + 1) :=
  ⟨fun x y => by rw [PyData.eqv]; exact eqvAll_map d.eq x y, fun x => by rw [PyData.canLay0]; exact can_map d.can x, fun x => by rw [PyData.depth]; have := depth_map d.dep x; omega, fun x => tup_imm (immAll_map d.im x)⟩
theorem Dat.map (d : Dat f n) (u : γ → α) (inj : ∀ x y, u x = u y → x = y) : Dat (fun x => f (u x)) n :=
  ⟨fun x y => by
    rw [d.eq]
    by_cases e : x = y
    · subst e; simp
    · rw [decide_eq_false e, decide_eq_false fun z => e (inj _ _ z)], fun x => d.can _, fun x => d.dep _, fun x => d.im _⟩
theorem dat_int : Dat (fun i : Int => PyData.int i) 0 := ⟨fun x y => by
    rw [PyData.eqv]
    by_cases e : x = y
    · subst e; simp
    · simp [e], fun _ => rfl, fun x => by rw [PyData.depth]; exact Nat.le_refl _, fun _ => rfl⟩
theorem dat_nat : Dat (fun i : Nat => PyData.int (i : Int)) 0 := dat_int.map (fun i : Nat => (i : Int)) fun x y h => Int.ofNat.inj h
theorem dat_co : Dat (fun c : Co => PyData.str c.s) 0 := ⟨Co.eqv, Co.can, fun x => by rw [PyData.depth]; exact Nat.le_refl _, fun _ => rfl⟩
theorem dat_kw : Dat (fun c : Kw => PyData.str c.s) 0 := ⟨Kw.eqv, Kw.can, fun x => by rw [PyData.depth]; exact Nat.le_refl _, fun _ => rfl⟩
theorem Dat.two (d : Dat f n) (e : Dat g m) : Dat (fun x : α × β => PyData.tuple [f x.1, g x.2]) (max n m + 1) :=
  ⟨fun x y => by
    rw [PyData.eqv, PyData.eqvAll, PyData.eqvAll, PyData.eqvAll, d.eq, e.eq]
    by_cases h : x.1 = y.1
    · by_cases k : x.2 = y.2
      · rw [decide_eq_true h, decide_eq_true k, decide_eq_true (Prod.ext h k)]; rfl
      · rw [decide_eq_false k, decide_eq_false fun z : x = y => k (by rw [z])]; simp
    · rw [decide_eq_false h, decide_eq_false fun z : x = y => h (by rw [z])]; simp,
   fun x => by rw [PyData.canLay0, PyData.canLayAll0, PyData.canLayAll0, d.can, e.can]; rfl,
   fun x => by
    have h1 := d.dep x.1
    have h2 := e.dep x.2
    rw [PyData.depth, PyData.depthAll, PyData.depthAll, PyData.depthAll]
    omega,
   fun x => by rw [imm, immAll, immAll, immAll, d.im, e.im]; rfl⟩
theorem Dat.thr {h : γ → PyData} {k : Nat} (d : Dat f n) (e : Dat g m) (t : Dat h k) : Dat (fun x : α × β × γ => PyData.tuple [f x.1, g x.2.1, h x.2.2]) (max n (max m k) + 1) :=
  ⟨fun x y => by
    rw [PyData.eqv, PyData.eqvAll, PyData.eqvAll, PyData.eqvAll, PyData.eqvAll, d.eq, e.eq, t.eq]
    by_cases a : x.1 = y.1
    · by_cases b : x.2.1 = y.2.1
      · by_cases c : x.2.2 = y.2.2
        · rw [decide_eq_true a, decide_eq_true b, decide_eq_true c, decide_eq_true (Prod.ext a (Prod.ext b c))]; rfl
        · rw [decide_eq_false c, decide_eq_false fun z : x = y => c (by rw [z])]; simp
      · rw [decide_eq_false b, decide_eq_false fun z : x = y => b (by rw [z])]; simp
    · rw [decide_eq_false a, decide_eq_false fun z : x = y => a (by rw [z])]; simp,
   fun x => by rw [PyData.canLay0, PyData.canLayAll0, PyData.canLayAll0, PyData.canLayAll0, PyData.canLayAll0, d.can, e.can, t.can]; rfl,
   fun x => by
    have h1 := d.dep x.1
    have h2 := e.dep x.2.1
    have h3 := t.dep x.2.2
    rw [PyData.depth, PyData.depthAll, PyData.depthAll, PyData.depthAll, PyData.depthAll]
    omega,
   fun x => by rw [imm, immAll, immAll, immAll, immAll, d.im, e.im, t.im]; rfl⟩
theorem Dat.shaped (d : Dat f n) (h : n ≤ 64) (x : α) : SeqAt.shaped (f x) = true := by
  unfold SeqAt.shaped
  rw [d.can, Bool.true_and]
  exact decide_eq_true (Nat.le_trans (d.dep x) h)
theorem Dat.shapedL (d : Dat f n) (h : n < 64) (l : List α) : SeqAt.shaped (.list (l.map f)) = true := by
  unfold SeqAt.shaped
  rw [PyData.canLay0, can_map d.can, Bool.true_and, PyData.depth]
  have := depth_map d.dep l
  exact decide_eq_true (by omega)
theorem Dat.any (d : Dat f n) (x : α) (l : List α) {b : Bool} (hb : b = true ↔ x ∈ l) : ((l.map f).any fun z => PyData.eqv z (f x)) = b := by
  rw [Bool.eq_iff_iff, hb, List.any_map, List.any_eq_true]
  constructor
  · rintro ⟨y, hy, e⟩
    have e : PyData.eqv (f y) (f x) = true := e
    rw [d.eq] at e
    rw [← of_decide_eq_true e]
    exact hy
  · intro h
    refine ⟨x, h, ?_⟩
    show PyData.eqv (f x) (f x) = true
    rw [d.eq]
    exact decide_eq_true rfl
/-- two tuples, lists or texts are held against one another -/
theorem wEqX {Φ : AV → Prop} (d : Dat f n) {ax ay : AV} {x y : α} (h : n ≤ 64) (e1 : ax.dat = f x) (e2 : ay.dat = f y) (v1 : ax.isV = true) (v2 : ay.isV = true) (q : Φ (.d (.bool (decide (x = y))))) : aEqD ax ay Φ :=
  ⟨v1, v2, by rw [e1]; exact d.shaped h x, by rw [e2]; exact d.shaped h y, by rw [e1, e2, d.eq]; exact q⟩
theorem wNeX {Φ : AV → Prop} (d : Dat f n) {ax ay : AV} {x y : α} (h : n ≤ 64) (e1 : ax.dat = f x) (e2 : ay.dat = f y) (v1 : ax.isV = true) (v2 : ay.isV = true) (q : Φ (.d (.bool (!decide (x = y))))) : aNeD ax ay Φ :=
  ⟨v1, v2, by rw [e1]; exact d.shaped h x, by rw [e2]; exact d.shaped h y, by rw [e1, e2, d.eq]; exact q⟩
theorem wEqXL {Φ : AV → Prop} (d : Dat f n) {ax ay : AV} {x y : List α} (h : n < 64) (e1 : ax.dat = .list (x.map f)) (e2 : ay.dat = .list (y.map f)) (v1 : ax.isV = true) (v2 : ay.isV = true) (q : Φ (.d (.bool (decide (x = y))))) : aEqD ax ay Φ :=
  ⟨v1, v2, by rw [e1]; exact d.shapedL h x, by rw [e2]; exact d.shapedL h y, by rw [e1, e2, PyData.eqv, eqvAll_map d.eq]; exact q⟩
theorem wNeXL {Φ : AV → Prop} (d : Dat f n) {ax ay : AV} {x y : List α} (h : n < 64) (e1 : ax.dat = .list (x.map f)) (e2 : ay.dat = .list (y.map f)) (v1 : ax.isV = true) (v2 : ay.isV = true) (q : Φ (.d (.bool (!decide (x = y))))) : aNeD ax ay Φ :=
  ⟨v1, v2, by rw [e1]; exact d.shapedL h x, by rw [e2]; exact d.shapedL h y, by rw [e1, e2, PyData.eqv, eqvAll_map d.eq]; exact q⟩
theorem wInX {Φ : AV → Prop} (d : Dat f n) {ax ay : AV} {x : α} {l : List α} (h : n < 64) (e1 : ax.dat = f x) (e2 : ay.dat = .list (l.map f)) (v1 : ax.isV = true) {b : Bool} (hb : b = true ↔ x ∈ l) (q : Φ (.d (.bool b))) : aInD false ax ay Φ :=
  ⟨_, e2, v1, by rw [e1]; exact d.shaped (by omega) x, d.shapedL h l, by rw [e1, d.any x l hb]; exact q⟩
theorem wNotInX {Φ : AV → Prop} (d : Dat f n) {ax ay : AV} {x : α} {l : List α} (h : n < 64) (e1 : ax.dat = f x) (e2 : ay.dat = .list (l.map f)) (v1 : ax.isV = true) {b : Bool} (hb : b = true ↔ x ∈ l) (q : Φ (.d (.bool (!b)))) : aInD true ax ay Φ :=
  ⟨_, e2, v1, by rw [e1]; exact d.shaped (by omega) x, d.shapedL h l, by rw [e1, d.any x l hb]; exact q⟩
end
theorem k_anyV {X : Cx} (K : PySem.W.Frag) (calm : X.calm = true) (hK : X.K = K := by rfl) : CallR X (.builtin "any") (rAny K) := hK ▸ cr_any calm
theorem k_allV {X : Cx} (K : PySem.W.Frag) (calm : X.calm = true) (hK : X.K = K := by rfl) : CallR X (.builtin "all") (rAll K) := hK ▸ cr_all calm
theorem u65 {k : Nat} {A : Around} (r : Room k A) : A.units + 65 < cLine := by have := r.un; omega
def dPI (p : Int × Int) : PyData := .tuple [.int p.1, .int p.2]
theorem dat_PI : Dat dPI 1 := dat_int.two dat_int
def dTri (p : Nat × Nat × Nat) : PyData := .tuple [.int (p.1 : Nat), .int (p.2.1 : Nat), .int (p.2.2 : Nat)]
theorem dat_Tri : Dat dTri 1 := dat_nat.thr (dat_nat) dat_nat
theorem dat_rows : Dat dRows 2 := dat_co.tup.tup
theorem dat_kws : Dat (fun l : List Kw => dWs (l.map Kw.s)) 1 := by
  have : (fun l : List Kw => dWs (l.map Kw.s)) = fun l : List Kw => PyData.tuple (l.map fun c : Kw => PyData.str c.s) := by
    funext l
    unfold dWs
    rw [List.map_map]
    rfl
  rw [this]
  exact dat_kw.tup
section
variable {Φ : AV → Prop}
def QPar (i j : Nat) (ρ : Rho) (Q : Rho → Prop) : List AV → Prop := fun vs => ∃ x y u w, vs = [x, y] ∧ (x.isS = true ∨ y.isS = true) ∧ x.own = some u ∧ y.own = some w ∧ Q ((ρ.set i (some u)).set j (some w))
theorem wPar {i j : Nat} {a : AA} {D : AEnds} {ρ : Rho} (h : a ρ (QPar i j ρ D.nx)) : aPar i j a D ρ := h
theorem wPar2 {i j : Nat} {ρ : Rho} {Q : Rho → Prop} {x y : PyData} (h : Q ((ρ.set i (some (.d x))).set j (some (.d y)))) : QPar i j ρ Q [.d x, .d y] := ⟨_, _, _, _, rfl, .inl rfl, rfl, rfl, h⟩
theorem wParL {i j : Nat} {ρ : Rho} {Q : Rho → Prop} {x : PyData} {ys : List PyData} (h : Q ((ρ.set i (some (.d x))).set j (some (.l false ys)))) : QPar i j ρ Q [.d x, .l true ys] := ⟨_, _, _, _, rfl, .inl rfl, rfl, rfl, h⟩
theorem wIxTd {z : PyData} {xs : List PyData} {i : Int} {e : PyData} (s : z = .tuple xs) (g : atI xs i = some e) (h : Φ (.d e)) : aIxT (.d z) (.d (.int i)) Φ := ⟨xs, i, e, s, rfl, g, h⟩
theorem wIxd {z : PyData} {xs : List PyData} {i : Int} {e : PyData} (s : seqP z = some xs) (g : atI xs i = some e) (h : Φ (.d e)) : aIx (.d z) (.d (.int i)) Φ := ⟨xs, i, e, s, rfl, g, h⟩
theorem wAny {x : AV} {bs : List Bool} (e : x.dat = .list (bs.map PyData.bool)) (h : Φ (.d (.bool (bs.any id)))) : aAny [x] Φ := ⟨x, bs, rfl, e, h⟩
theorem wAll {x : AV} {bs : List Bool} (e : x.dat = .list (bs.map PyData.bool)) (h : Φ (.d (.bool (bs.all id)))) : aAll [x] Φ := ⟨x, bs, rfl, e, h⟩
end

/-! ### data as a key of a dict -/
mutual
def keyOf : PyData → NestedKey
  | .none => .none
  | .bool b => .num (if b = true then 1 else 0)
  | .int i => .num i
  | .str x => .text x
  | .tuple xs => .tup (keyOfs xs)
  | .list _ => .none
  | .dict _ => .none
def keyOfs : List PyData → List NestedKey
  | [] => []
  | x :: xs => keyOf x :: keyOfs xs
end
mutual
theorem key_is {h : Heap} : ∀ {u : Value} {d : PyData} {as : List Addr}, Reads h u d as → imm d = true → NestedIs h (keyOf d) u
  | _, _, _, .none, _ => .none
  | _, _, _, .bool b, _ => .bool rfl
  | _, _, _, .int i t, _ => .int i t
  | _, _, _, .str x t, _ => .text x t
  | _, _, _, .list _ _ _ _, i => by rw [imm] at i; cases i
  | _, _, _, .tuple e c d r, i => by rw [imm] at i; exact .tup e c d (keys_are r i)
  | _, _, _, .dict _ _ _ _ _, i => by rw [imm] at i; cases i
theorem keys_are {h : Heap} : ∀ {us : List Value} {ds : List PyData} {as : List Addr}, ReadsAll h us ds as → immAll ds = true → NestedAll h (keyOfs ds) us
  | _, _, _, .nil, _ => .nil
  | _, _, _, .cons r t, i => by
    rw [immAll, Bool.and_eq_true] at i
    exact .cons (key_is r i.1) (keys_are t i.2)
end
mutual
theorem key_depth : ∀ d : PyData, (keyOf d).depth ≤ d.depth
  | .none => Nat.zero_le _
  | .bool _ => Nat.zero_le _
  | .int _ => Nat.zero_le _
  | .str _ => Nat.zero_le _
  | .list _ => Nat.zero_le _
  | .dict _ => Nat.zero_le _
  | .tuple xs => by
    rw [keyOf, NestedKey.depth, PyData.depth]
    have := keys_depth xs
    omega
theorem keys_depth : ∀ ds : List PyData, NestedKey.depthAll (keyOfs ds) ≤ PyData.depthAll ds
  | [] => Nat.zero_le _
  | d :: ds => by
    rw [keyOfs, NestedKey.depthAll, PyData.depthAll]
    have h1 := key_depth d
    have h2 := keys_depth ds
    omega
end
theorem keyOfs_map (l : List PyData) : keyOfs l = l.map keyOf := by
  induction l with
  | nil => rfl
  | cons x l ih => rw [keyOfs, List.map_cons, ih]
/-! ### a dict with such keys -/
abbrev Ent := NestedKey × Addr × Value
/-- the dict at d, its entries told -/
def DKo (P : Program) (w : World) (d : Addr) (xs : List Ent) : HO := .ext fun h => ∃ o es ep, h.get? d = some o ∧ o.ExactDict ∧ o.data = .dict es ep ∧ es.toList = xs.map (entryOfKey (nestedKind P w)) ∧ (xs.map (·.1)).Nodup
/-- what the entries tell: the key's data, the value -/
def EntOk (K : PySem.W.Frag) (H : Hp) (p : PyData × V) (q : Ent) : Prop := keyOf p.1 = q.1 ∧ imm p.1 = true ∧ p.1.depth ≤ 8 ∧ Dp K H (.ref q.2.1) p.1 ∧ RelV p.2 q.2.2
def DN (P : Program) (w : World) (K : PySem.W.Frag) (H : Hp) (d : Addr) (kvs : List (PyData × V)) : Prop := (d == sysModules) = false ∧ kvs.length ≤ sizeLine ∧ ∃ xs, H d = some (DKo P w d xs) ∧ Paired (EntOk K H) kvs xs
section
variable {X : Cx} {pins : List (Addr × Obj)} {σ : L2.St} {H H' : Hp} {s : Shared} {d : Addr} {K : PySem.W.Frag} {P : Program} {w : World}
theorem EntOk.imm {p : PyData × V} {q : Ent} (e : Imm H H') (h : EntOk K H p q) : EntOk K H' p q := ⟨h.1, h.2.1, h.2.2.1, Imm.dp e h.2.1 h.2.2.2.1, h.2.2.2.2⟩
theorem DN.same {kvs : List (PyData × V)} (e : Same H H') (h : DN P w K H d kvs) : DN P w K H' d kvs := by
  obtain ⟨h1, h2, xs, h3, h4⟩ := h
  exact ⟨h1, h2, xs, e _ _ h3, Paired.mapP h4 fun _ _ z => z.imm (imm_of_same e)⟩
theorem DN.chg {kvs : List (PyData × V)} {r : Addr} (e : Chg r H H') (n : d ≠ r) (h : DN P w K H d kvs) : DN P w K H' d kvs := by
  obtain ⟨h1, h2, xs, h3, h4⟩ := h
  exact ⟨h1, h2, xs, e.2 _ _ n h3, Paired.mapP h4 fun _ _ z => z.imm e.1⟩
/-- as the library sees it -/
theorem dn_keyed {kvs : List (PyData × V)} (I : Inv X pins σ H s) (h : DN X.prog X.w X.K H d kvs) : ∃ xs, s.heap.DictOfH (nestedKind X.prog X.w) d xs ∧ Paired (EntOk X.K H) kvs xs := by
  obtain ⟨_, _, xs, h3, h4⟩ := h
  obtain ⟨⟨o, es, ep, e1, e2, e3, e4, e5⟩, _, _⟩ := I.hok d _ h3
  refine ⟨xs, ⟨o, es, ep, e1, e2, e3, e4, fun x hx => ?_, e5⟩, h4⟩
  obtain ⟨i, hi⟩ := List.mem_iff_getElem?.mp hx
  obtain ⟨p, _, z1, z2, z3, z4, _⟩ := paired_at h4 hi
  obtain ⟨as, r⟩ := Dp.reads I _ _ _ z4 (show RelV (.ref x.2.1) (.ref x.2.1) from rfl)
  rw [← z1]
  exact ⟨key_is r z2, Nat.le_trans (key_depth _) z3⟩
/-! ### what is there under a key -/
def kvAt (kvs : List (PyData × V)) (x : PyData) : Option V := (kvs.find? fun p => decide (keyOf p.1 = keyOf x)).map (·.2)
def kvPut (kvs : List (PyData × V)) (x : PyData) (v : V) : List (PyData × V) :=
  if (kvAt kvs x).isSome then kvs.map fun p => if keyOf p.1 = keyOf x then (p.1, v) else p else kvs ++ [(x, v)]
theorem kv_at {kvs : List (PyData × V)} {xs : List Ent} {x : PyData} (r : Paired (EntOk K H) kvs xs) : (kvAt kvs x = none ∧ atKey xs (keyOf x) = none) ∨ ∃ v a u, kvAt kvs x = some v ∧ atKey xs (keyOf x) = some (a, u) ∧ RelV v u := by
  induction r with
  | nil => exact .inl ⟨rfl, rfl⟩
  | @cons p q kvs xs e _ ih =>
    obtain ⟨z1, _, _, _, z5⟩ := e
    by_cases c : keyOf p.1 = keyOf x
    · refine .inr ⟨p.2, q.2.1, q.2.2, ?_, ?_, z5⟩
      · show ((p :: kvs).find? _).map _ = _
        rw [List.find?_cons_of_pos (by simpa using c)]
        rfl
      · show ((q :: xs).find? _).map _ = _
        rw [List.find?_cons_of_pos (by rw [← z1]; simpa using c)]
        rfl
    · have e1 : kvAt (p :: kvs) x = kvAt kvs x := by
        show ((p :: kvs).find? _).map _ = _
        rw [List.find?_cons_of_neg (by simpa using c)]
        rfl
      have e2 : atKey (q :: xs) (keyOf x) = atKey xs (keyOf x) := by
        show ((q :: xs).find? _).map _ = _
        rw [List.find?_cons_of_neg (by rw [← z1]; simpa using c)]
        rfl
      rw [e1, e2]
      exact ih
theorem kv_put {kvs : List (PyData × V)} {xs : List Ent} {x : PyData} {v : V} {u : Value} {a : Addr} (r : Paired (EntOk K H) kvs xs) (i : imm x = true) (dp : x.depth ≤ 8) (h : Dp K H (.ref a) x) (rv : RelV v u) : Paired (EntOk K H) (kvPut kvs x v) (storedH xs (keyOf x) a u) := by
  have both : (kvAt kvs x).isSome = (atKey xs (keyOf x)).isSome := by
    rcases kv_at (x := x) r with ⟨e1, e2⟩ | ⟨_, _, _, e1, e2, _⟩ <;> rw [e1, e2] <;> rfl
  unfold kvPut storedH
  rw [both]
  split
  · rename_i hs
    clear both hs
    induction r with
    | nil => exact .nil
    | @cons p q kvs xs e _ ih =>
      refine .cons ?_ ih
      obtain ⟨z1, z2, z3, z4, z5⟩ := e
      show EntOk K H (if keyOf p.1 = keyOf x then (p.1, v) else p) (if q.1 = keyOf x then (q.1, q.2.1, u) else q)
      by_cases c : keyOf p.1 = keyOf x
      · rw [if_pos c, if_pos (z1.symm.trans c)]
        exact ⟨z1, z2, z3, z4, rv⟩
      · rw [if_neg c, if_neg fun z => c (z1.trans z)]
        exact ⟨z1, z2, z3, z4, z5⟩
  · exact paired_snoc ⟨rfl, i, dp, h, rv⟩ r
theorem kvPut_len (kvs : List (PyData × V)) (x : PyData) (v : V) : (kvPut kvs x v).length ≤ kvs.length + 1 := by
  unfold kvPut
  split
  · rw [List.length_map]; omega
  · rw [List.length_append]; exact Nat.le_refl _
/-! ### the operations -/
def KeyAt (K : PySem.W.Frag) (H : Hp) (v : V) (x : PyData) : Prop := Dp K H v x ∧ imm x = true ∧ x.depth ≤ 8 ∧ ∃ a, v = .ref a
def rKeyNot (P : Program) (w : World) (K : PySem.W.Frag) : R2 := fun x y H Q => ∃ d kvs dat, y = .ref d ∧ KeyAt K H x dat ∧ DN P w K H d kvs ∧ Q (.bl (!(kvAt kvs dat).isSome)) H
def rKeyIn (P : Program) (w : World) (K : PySem.W.Frag) : R2 := fun x y H Q => ∃ d kvs dat, y = .ref d ∧ KeyAt K H x dat ∧ DN P w K H d kvs ∧ Q (.bl (kvAt kvs dat).isSome) H
def rKeyGet (P : Program) (w : World) (K : PySem.W.Frag) : R2 := fun x y H Q => ∃ d kvs dat v, x = .ref d ∧ KeyAt K H y dat ∧ DN P w K H d kvs ∧ kvAt kvs dat = some v ∧ Q v H
def rKeySet (P : Program) (w : World) (K : PySem.W.Frag) : TSet := fun o i v H Q => ∃ d kvs dat, o = .ref d ∧ KeyAt K H i dat ∧ DN P w K H d kvs ∧ kvs.length < sizeLine ∧ ∀ H', Chg d H H' → DN P w K H' d (kvPut kvs dat v) → Q H'
theorem key_at {v : V} {u : Value} {x : PyData} (I : Inv X pins σ H s) (k : KeyAt X.K H v x) (r : RelV v u) : ∃ a, v = .ref a ∧ u = .ref a ∧ (nestedKind X.prog X.w).is s.heap (keyOf x) a := by
  obtain ⟨h, i, dp, a, rfl⟩ := k
  obtain ⟨as, z⟩ := Dp.reads I _ _ _ h r
  obtain rfl : u = Value.ref a := r
  exact ⟨a, rfl, rfl, key_is z i, Nat.le_trans (key_depth _) dp⟩
theorem op_keyNot (hu : X.A.units + 65 < cLine) : OpR X (compareOp .NotIn) (rKeyNot X.prog X.w X.K) := by
  intro pins s σ H x y v u Q I rx ry h
  obtain ⟨d, kvs, dat, rfl, k, dn, q⟩ := h
  obtain ⟨a, rfl, rfl, kk⟩ := key_at I k rx
  obtain rfl : u = Value.ref d := ry
  obtain ⟨xs, hm, r⟩ := dn_keyed I dn
  have e : (kvAt kvs dat).isSome = (valueAt (pairsH xs) (keyOf dat)).isSome := by
    rw [valueAt_pairsH, Option.isSome_map]
    rcases kv_at (x := dat) r with ⟨e1, e2⟩ | ⟨_, _, _, e1, e2, _⟩ <;> rw [e1, e2] <;> rfl
  rw [e] at q
  exact notIn_keyed (knd := nestedKind X.prog X.w) (show X.A.units + 1 + 8 < cLine by omega) kk dn.1 ⟨xs, hm, rfl⟩ ⟨.bl _, H, I.tok _, rfl, q⟩
theorem op_keyIn (hu : X.A.units + 65 < cLine) : OpR X (compareOp .In) (rKeyIn X.prog X.w X.K) := by
  intro pins s σ H x y v u Q I rx ry h
  obtain ⟨d, kvs, dat, rfl, k, dn, q⟩ := h
  obtain ⟨a, rfl, rfl, kk⟩ := key_at I k rx
  obtain rfl : u = Value.ref d := ry
  obtain ⟨xs, hm, r⟩ := dn_keyed I dn
  have e : (kvAt kvs dat).isSome = (valueAt (pairsH xs) (keyOf dat)).isSome := by
    rw [valueAt_pairsH, Option.isSome_map]
    rcases kv_at (x := dat) r with ⟨e1, e2⟩ | ⟨_, _, _, e1, e2, _⟩ <;> rw [e1, e2] <;> rfl
  rw [e] at q
  exact in_keyed (knd := nestedKind X.prog X.w) (show X.A.units + 1 + 8 < cLine by omega) kk dn.1 ⟨xs, hm, rfl⟩ ⟨.bl _, H, I.tok _, rfl, q⟩
theorem ix_key (hu : X.A.units + 65 < cLine) : IxR X (rKeyGet X.prog X.w X.K) := by
  intro value slice pins s σ H x y v u Q I rx ry h hs
  obtain ⟨d, kvs, dat, z, rfl, k, dn, ez, q⟩ := h
  obtain ⟨a, rfl, rfl, kk⟩ := key_at I k ry
  obtain rfl : v = Value.ref d := rx
  obtain ⟨xs, hm, r⟩ := dn_keyed I dn
  obtain ⟨b, t, e2, rt⟩ : ∃ b t, atKey xs (keyOf dat) = some (b, t) ∧ RelV z t := by
    rcases kv_at (x := dat) r with ⟨e1, _⟩ | ⟨v', b, t, e1, e2, rt⟩
    · rw [e1] at ez; cases ez
    · rw [e1] at ez
      cases ez
      exact ⟨b, t, e2, rt⟩
  exact subscriptTail_builtinR (x := t) hm.typeIs F.slot_dict_getitem.lookup
    (wpAny_getItem_heap (knd := nestedKind X.prog X.w) (Q := fun r s' => r = t ∧ EP X pins σ Q r s') (show X.A.units + 1 + 8 < cLine by omega) kk hm e2 ⟨rfl, z, H, I.tok _, rt, q⟩) hs
theorem set_key (hu : X.A.units + 65 < cLine) : PSet X (rKeySet X.prog X.w X.K) := by
  intro pins s σ H o i v ov iv u Q I ro ri rv h
  obtain ⟨d, kvs, dat, rfl, k, dn, few, q⟩ := h
  have k0 := k
  obtain ⟨a, rfl, rfl, kk⟩ := key_at I k ri
  obtain rfl : ov = Value.ref d := ro
  obtain ⟨xs0, hD, r0⟩ := dn.2.2
  obtain ⟨xs, hm, r⟩ : ∃ xs, s.heap.DictOfH (nestedKind X.prog X.w) d xs ∧ Paired (EntOk X.K H) kvs xs := dn_keyed I dn
  have len : xs.length ≤ sizeLine := by rw [← Paired.length r]; omega
  refine wpAny_setItem_heap (knd := nestedKind X.prog X.w) (show X.A.units + 1 + 8 < cLine by omega) kk hm (fun h' hm' sb => ?_) len
  have hH : H d = some (DKo X.prog X.w d xs0) := hD
  have new : ObjOk X.prog X.w (upd H d (DKo X.prog X.w d (storedH xs (keyOf dat) a u))) h' d (DKo X.prog X.w d (storedH xs (keyOf dat) a u)) := by
    obtain ⟨o, es, ep, e1, e2, e3, e4, _, e5⟩ := hm'
    refine ⟨⟨o, es, ep, e1, e2, e3, e4, e5⟩, ⟨o, e1⟩, fun h1 h2 ⟨o', es', ep', f1, f2⟩ keep => ⟨o', es', ep', keep _ f1, f2⟩⟩
  have he : ∃ q, h'.get? d = some q := let ⟨o, _, _, e1, _⟩ := hm'; ⟨o, e1⟩
  have I' := I.write (x := d) (e := d) (t' := s.toks + (nestedKind X.prog X.w).draws (keyOf dat)) (by rw [hH]; trivial) (.inl rfl) (fun b z hb hz => (sb.2 b hb).trans hz) he new
  have c : Chg d H (upd H d (DKo X.prog X.w d (storedH xs (keyOf dat) a u))) := by
    refine ⟨⟨fun b ys hb => ?_, fun b o z hb => ?_⟩, fun b o n hb => ?_⟩
    · rw [upd_ne (fun e => by rw [e, hH] at hb; cases hb)]; exact hb
    · rw [upd_ne (fun e => by rw [e, hH] at hb; cases hb)]; exact hb
    · rw [upd_ne n]; exact hb
  refine ⟨_, I', q _ c ⟨dn.1, ?_, _, upd_same, ?_⟩⟩
  · have := kvPut_len kvs dat v
    omega
  · refine Paired.mapP (kv_put r k0.2.1 k0.2.2.1 k0.1 rv) fun _ _ z => z.imm c.1
/-- {} -/
def tNewKd (P : Program) (w : World) (K : PySem.W.Frag) : TE := fun _ H Q => ∀ d H', H d = none → Same H H' → DN P w K H' d [] → Q (.ref d) H'
theorem pe_newKd {pos : Pos} : PE X (.Dict [] [] pos) (tNewKd X.prog X.w X.K) := ⟨fun pins s σ H Q I h => by
  have nH : H s.heap.objs.size = none := I.hok.fresh (Nat.le_refl _)
  refine wpAny_Dict_empty ⟨.ref s.heap.objs.size, _, I.laid (a := s.heap.objs.size) (o := DKo X.prog X.w s.heap.objs.size []) (t' := s.toks) (fun _ _ q => Heap.get?_push_of_some _ q) (Nat.le_refl _) ?_, rfl, h _ _ nH (same_new nH) ⟨(dk_empty (P := X.prog) (w := X.w) (H := H) s.heap I.big).2.1, Nat.zero_le _, [], upd_same, .nil⟩⟩
  refine ⟨⟨_, #[], 0, Heap.get?_push_size _ rfl, ⟨rfl, rfl, rfl⟩, rfl, rfl, List.nodup_nil⟩, ⟨_, Heap.get?_push_size _ rfl⟩, fun h1 h2 ⟨o', es', ep', f1, f2⟩ keep => ⟨o', es', ep', keep _ f1, f2⟩⟩⟩
end

/-! ### < and > of data -/
def CmpOk (d e : PyData) : Prop := PySem.W.alike d e = true ∧ d ≠ .none ∧ d.depth ≤ 64
def rLtX (K : PySem.W.Frag) : R2 := fun x y H Q => ∃ d e, Dp K H x d ∧ Dp K H y e ∧ CmpOk d e ∧ Q (.bl (PySem.W.dataLt d e)) H
def rGtX (K : PySem.W.Frag) : R2 := fun x y H Q => ∃ d e, Dp K H x d ∧ Dp K H y e ∧ CmpOk d e ∧ Q (.bl (PySem.W.dataLt e d)) H
section
variable {X : Cx} {pins : List (Addr × Obj)} {σ : L2.St} {H H' H0 : Hp} {s : Shared}
theorem CmpOk.room {d e : PyData} {n : Nat} (c : CmpOk d e) (h : n + 64 < cLine) : n + min d.depth e.depth < cLine := by
  have h1 := c.2.2
  have h2 := Nat.min_le_left d.depth e.depth
  omega
theorem op_ltX (hu : X.A.units + 65 < cLine) : OpR X (compareOp .Lt) (rLtX X.K) := by
  intro pins s σ H x y v u Q I rx ry h
  obtain ⟨d, e, hd, he, c, q⟩ := h
  obtain ⟨as, r1⟩ := Dp.reads I _ _ _ hd rx
  obtain ⟨bs, r2⟩ := Dp.reads I _ _ _ he ry
  exact PySem.W.lt_data r1 r2 c.1 c.2.1 (c.room (by omega)) ⟨.bl _, H, I, rfl, q⟩
theorem op_gtX (hu : X.A.units + 65 < cLine) : OpR X (compareOp .Gt) (rGtX X.K) := by
  intro pins s σ H x y v u Q I rx ry h
  obtain ⟨d, e, hd, he, c, q⟩ := h
  obtain ⟨as, r1⟩ := Dp.reads I _ _ _ hd rx
  obtain ⟨bs, r2⟩ := Dp.reads I _ _ _ he ry
  exact PySem.W.gt_data r1 r2 c.1 c.2.1 (c.room (by omega)) ⟨.bl _, H, I, rfl, q⟩
/-! ### min of what a list or a tuple holds, by the things themselves or by a def's answers -/
/-- the context within a built-in of which nothing is raised -/
abbrev Cx.low (X : Cx) : Cx := { X with A := X.A.in1, xe := fun _ _ => False }
theorem Inv.low (I : Inv X pins σ H s) : Inv (Cx.low X) pins σ H s :=
  ⟨⟨I.ok.mod, I.ok.kind, I.ok.glob, I.ok.blt, I.ok.above, I.ok.inj, I.ok.has, I.ok.cab, I.ok.hd, I.ok.frames, I.ok.stk, I.ok.exf, I.ok.bs, I.ok.bsz, I.ok.noex, I.ok.exfs, I.ok.funs, I.ok.frf⟩,
    I.os, I.bare, I.base, I.loc, I.cell, I.free, I.freeC, I.pin, I.hok, I.len⟩
theorem Inv.high (I : Inv (Cx.low X) pins σ H s) : Inv X pins σ H s :=
  ⟨⟨I.ok.mod, I.ok.kind, I.ok.glob, I.ok.blt, I.ok.above, I.ok.inj, I.ok.has, I.ok.cab, I.ok.hd, I.ok.frames, I.ok.stk, I.ok.exf, I.ok.bs, I.ok.bsz, I.ok.noex, I.ok.exfs, I.ok.funs, I.ok.frf⟩,
    I.os, I.bare, I.base, I.loc, I.cell, I.free, I.freeC, I.pin, I.hok, I.len⟩
/-- an iterator at J over things that stay -/
structure Src (X : Cx) (J : Addr) (xs : List V) (H0 : Hp) (st : Nat → Heap → Prop) : Prop where
  keep : ∀ i (h h' : Heap), st i h → (∀ o, h.get? J = some o → h'.get? J = some o) → st i h'
  obj : ∀ i h, st i h → ∃ o, h.get? J = some o ∧ ∀ v, o.data ≠ .cell v
  item : ∀ (pins : List (Addr × Obj)) (σ : L2.St) (H : Hp) (s : Shared) (i : Nat) (v : V) (Q : Option Value → Shared → Prop) (E : Value → Shared → Prop), Inv X pins σ H s → FpOk X pins H J → Same H0 H → st i s.heap → xs[i]? = some v →
    (∀ u h', RelV v u → Inv X pins σ H { s with heap := h' } → st (i + 1) h' → (∀ b o, b ≠ J → s.heap.get? b = some o → h'.get? b = some o) → Q (some u) { s with heap := h' }) → wpAny (model X.prog X.w) X.A.in1 (pyNext (.ref J)) Q E s
  done : ∀ (pins : List (Addr × Obj)) (σ : L2.St) (H : Hp) (s : Shared) (Q : Option Value → Shared → Prop) (E : Value → Shared → Prop), Inv X pins σ H s → FpOk X pins H J → Same H0 H → st xs.length s.heap →
    (∀ h', Inv X pins σ H { s with heap := h' } → (∀ b o, b ≠ J → s.heap.get? b = some o → h'.get? b = some o) → Q none { s with heap := h' }) → wpAny (model X.prog X.w) X.A.in1 (pyNext (.ref J)) Q E s
theorem src_list {a J : Addr} {xs : List V} (hc : X.calm = true) (hq : SqL X.K H0 a xs) (n : a ≠ J) : Src X J xs H0 (fun i h => h.IsListIter J a i) where
  keep := fun i h h' st k => st.at fun o e => k o e
  obj := fun i h st => by
    obtain ⟨o, e, _, d⟩ := st
    exact ⟨o, e, fun v z => by rw [d] at z; cases z⟩
  item := fun pins σ H s i v Q E I f sm st hv k => by
    obtain ⟨its, r, lst, _⟩ := I.list (sm.seq hq)
    obtain ⟨u, hu, ru⟩ := r.get hv
    obtain ⟨f0, f1, f2, f3, f4, f5⟩ := f
    exact wpAny_pyNext_list_item st lst.isList (x := u) (by simpa using hu) fun h' st' sb =>
      k u h' ru (I.turned (t' := s.toks) (fun b o hb e => (sb.2 b hb).trans e) f0 f1 f3 f4 f5) st' fun b o hb e => (sb.2 b hb).trans e
  done := fun pins σ H s Q E I f sm st k => by
    obtain ⟨its, r, lst, _⟩ := I.list (sm.seq hq)
    obtain ⟨f0, f1, f2, f3, f4, f5⟩ := f
    have hl := r.length
    exact wpAny_pyNext_list_end (show X.A.in1.handled = none from I.ok.hd hc) st lst.isList (by simp; omega) fun h' eb =>
      k h' (I.turned (t' := s.toks) (fun b o hb e => eb b o hb e) f0 f1 f3 f4 f5) fun b o hb e => eb b o hb e
theorem src_tup {a J : Addr} {xs : List V} (hc : X.calm = true) (hq : SqT X.K H0 a xs) (n : a ≠ J) : Src X J xs H0 (fun i h => h.IsTupleIter J a i) where
  keep := fun i h h' st k => st.at fun o e => k o e
  obj := fun i h st => by
    obtain ⟨o, e, _, d⟩ := st
    exact ⟨o, e, fun v z => by rw [d] at z; cases z⟩
  item := fun pins σ H s i v Q E I f sm st hv k => by
    obtain ⟨its, r, tup, _⟩ := I.tuple ((imm_of_same sm).sqT hq)
    obtain ⟨u, hu, ru⟩ := r.get hv
    obtain ⟨f0, f1, f2, f3, f4, f5⟩ := f
    exact wpAny_pyNext_tuple_item st (show s.heap.IsTuple a its.toArray from tup) (x := u) (by simpa using hu) fun h' st' sb =>
      k u h' ru (I.turned (t' := s.toks) (fun b o hb e => (sb.2 b hb).trans e) f0 f1 f3 f4 f5) st' fun b o hb e => (sb.2 b hb).trans e
  done := fun pins σ H s Q E I f sm st k => by
    obtain ⟨its, r, tup, _⟩ := I.tuple ((imm_of_same sm).sqT hq)
    obtain ⟨f0, f1, f2, f3, f4, f5⟩ := f
    have hl := r.length
    exact wpAny_pyNext_tuple_end (show X.A.in1.handled = none from I.ok.hd hc) st (show s.heap.IsTuple a its.toArray from tup) (by simp; omega) fun h' eb =>
      k h' (I.turned (t' := s.toks) (fun b o hb e => eb b o hb e) f0 f1 f3 f4 f5) fun b o hb e => eb b o hb e
/-- what the things are held against one another by -/
structure KeysOk (n : Nat) (kd : Nat → PyData) : Prop where
  cmp : ∀ i j, i < n → j < n → CmpOk (kd i) (kd j)
  im : ∀ i, i < n → imm (kd i) = true
  trans : ∀ i j k, i < n → j < n → k < n → PySem.W.dataLt (kd i) (kd j) = true → PySem.W.dataLt (kd j) (kd k) = true → PySem.W.dataLt (kd i) (kd k) = true
  irr : ∀ i, i < n → PySem.W.dataLt (kd i) (kd i) = false
/-- how a thing's key is made -/
def Val (X : Cx) (xs : List V) (H0 : Hp) (key : Value) (kd : Nat → PyData) : Prop := ∀ (i : Nat) (v : V) (u : Value) (pins : List (Addr × Obj)) (σ : L2.St) (H : Hp) (s : Shared) (Q : Value → Shared → Prop), xs[i]? = some v → Inv X pins σ H s → Same H0 H → RelV v u →
  (∀ kv r H' s', Inv X pins σ H' s' → Same H H' → RelV kv r → Dp X.K H' kv (kd i) → Q r s') → wpAny (model X.prog X.w) X.A.in1 (match key with | .none => pure u | _ => call key [u]) Q (fun _ _ => False) s
def KeyV (key : Value) : Prop := key = .none ∨ ∃ q, key = .ref q
/-- between two rounds -/
structure MinAt (X : Cx) (pins : List (Addr × Obj)) (σ : L2.St) (xs : List V) (H0 H : Hp) (st : Nat → Heap → Prop) (J S : Addr) (kd : Nat → PyData) (j i : Nat) (s : Shared) : Prop where
  inv : Inv X pins σ H s
  same : Same H0 H
  fj : FpOk X pins H J
  fs : FpOk X pins H S
  at_ : st (j + 1) s.heap
  lt : j + 1 ≤ xs.length
  le : i ≤ j
  best : ∃ v u kv r c, xs[i]? = some v ∧ RelV v u ∧ RelV kv r ∧ Dp X.K H kv (kd i) ∧ s.heap.get? S = some (seqObj "list" #[u, r] c)
  least : ∀ k, k ≤ j → PySem.W.dataLt (kd k) (kd i) = false
theorem fp_pinned {pins : List (Addr × Obj)} {fp : List Addr} {h : Heap} {b : Addr} {o : Obj} (I : Inv X (pins ++ pinsAt fp h) σ H s) (hb : b ∈ fp) (e : h.get? b = some o) (f : FpOk X pins H' b) : s.heap.get? b = some o ∧ FpOk X pins H b := by
  have z := I.pin (b, o) (List.mem_append_right _ (List.mem_append_right _ (mem_pinsAt hb e)))
  exact ⟨z.1, z.2.1, f.2⟩
theorem min_loop_name : (toString "min" ++ toString ".loop" : String) = "min.loop" := by decide
theorem fp_kept {b : Addr} (f : FpOk X pins H b) (n : H' b = none) : FpOk X pins H' b := ⟨n, f.2⟩
/-- the loop: the things behind the j-th -/
theorem min_turns {xs : List V} {st : Nat → Heap → Prop} {J S : Addr} {kd : Nat → PyData} {key : Value} {R : Result → Shared → Prop} (hu : X.A.units + 65 < cLine) (W : Src X J xs H0 st) (O : KeysOk xs.length kd) (vl : Val X xs H0 key kd) (kv0 : KeyV key) (nJS : J ≠ S)
    (fin : ∀ i v u H' s', xs[i]? = some v → RelV v u → (∀ k, k < xs.length → PySem.W.dataLt (kd k) (kd i) = false) → Same H0 H' → Inv X pins σ H' s' → R (.ok (.ret u)) s') :
    ∀ (r j i : Nat) (H : Hp) (s : Shared), xs.length - (j + 1) = r → MinAt X pins σ xs H0 H st J S kd j i s → codeAny (model X.prog X.w) X.A (.builtin "min.loop" ⟨[.ref J, key, .ref S], []⟩) R s := by
  intro r
  induction r with
  | zero =>
    rintro j i H s hr ⟨I, sm, fj, fs, at_, lt, le, ⟨v, u, kv, rk, c, hv, rv, rkv, dk, hS⟩, least⟩
    have e : j + 1 = xs.length := by omega
    rw [e] at at_
    refine codeAny_builtin PySem.F.entry_min_loop ?_
    rw [Around.under_plainId PySem.F.plain_min_loop _]
    show wpAny _ X.A.in1 (seqItems? (.ref S) >>= _) _ _ _
    refine wpAny_bind (wpAny_seqItems hS rfl ?_)
    show wpAny _ X.A.in1 (tryCatch (pyNext (.ref J)) _ >>= _) _ _ _
    refine wpAny_bind (wpAny_tryCatch (W.done pins σ H s _ _ I fj sm at_ fun h' I1 keep => ?_))
    have hS1 := keep S _ (Ne.symm nJS) hS
    show wpAny _ X.A.in1 (updateSeq S (fun _ => #[]) >>= _) _ _ _
    refine wpAny_bind (wpAny_updateSeq hS1 rfl (wpAny_bind (wpAny_letGo (wpAny_pure ?_))))
    have sb := Heap.SameBut.update h' S (Obj.mapSeq fun _ => (#[] : Array Value))
    obtain ⟨f0, f1, f2, f3, f4, f5⟩ := fs
    exact fin i v u H _ hv rv (fun k hk => least k (by omega)) sm (I1.turned (t' := s.toks) (fun b o hb e => (sb.2 b hb).trans e) f0 f1 f3 f4 f5)
  | succ r ih =>
    rintro j i H s hr ⟨I, sm, fj, fs, at_, lt, le, ⟨v, u, kv, rk, c, hv, rv, rkv, dk, hS⟩, least⟩
    have hlt : j + 1 < xs.length := by omega
    obtain ⟨v1, hv1⟩ : ∃ v1, xs[j + 1]? = some v1 := ⟨xs[j + 1], List.getElem?_eq_getElem hlt⟩
    refine codeAny_builtin PySem.F.entry_min_loop ?_
    rw [Around.under_plainId PySem.F.plain_min_loop _]
    show wpAny _ X.A.in1 (seqItems? (.ref S) >>= _) _ _ _
    refine wpAny_bind (wpAny_seqItems hS rfl ?_)
    show wpAny _ X.A.in1 (tryCatch (pyNext (.ref J)) _ >>= _) _ _ _
    refine wpAny_bind (wpAny_tryCatch (W.item pins σ H s (j + 1) v1 _ _ I fj sm at_ hv1 fun u1 h' ru1 I1 at1 keep => ?_))
    have hS1 := keep S _ (Ne.symm nJS) hS
    -- both are held while the key is made
    have both : ∀ b ∈ [J, S], FpOk X pins H b := fun b hb => by
      rcases List.mem_cons.mp hb with e | hb
      · rw [e]; exact fj
      · rw [List.mem_singleton.mp hb]; exact fs
    obtain ⟨oJ, hJ1, nJ⟩ := W.obj _ _ at1
    have I2 := I1.pinned (fp := [J, S]) both fun b hb => by
      rcases List.mem_cons.mp hb with e | hb
      · rw [e]; exact ⟨oJ, hJ1, nJ⟩
      · rw [List.mem_singleton.mp hb]; exact ⟨_, hS1, fun v z => by cases z⟩
    have step : ∀ (r1 : Value) (H2 : Hp) (s2 : Shared) (kv1 : V), Inv X (pins ++ pinsAt [J, S] h') σ H2 s2 → Same H H2 → RelV kv1 r1 → Dp X.K H2 kv1 (kd (j + 1)) →
        wpAny (model X.prog X.w) X.A.in1 (tryCatch (holding [u1, r1] (richCompare .Lt r1 rk >>= fun answer => holding [answer] (truthy answer) >>= fun yes => letGo [answer] >>= fun _ => pure yes)) (fun e => updateSeq S (fun _ => #[]) >>= fun _ => letGo ([r1, u1] ++ [u, rk].reverse) [e] >>= fun _ => throw e) >>= fun better =>
          if better = true then (updateSeq S (fun _ => #[u1, r1]) >>= fun _ => letGo [rk, u] >>= fun _ => again (.builtin "min.loop" ⟨[.ref J, key, .ref S], []⟩)) else (letGo [u1, r1] >>= fun _ => again (.builtin "min.loop" ⟨[.ref J, key, .ref S], []⟩)))
          (fun f s' => match f with
            | .done f => R (.ok f) s'
            | .again c' => c'.quiet = true ∧ codeAny (model X.prog X.w) X.A c' R s') (fun e s' => R (.error e) s') s2 := by
      intro r1 H2 s2 kv1 I3 sm2 rkv1 dk1
      have sm02 := sm.trans sm2
      obtain ⟨pJ, fJ2⟩ := fp_pinned I3 (by simp) hJ1 fj
      obtain ⟨pS, fS2⟩ := fp_pinned I3 (by simp) hS1 fs
      have I4 : Inv X pins σ H2 s2 := I3.unpinned
      have at2 : st (j + 1 + 1) s2.heap := W.keep _ _ _ at1 fun o e => by
        rw [hJ1] at e
        cases e
        exact pJ
      have dkb : Dp X.K H2 kv (kd i) := Dp.imm sm2 dk
      obtain ⟨as, q1⟩ := Dp.reads I4 _ _ _ dk1 rkv1
      obtain ⟨bs, q2⟩ := Dp.reads I4 _ _ _ dkb rkv
      have cm := O.cmp (j + 1) i hlt (by omega)
      refine wpAny_bind (wpAny_tryCatch (wpAny_holding (wpAny_bind (PySem.W.lt_data q1 q2 cm.1 cm.2.1 (cm.room (show X.A.units + 1 + 64 < cLine by omega)) ?_))))
      refine wpAny_bind (wpAny_holding (wpAny_truthy_bool ?_))
      refine wpAny_bind (wpAny_letGo (wpAny_pure ?_))
      cases hb : PySem.W.dataLt (kd (j + 1)) (kd i) with
      | true =>
        simp only [if_true]
        refine wpAny_bind (wpAny_updateSeq pS rfl (wpAny_bind (wpAny_letGo (wpAny_pure ⟨plainId_quiet PySem.F.plain_min_loop _, ?_⟩))))
        have sb := Heap.SameBut.update s2.heap S (Obj.mapSeq fun _ => #[u1, r1])
        obtain ⟨c2, hc2⟩ : ∃ c2, (s2.heap.update S (Obj.mapSeq fun _ => #[u1, r1])).get? S = some (seqObj "list" #[u1, r1] c2) := ⟨_, get?_update_seq pS fun _ => #[u1, r1]⟩
        have I5 : Inv X pins σ H2 { s2 with heap := s2.heap.update S (Obj.mapSeq fun _ => #[u1, r1]) } := by
          obtain ⟨f0, f1, f2, f3, f4, f5⟩ := fS2
          exact I4.turned (t' := s2.toks) (fun b o hb e => (sb.2 b hb).trans e) f0 f1 f3 f4 f5
        refine ih (j + 1) (j + 1) H2 _ (by omega) ⟨I5, sm02, fJ2, fS2, W.keep _ _ _ at2 fun o e => (sb.2 J nJS).trans e, by omega, Nat.le_refl _, ⟨v1, u1, kv1, r1, c2, hv1, ru1, rkv1, dk1, hc2⟩, fun k hk => ?_⟩
        by_cases e : k = j + 1
        · rw [e]; exact O.irr _ hlt
        · have hk' := least k (by omega)
          cases z : PySem.W.dataLt (kd k) (kd (j + 1)) with
          | false => rfl
          | true =>
            have := O.trans k (j + 1) i (by omega) hlt (by omega) z hb
            rw [hk'] at this
            cases this
      | false =>
        simp only [Bool.false_eq_true, if_false]
        refine wpAny_bind (wpAny_letGo (wpAny_pure ⟨plainId_quiet PySem.F.plain_min_loop _, ?_⟩))
        refine ih (j + 1) i H2 _ (by omega) ⟨I4, sm02, fJ2, fS2, at2, by omega, by omega, ⟨v, u, kv, rk, c, hv, rv, rkv, dkb, pS⟩, fun k hk => ?_⟩
        by_cases e : k = j + 1
        · rw [e]; exact hb
        · exact least k (by omega)
    have vk := vl (j + 1) v1 u1 (pins ++ pinsAt [J, S] h') σ H { s with heap := h' }
    rcases kv0 with rfl | ⟨q, rfl⟩
    · show wpAny _ X.A.in1 (pure u1 >>= _) _ _ _
      refine wpAny_bind (wpAny_mono (vk _ hv1 I2 sm ru1 fun kv1 r1 H2 s2 I3 sm2 rkv1 dk1 => ?_) (fun _ _ z => z) fun _ _ z => z.elim)
      rw [min_loop_name]
      exact step r1 H2 s2 kv1 I3 sm2 rkv1 dk1
    · show wpAny _ X.A.in1 (tryCatch (holding [u1] (call (.ref q) [u1])) _ >>= _) _ _ _
      refine wpAny_bind (wpAny_tryCatch (wpAny_holding (wpAny_mono (vk _ hv1 I2 sm ru1 fun kv1 r1 H2 s2 I3 sm2 rkv1 dk1 => ?_) (fun _ _ z => z) fun _ _ z => z.elim)))
      rw [min_loop_name]
      exact step r1 H2 s2 kv1 I3 sm2 rkv1 dk1
/-- the first round -/
theorem min_first {xs : List V} {st : Nat → Heap → Prop} {J S : Addr} {kd : Nat → PyData} {key : Value} {R : Result → Shared → Prop} {c : Nat} (hu : X.A.units + 65 < cLine) (W : Src X J xs H0 st) (O : KeysOk xs.length kd) (vl : Val X xs H0 key kd) (kv0 : KeyV key) (nJS : J ≠ S) (pos : 0 < xs.length)
    (fin : ∀ i v u H' s', xs[i]? = some v → RelV v u → (∀ k, k < xs.length → PySem.W.dataLt (kd k) (kd i) = false) → Same H0 H' → Inv X pins σ H' s' → R (.ok (.ret u)) s')
    (I : Inv X pins σ H0 s) (fj : FpOk X pins H0 J) (fs : FpOk X pins H0 S) (at_ : st 0 s.heap) (hS : s.heap.get? S = some (seqObj "list" #[] c)) : codeAny (model X.prog X.w) X.A (.builtin "min.loop" ⟨[.ref J, key, .ref S], []⟩) R s := by
  obtain ⟨v1, hv1⟩ : ∃ v1, xs[0]? = some v1 := ⟨xs[0], List.getElem?_eq_getElem pos⟩
  refine codeAny_builtin PySem.F.entry_min_loop ?_
  rw [Around.under_plainId PySem.F.plain_min_loop _]
  show wpAny _ X.A.in1 (seqItems? (.ref S) >>= _) _ _ _
  refine wpAny_bind (wpAny_seqItems hS rfl ?_)
  show wpAny _ X.A.in1 (tryCatch (pyNext (.ref J)) _ >>= _) _ _ _
  refine wpAny_bind (wpAny_tryCatch (W.item pins σ H0 s 0 v1 _ _ I fj (Same.refl _) at_ hv1 fun u1 h' ru1 I1 at1 keep => ?_))
  have hS1 := keep S _ (Ne.symm nJS) hS
  have both : ∀ b ∈ [J, S], FpOk X pins H0 b := fun b hb => by
    rcases List.mem_cons.mp hb with e | hb
    · rw [e]; exact fj
    · rw [List.mem_singleton.mp hb]; exact fs
  obtain ⟨oJ, hJ1, nJ⟩ := W.obj _ _ at1
  have I2 := I1.pinned (fp := [J, S]) both fun b hb => by
    rcases List.mem_cons.mp hb with e | hb
    · rw [e]; exact ⟨oJ, hJ1, nJ⟩
    · rw [List.mem_singleton.mp hb]; exact ⟨_, hS1, fun v z => by cases z⟩
  have step : ∀ (r1 : Value) (H2 : Hp) (s2 : Shared) (kv1 : V), Inv X (pins ++ pinsAt [J, S] h') σ H2 s2 → Same H0 H2 → RelV kv1 r1 → Dp X.K H2 kv1 (kd 0) →
      wpAny (model X.prog X.w) X.A.in1 (updateSeq S (fun _ => #[u1, r1]) >>= fun _ => again (.builtin "min.loop" ⟨[.ref J, key, .ref S], []⟩))
        (fun f s' => match f with
          | .done f => R (.ok f) s'
          | .again c' => c'.quiet = true ∧ codeAny (model X.prog X.w) X.A c' R s') (fun e s' => R (.error e) s') s2 := by
    intro r1 H2 s2 kv1 I3 sm2 rkv1 dk1
    obtain ⟨pJ, fJ2⟩ := fp_pinned I3 (by simp) hJ1 fj
    obtain ⟨pS, fS2⟩ := fp_pinned I3 (by simp) hS1 fs
    have I4 : Inv X pins σ H2 s2 := I3.unpinned
    have at2 : st (0 + 1) s2.heap := W.keep _ _ _ at1 fun o e => by
      rw [hJ1] at e
      cases e
      exact pJ
    refine wpAny_bind (wpAny_updateSeq pS rfl (wpAny_pure ⟨plainId_quiet PySem.F.plain_min_loop _, ?_⟩))
    have sb := Heap.SameBut.update s2.heap S (Obj.mapSeq fun _ => #[u1, r1])
    obtain ⟨c2, hc2⟩ : ∃ c2, (s2.heap.update S (Obj.mapSeq fun _ => #[u1, r1])).get? S = some (seqObj "list" #[u1, r1] c2) := ⟨_, get?_update_seq pS fun _ => #[u1, r1]⟩
    have I5 : Inv X pins σ H2 { s2 with heap := s2.heap.update S (Obj.mapSeq fun _ => #[u1, r1]) } := by
      obtain ⟨f0, f1, f2, f3, f4, f5⟩ := fS2
      exact I4.turned (t' := s2.toks) (fun b o hb e => (sb.2 b hb).trans e) f0 f1 f3 f4 f5
    refine min_turns hu W O vl kv0 nJS fin _ 0 0 H2 _ rfl ⟨I5, sm2, fJ2, fS2, W.keep _ _ _ at2 fun o e => (sb.2 J nJS).trans e, by omega, Nat.le_refl _, ⟨v1, u1, kv1, r1, c2, hv1, ru1, rkv1, dk1, hc2⟩, fun k hk => ?_⟩
    have e : k = 0 := by omega
    rw [e]
    exact O.irr 0 pos
  have vk := vl 0 v1 u1 (pins ++ pinsAt [J, S] h') σ H0 { s with heap := h' }
  rcases kv0 with rfl | ⟨q, rfl⟩
  · show wpAny _ X.A.in1 (pure u1 >>= _) _ _ _
    refine wpAny_bind (wpAny_mono (vk _ hv1 I2 (Same.refl _) ru1 fun kv1 r1 H2 s2 I3 sm2 rkv1 dk1 => ?_) (fun _ _ z => z) fun _ _ z => z.elim)
    rw [min_loop_name]
    exact step r1 H2 s2 kv1 I3 sm2 rkv1 dk1
  · show wpAny _ X.A.in1 (tryCatch (holding [u1] (call (.ref q) [u1])) _ >>= _) _ _ _
    refine wpAny_bind (wpAny_tryCatch (wpAny_holding (wpAny_mono (vk _ hv1 I2 (Same.refl _) ru1 fun kv1 r1 H2 s2 I3 sm2 rkv1 dk1 => ?_) (fun _ _ z => z) fun _ _ z => z.elim)))
    rw [min_loop_name]
    exact step r1 H2 s2 kv1 I3 sm2 rkv1 dk1
/-- behind the iterator at J: the list at S -/
theorem min_rest {xs : List V} {st : Nat → Heap → Prop} {J : Addr} {kd : Nat → PyData} {key : Value} {R : Result → Shared → Prop} {E : Value → Shared → Prop} (hu : X.A.units + 65 < cLine) (W : Src X J xs H0 st) (O : KeysOk xs.length kd) (vl : Val X xs H0 key kd) (kv0 : KeyV key) (pos : 0 < xs.length)
    (fin : ∀ i v u H' s', xs[i]? = some v → RelV v u → (∀ k, k < xs.length → PySem.W.dataLt (kd k) (kd i) = false) → Same H0 H' → Inv X pins σ H' s' → R (.ok (.ret u)) s')
    (I : Inv X pins σ H0 s) (fj : FpOk X pins H0 J) (at_ : st 0 s.heap) : wpAny (model X.prog X.w) X.A.in1 (newList [] >>= fun b => again (.builtin (toString "min" ++ toString ".loop") ⟨[.ref J, key, b], []⟩))
      (fun f s' => match f with
        | .done f => R (.ok f) s'
        | .again c' => c'.quiet = true ∧ codeAny (model X.prog X.w) X.A c' R s') E s := by
  refine wpAny_bind (wpAny_newList ?_ (Nat.zero_le _))
  rw [min_loop_name]
  have nS : H0 s.heap.objs.size = none := I.hok.fresh (Nat.le_refl _)
  have lJ : J < s.heap.objs.size := by
    obtain ⟨o, e, _⟩ := W.obj _ _ at_
    exact Heap.lt_size e
  have I1 : Inv X pins σ H0 { s with heap := s.heap.push (seqObj "list" #[] 0) } := I.kept (t' := s.toks) fun b o e => Heap.get?_push_of_some _ e
  exact wpAny_pure ⟨plainId_quiet PySem.F.plain_min_loop _, min_first (c := 0) hu W O vl kv0 (Nat.ne_of_lt lJ) pos fin I1 fj (I.fpOk (Nat.le_refl _) nS) (W.keep _ _ _ at_ fun o e => Heap.get?_push_of_some _ e) (Heap.get?_push_size _ rfl)⟩
def rMinX (K : PySem.W.Frag) : List V → Hp → VK → Prop := fun vs H Q => ∃ (a : Addr) (xs : List V) (ds : List PyData), vs = [.ref a] ∧ (SqL K H a xs ∨ SqT K H a xs) ∧ DpAll K H xs ds ∧ 0 < ds.length ∧ KeysOk ds.length (fun i => ds.getD i .none) ∧
  ∀ (i : Nat) (v : V) (d : PyData) (H' : Hp), xs[i]? = some v → ds[i]? = some d → (∀ e ∈ ds, PySem.W.dataLt e d = false) → Same H H' → Q v H'
theorem min_args (a : Value) : argsOk "min" ⟨[a], []⟩ := by unfold argsOk; kernel_rfl
theorem cr_minX (hc : X.calm = true) (hu : X.A.units + 65 < cLine) : CallR X (.builtin "min") (rMinX X.K) := by
  intro pins s σ H vs us Q I r h
  obtain ⟨a, xs, ds, rfl, hq, dp, pos, O, q⟩ := h
  obtain rfl := Vals.ref1 r
  have ll := dpAll_len dp
  have get : ∀ {i : Nat} {v : V}, xs[i]? = some v → ∃ d, ds[i]? = some d ∧ ds.getD i .none = d ∧ Dp X.K H v d := fun {i v} e => by
    have lt : i < ds.length := by
      rw [← ll]
      exact (List.getElem?_eq_some_iff.mp e).1
    obtain ⟨w, e1, d1⟩ := dpAll_get dp (List.getElem?_eq_getElem lt)
    rw [e] at e1
    cases e1
    exact ⟨ds[i], List.getElem?_eq_getElem lt, by simp [lt], d1⟩
  have O' : KeysOk xs.length (fun i => ds.getD i .none) := by rw [ll]; exact O
  have vl : Val X xs H .none (fun i => ds.getD i .none) := fun i v u pins σ H1 s1 Q1 e I1 sm rv k => by
    obtain ⟨d, _, e2, d1⟩ := get e
    refine wpAny_pure (k v u H1 s1 I1 (Same.refl _) rv ?_)
    show Dp X.K H1 v (ds.getD i .none)
    rw [e2]
    exact Dp.imm sm d1
  have fin : ∀ i v u H' s', xs[i]? = some v → RelV v u → (∀ k, k < xs.length → PySem.W.dataLt (ds.getD k .none) (ds.getD i .none) = false) → Same H H' → Inv X pins σ H' s' → EP X pins σ Q u s' := fun i v u H' s' e rv least sm I' => by
    obtain ⟨d, e1, e2, _⟩ := get e
    refine ⟨v, H', I', rv, q i v d H' e e1 (fun z hz => ?_) sm⟩
    obtain ⟨k, lk, ek⟩ := List.getElem_of_mem hz
    have := least k (by omega)
    rw [e2] at this
    rw [← ek]
    simpa [lk] using this
  refine kmk_tree PySem.F.kind_min PySem.F.plain_min PySem.F.entry_min (min_args _) ?_
  show wpAny _ X.A.in1 (Builtin.Builtins.bindParams "min" ["key", "default"] 0 ⟨[], []⟩ >>= _) _ _ s
  refine wpAny_bind (wpAny_of_eq (show Builtin.Builtins.bindParams "min" ["key", "default"] 0 ⟨[], []⟩ = pure [none, none] from rfl) ?_)
  refine wpAny_bind (wpAny_pure ?_)
  have nJ : H s.heap.objs.size = none := I.hok.fresh (Nat.le_refl _)
  rcases hq with hq | hq
  · obtain ⟨its, _, lst, _⟩ := I.list hq
    refine wpAny_bind (wpAny_pyIter_list lst.isList ?_)
    have na : a ≠ s.heap.objs.size := Nat.ne_of_lt lst.lt
    refine min_rest hu (src_list hc hq na) O' vl (.inl rfl) (by omega) (R := fun r s' => match r with | .ok (.ret u) => EP X pins σ Q u s' | .ok _ => False | .error e => X.xe e s') fin (I.kept (t' := s.toks) fun b o e => Heap.get?_push_of_some _ e) (I.fpOk (Nat.le_refl _) nJ) ?_
    exact ⟨_, Heap.get?_push_size _ rfl, rfl, rfl⟩
  · obtain ⟨its, _, tup, _⟩ := I.tuple hq
    refine wpAny_bind (wpAny_pyIter_tuple (show s.heap.IsTuple a its.toArray from tup) ?_)
    have na : a ≠ s.heap.objs.size := by
      obtain ⟨o, e, _⟩ := tup
      exact Nat.ne_of_lt (Heap.lt_size e)
    refine min_rest hu (src_tup hc hq na) O' vl (.inl rfl) (by omega) (R := fun r s' => match r with | .ok (.ret u) => EP X pins σ Q u s' | .ok _ => False | .error e => X.xe e s') fin (I.kept (t' := s.toks) fun b o e => Heap.get?_push_of_some _ e) (I.fpOk (Nat.le_refl _) nJ) ?_
    exact ⟨_, Heap.get?_push_size _ rfl, rfl, rfl⟩
/-- min(xs, key=f), f a def that makes new things alone -/
def rMinK (K : PySem.W.Frag) (f : Addr) (sp : Sp) : List V → List V → Hp → VK → Prop := fun vs zs H Q => ∃ (a : Addr) (xs : List V) (kd : Nat → PyData), vs = [.ref a] ∧ zs = [.ref f] ∧ SqL K H a xs ∧ 0 < xs.length ∧ KeysOk xs.length kd ∧
  (∀ (i : Nat) (v : V) (H' : Hp) (Q' : VK) (E' : XK), xs[i]? = some v → Same H H' → (∀ r H'', Same H' H'' → Dp K H'' r (kd i) → Q' r H'') → sp [v] H' Q' E') ∧
  ∀ (i : Nat) (v : V) (H' : Hp), xs[i]? = some v → (∀ k, k < xs.length → PySem.W.dataLt (kd k) (kd i) = false) → Same H H' → Q v H'
theorem cr_minK {CX : CXT} {k : Nat} {f : Addr} {fd : FuncData} {ps : List Str} {sp : Sp} (hc : X.calm = true) (F : FnOk X.prog X.w X.K X.mg X.base CX k f fd ps sp) (hr : Room (k + 1) X.A) (hb : Binds X.K fd ps []) (hx : ∀ outer H s E e s', CX outer H s E e s' → False) :
    CallRK X (.builtin "min") [Str.ofString "key"] (rMinK X.K f sp) := by
  intro pins s σ H vs zs us ws Q I r rz h
  obtain ⟨a, xs, kd, rfl, rfl, hq, pos, O, mk, q⟩ := h
  obtain rfl := Vals.ref1 r
  obtain rfl := Vals.ref1 rz
  have hu : X.A.units + 65 < cLine := by have := hr.un; omega
  have vl : Val X xs H (.ref f) kd := fun i v u pins σ H1 s1 Q1 e I1 sm rv k => by
    have run := run_fn (X := Cx.low X) (dvs := []) (ds := []) F hr.in1 hb .nil (E := fun _ _ _ => False) (fun pins σ H s e s' _ z => hx _ _ _ _ _ _ z) (Inv.low I1) (.cons rv .nil) (Q := fun r H2 => Same H1 H2 ∧ Dp X.K H2 r (kd i)) (mk i v H1 _ _ e sm fun r H2 a b => ⟨a, b⟩)
    refine wpAny_mono run (fun r s2 hh => ?_) fun _ _ z => z
    obtain ⟨kv, H2, I2, rk, sm2, dk⟩ := hh
    exact k kv r H2 s2 (Inv.high I2) sm2 rk dk
  have nJ : H s.heap.objs.size = none := I.hok.fresh (Nat.le_refl _)
  obtain ⟨its, _, lst, _⟩ := I.list hq
  have na : a ≠ s.heap.objs.size := Nat.ne_of_lt lst.lt
  refine kmk_tree PySem.F.kind_min PySem.F.plain_min PySem.F.entry_min (kmk_min_key _ _) ?_
  show wpAny _ X.A.in1 (Builtin.Builtins.bindParams "min" ["key", "default"] 0 ⟨[], [(Str.ofString "key", .ref f)]⟩ >>= _) _ _ s
  refine wpAny_bind (wpAny_of_eq (show Builtin.Builtins.bindParams "min" ["key", "default"] 0 ⟨[], [(Str.ofString "key", .ref f)]⟩ = pure [some (.ref f), none] from rfl) ?_)
  refine wpAny_bind (wpAny_pure (wpAny_bind (wpAny_pyIter_list lst.isList ?_)))
  refine min_rest hu (src_list hc hq na) O vl (.inr ⟨f, rfl⟩) pos (R := fun r s' => match r with | .ok (.ret u) => EP X pins σ Q u s' | .ok _ => False | .error e => X.xe e s')
    (fun i v u H' s' e rv least sm I' => ⟨v, H', I', rv, q i v H' e least sm⟩) (I.kept (t' := s.toks) fun b o e => Heap.get?_push_of_some _ e) (I.fpOk (Nat.le_refl _) nJ) ?_
  exact ⟨_, Heap.get?_push_size _ rfl, rfl, rfl⟩
end

/-! ### a walk over the keys of a dict of the module -/
def KKeys (K : PySem.W.Frag) (d : Addr) (ws : List Str) : Prop := ∃ (es : Array DictEntry) (n : Nat), K.lookup d = some ⟨.type "dict", none, .dict es n, #[]⟩ ∧ (d == sysModules) = false ∧ Paired (fun (e : DictEntry) (x : Str) => ∃ t, e.key = .str x t) es.toList ws
def ItKK (ws : List Str) : It where
  go := fun i _ => i < ws.length
  yld := fun i H x H' => H' = H ∧ ∃ y, ws[i]? = some y ∧ x = .str y
  stop := fun i _ => ws.length ≤ i
theorem turn_kk {P : Program} {w : World} {K : PySem.W.Frag} {tg : Expr} {d it : Addr} {ws : List Str} {es : Array DictEntry} {n : Nat} (e0 : K.lookup d = some ⟨.type "dict", none, .dict es n, #[]⟩) (pe : Paired (fun (e : DictEntry) (x : Str) => ∃ t, e.key = .str x t) es.toList ws) :
    Turn P w K tg (ItKK ws) [it] it (fun i h => h.IsKeyIter it d i es.size n) where
  mem := List.mem_singleton.mpr rfl
  obj := fun i h st b hb => by
    obtain rfl : b = it := List.mem_singleton.mp hb
    obtain ⟨o, e, _, dt⟩ := st
    exact ⟨o, e, fun v z => by rw [dt] at z; cases z⟩
  keep := fun i h h' st k => st.at fun o e => k it (List.mem_singleton.mpr rfl) o e
  item := by
    intro X eP ew eK calm i pins s σ H E I fresh st go
    subst eP ew eK
    obtain ⟨f0, f1, f2, f3, f4, f5⟩ := fresh it (List.mem_singleton.mpr rfl)
    obtain ⟨y, hy⟩ : ∃ y, ws[i]? = some y := ⟨ws[i], List.getElem?_eq_getElem go⟩
    obtain ⟨en, hen, t, ek⟩ := paired_at pe hy
    have hen : es[i]? = some en := by rw [← Array.getElem?_toList]; exact hen
    refine next_key_item st (I.kIn _ _ e0) rfl rfl hen fun h' st' sb => ?_
    obtain ⟨o, e, c, dt⟩ := id st'
    have I1 : Inv X pins σ H { s with heap := h' } := I.turned (t' := s.toks) (fun b ob hb z => (sb.2 b hb).trans z) f0 f1 f3 f4 f5
    exact ⟨en.key, rfl, go_of (s := { s with heap := h' }) e c dt (by decide) ⟨.str y, H, I1, ⟨t, ek⟩, ⟨rfl, y, hy, rfl⟩, st', fun b hb => (fresh b hb).1⟩⟩
  done := by
    intro X eP ew eK calm i pins s σ H E I fresh st stop
    subst eP ew eK
    obtain ⟨f0, f1, f2, f3, f4, f5⟩ := fresh it (List.mem_singleton.mpr rfl)
    have hl : es.size ≤ i := by rw [← Array.length_toList, paired_len pe]; exact stop
    exact next_key_end (I.ok.hd calm) st (I.kIn _ _ e0) rfl rfl hl fun h' eb => ⟨rfl, I.turned (t' := s.toks) (fun b ob hb z => eb b ob hb z) f0 f1 f3 f4 f5⟩
  self := fun A i s Q E st h => wpAny_pyIter_keyiter st h
def iKK (ws : List Str) : TI := fun _ H R => R (ItKK ws) H
theorem pi_kk {X : Cx} {tg e : Expr} {d : Addr} {ws : List Str} (he : PE X e (tC (.ref d))) (kk : KKeys X.K d ws) : PI X tg e (iKK ws) := by
  obtain ⟨es, n, e0, hd, pe⟩ := kk
  refine ⟨fun pins s σ H R I h => ?_⟩
  refine thn (he.run pins s σ H (fun v H1 => v = .ref d ∧ R (ItKK ws) H1) I ⟨rfl, h⟩) fun u s1 ⟨x, H1, I1, rx, ex, q⟩ => ?_
  subst ex
  obtain rfl : u = Value.ref d := rx
  exact iter_keys hd (I1.kIn _ _ e0) ⟨rfl, rfl, rfl⟩ rfl (pi_one (tk := s1.toks) I1 _ (turn_kk e0 pe) ⟨_, Heap.get?_push_size _ rfl, rfl, rfl⟩ q)
def aKK (ws : List Str) : AI := fun _ Φ => Φ true (ws.map fun x => AV.d (.str x))
instance {K : PySem.W.Frag} {ec : EC} {F : Fr K ec} {ws : List Str} : SI F (iKK ws) (aKK ws) where
  snd := fun Z ρ σ H Φ R o q k => by
    refine k _ true _ (fun _ => True) H Z q o.refl ⟨fun _ _ _ => trivial, fun _ _ _ _ => trivial, ?_, ?_, ?_⟩
    · intro i H hi _
      rw [List.length_map] at hi
      exact hi
    · intro H _
      show ws.length ≤ _
      rw [List.length_map]
      exact Nat.le_refl _
    · rintro i Z2 ρ2 σ2 H2 x H' hi g o2 st ⟨rfl, y, hy, rfl⟩
      exact ⟨.d (.str y), by rw [List.getElem?_map, hy]; rfl, o2.refl, rv_str _⟩
/-! ### a walk over what a name holds, a list or a tuple -/
def iSeqV (K : PySem.W.Frag) (i : Nat) : TI := fun σ H R => iTup K (tVar i) σ H R ∨ iList K (tVar i) σ H R
theorem k_iterV {X : Cx} (K : PySem.W.Frag) {tg l : Expr} {i : Nat} (hl : PE X l (tVar i)) (hK : X.K = K := by rfl) : PI X tg l (iSeqV K i) := by
  subst hK
  exact ⟨fun pins s σ H R I h => h.elim ((pi_tup hl).run pins s σ H R I) ((pi_list hl).run pins s σ H R I)⟩
def aSeqV (i : Nat) : AI := fun ρ Φ => aITup (aVar i) ρ Φ ∨ aIList (aVar i) ρ Φ
instance {K : PySem.W.Frag} {ec : EC} {F : Fr K ec} {i : Nat} : SI F (iSeqV K i) (aSeqV i) where
  snd := fun Z ρ σ H Φ R o q k => by
    rcases q with q | q
    · exact .inl (SI.snd (F := F) (wi := iTup K (tVar i)) (ai := aITup (aVar i)) Z ρ σ H Φ R o q k)
    · exact .inr (SI.snd (F := F) (wi := iList K (tVar i)) (ai := aIList (aVar i)) Z ρ σ H Φ R o q k)

/-! ### how things are put into a set that is made -/
/-- the set object with nothing in it -/
def noneYet (w : World) : Obj := { cls := .type "set", dict := none, data := .set #[] 0 (.fresh 0 0 (!w.params.followText "set-order")) }
/-- a way to tell of such a set: how it begins, how a thing is put in -/
structure Putter where
  init : Program → World → Addr → HO
  put : Program → World → PySem.W.Frag → Addr → V → Hp → (Hp → Prop) → Prop
structure Putter.Ok (p : Putter) : Prop where
  fresh : ∀ (P : Program) (w : World) (H : Hp) (h : Heap), ObjOk P w H (h.push (noneYet w)) h.objs.size (p.init P w h.objs.size)
  run : ∀ {X : Cx} {pins : List (Addr × Obj)} {σ : L2.St} {H : Hp} {s : Shared} {D : Addr} {y : V} {u : Value} {Nx : Hp → Prop} {E : Value → Shared → Prop}, Inv X pins σ H s → RelV y u → p.put X.prog X.w X.K D y H Nx →
    wpAny (model X.prog X.w) X.A (call (.builtin "set.add") [.ref D, u]) (fun _ s' => ∃ H', Inv X pins σ H' s' ∧ Nx H') E s
/-! ### {elt for t0 in i0 if .. for t1 in i1 if ..} -/
abbrev sc2 (elt t0 i0 t1 i1 : Expr) (q0 q1 : List Expr) (scope : Scope) (pos : Pos) : Expr := .SetComp elt [⟨t0, i0, q0, 0⟩, ⟨t1, i1, q1, 0⟩] scope pos
abbrev tests (q : List Expr) (env : Env) : Sem Bool := forIn q true fun c r => if r = true then do let ok ← isTrue c env (eval c env); pure (ForInStep.yield ok) else pure (ForInStep.yield r)
section
variable {prog : Program} {w : World} {A : Around} {R : Result → Shared → Prop} {s : Shared} {elt t0 i0 t1 i1 : Expr} {q0 q1 : List Expr} {scope : Scope} {pos : Pos} {it acc : Value} {env : Env}
theorem sc2_turn0 : compTurn (sc2 elt t0 i0 t1 i1 q0 q1 scope pos) 0 it acc env = (standAt i0.pos >>= fun _ => pyNext it >>= fun m => match m with
    | none => pure (.done .next)
    | some v => letOwnedTupleGo t0 it v >>= fun _ => assign t0 env v >>= fun _ => tests q0 env >>= fun ok =>
      if ok = true then (eval i1 env >>= fun x => standAt i1.pos >>= fun _ => foldedSetIterable i1 env x >>= fun x => holding [x] (pyIter x) >>= fun j =>
        runOwn (.compStart (sc2 elt t0 i0 t1 i1 q0 q1 scope pos) 1 j acc env) env >>= fun _ => again (.compLoop (sc2 elt t0 i0 t1 i1 q0 q1 scope pos) 0 it acc env))
      else again (.compLoop (sc2 elt t0 i0 t1 i1 q0 q1 scope pos) 0 it acc env)) := by rfl
theorem sc2_turn1 : compTurn (sc2 elt t0 i0 t1 i1 q0 q1 scope pos) 1 it acc env = (standAt i1.pos >>= fun _ => pyNext it >>= fun m => match m with
    | none => pure (.done .next)
    | some v => letOwnedTupleGo t1 it v >>= fun _ => assign t1 env v >>= fun _ => tests q1 env >>= fun ok =>
      if ok = true then ((eval elt env >>= fun x => standAt elt.pos >>= fun _ => call (.builtin "set.add") [acc, x] >>= fun _ => pure ()) >>= fun _ => again (.compLoop (sc2 elt t0 i0 t1 i1 q0 q1 scope pos) 1 it acc env))
      else again (.compLoop (sc2 elt t0 i0 t1 i1 q0 q1 scope pos) 1 it acc env)) := by rfl
/-- what a raise leads to -/
abbrev Rr (prog : Program) (w : World) (A : Around) (env : Env) (R : Result → Shared → Prop) : Value → Shared → Prop := notedBy (model prog w) A env fun e s' => R (.error e) s'
theorem sc2_outer (hs : ∀ x, foldedSetIterable i1 env x = pure x) (I : Nat → Shared → Prop)
    (turn : ∀ n s, I n s → wpAny (model prog w) A (pyNext it) (fun r s₁ => match r with
      | none => R (.ok .next) s₁
      | some v => wpAny (model prog w) A (letOwnedTupleGo t0 it v) (fun _ s₂ => wpAny (model prog w) A (assign t0 env v) (fun _ s₃ => wpAny (model prog w) A (tests q0 env) (fun ok s₄ =>
            if ok = true then wpAny (model prog w) A (eval i1 env) (fun x s₅ => wpAny (model prog w) A (pyIter x) (fun j s₆ =>
              codeAny (model prog w) A (.compStart (sc2 elt t0 i0 t1 i1 q0 q1 scope pos) 1 j acc env) (fun r s' => match r with
                | .ok _ => ∃ m, m < n ∧ I m s'
                | .error _ => False) s₆) (Rr prog w A env R) s₅) (Rr prog w A env R) s₄
            else ∃ m, m < n ∧ I m s₄) (Rr prog w A env R) s₃) (Rr prog w A env R) s₂) (Rr prog w A env R) s₁) (Rr prog w A env R) s)
    (n : Nat) (h : I n s) : codeAny (model prog w) A (.compLoop (sc2 elt t0 i0 t1 i1 q0 q1 scope pos) 0 it acc env) R s := by
  refine codeAny_loop rfl I (fun n s hI => ?_) n h
  show wpAny _ A ((compTurn (sc2 elt t0 i0 t1 i1 q0 q1 scope pos) 0 it acc env).onRaise (fun x => do noteFrame x env; theTreesLotGoes x)) _ _ s
  refine wpAny_noted ?_
  rw [sc2_turn0]
  refine wpAny_bind (wpAny_standAt (wpAny_bind (wpAny_mono (turn n s hI) (fun r s₁ h₁ => ?_) fun _ _ z => z)))
  cases r with
  | none => exact wpAny_pure h₁
  | some v =>
    refine wpAny_bind (wpAny_mono h₁ (fun _ s₂ h₂ => wpAny_bind (wpAny_mono h₂ (fun _ s₃ h₃ => wpAny_bind (wpAny_mono h₃ (fun ok s₄ h₄ => ?_) fun _ _ z => z)) fun _ _ z => z)) fun _ _ z => z)
    cases ok with
    | false => exact wpAny_pure ⟨rfl, h₄⟩
    | true =>
      simp only [if_true] at h₄ ⊢
      refine wpAny_bind (wpAny_mono h₄ (fun x s₅ h₅ => ?_) fun _ _ z => z)
      refine wpAny_bind (wpAny_standAt (wpAny_bind (wpAny_of_eq (hs x) (wpAny_bind (wpAny_holding (wpAny_mono h₅ (fun j s₆ h₆ => ?_) fun _ _ z => z))))))
      refine wpAny_bind (wpAny_runOwn ?_)
      rw [Around.mark_none]
      refine codeAny_mono h₆ fun r s' hr => ?_
      cases r with
      | ok f => exact wpAny_pure ⟨rfl, hr⟩
      | error e => exact hr.elim
theorem sc2_inner (I : Nat → Shared → Prop)
    (turn : ∀ n s, I n s → wpAny (model prog w) A (pyNext it) (fun r s₁ => match r with
      | none => R (.ok .next) s₁
      | some v => wpAny (model prog w) A (letOwnedTupleGo t1 it v) (fun _ s₂ => wpAny (model prog w) A (assign t1 env v) (fun _ s₃ => wpAny (model prog w) A (tests q1 env) (fun ok s₄ =>
            if ok = true then wpAny (model prog w) A (eval elt env) (fun x s₅ => wpAny (model prog w) A (call (.builtin "set.add") [acc, x]) (fun _ s₆ => ∃ m, m < n ∧ I m s₆) (Rr prog w A env R) s₅) (Rr prog w A env R) s₄
            else ∃ m, m < n ∧ I m s₄) (Rr prog w A env R) s₃) (Rr prog w A env R) s₂) (Rr prog w A env R) s₁) (Rr prog w A env R) s)
    (n : Nat) (h : I n s) : codeAny (model prog w) A (.compLoop (sc2 elt t0 i0 t1 i1 q0 q1 scope pos) 1 it acc env) R s := by
  refine codeAny_loop rfl I (fun n s hI => ?_) n h
  show wpAny _ A ((compTurn (sc2 elt t0 i0 t1 i1 q0 q1 scope pos) 1 it acc env).onRaise (fun x => do noteFrame x env; theTreesLotGoes x)) _ _ s
  refine wpAny_noted ?_
  rw [sc2_turn1]
  refine wpAny_bind (wpAny_standAt (wpAny_bind (wpAny_mono (turn n s hI) (fun r s₁ h₁ => ?_) fun _ _ z => z)))
  cases r with
  | none => exact wpAny_pure h₁
  | some v =>
    refine wpAny_bind (wpAny_mono h₁ (fun _ s₂ h₂ => wpAny_bind (wpAny_mono h₂ (fun _ s₃ h₃ => wpAny_bind (wpAny_mono h₃ (fun ok s₄ h₄ => ?_) fun _ _ z => z)) fun _ _ z => z)) fun _ _ z => z)
    cases ok with
    | false => exact wpAny_pure ⟨rfl, h₄⟩
    | true =>
      simp only [if_true] at h₄ ⊢
      exact wpAny_bind (wpAny_bind (wpAny_mono h₄ (fun x s₅ h₅ => wpAny_bind (wpAny_standAt (wpAny_bind (wpAny_mono h₅ (fun _ s₆ h₆ => wpAny_pure (wpAny_pure ⟨rfl, h₆⟩)) fun _ _ z => z)))) fun _ _ z => z))
theorem sc2_start (n : Nat) (src : Expr) (two : ([⟨t0, i0, q0, 0⟩, ⟨t1, i1, q1, 0⟩] : List Comprehension)[n]?.map (fun c => (c.iter, c.is_async)) = some (src, 0)) (h0 : codeAny (model prog w) A (.compLoop (sc2 elt t0 i0 t1 i1 q0 q1 scope pos) n it acc env) R s)
    (h : wpAny (model prog w) A (pyIter it) (fun j s' => codeAny (model prog w) A (.compLoop (sc2 elt t0 i0 t1 i1 q0 q1 scope pos) n j acc env) R s') (notedBy (model prog w) A env fun x s' => R (.error x) s') s) :
    codeAny (model prog w) A (.compStart (sc2 elt t0 i0 t1 i1 q0 q1 scope pos) n it acc env) R s := by
  refine codeAny_of_tree ?_
  show wpAny _ _ ((compStart (sc2 elt t0 i0 t1 i1 q0 q1 scope pos) n it acc env).onRaise (fun x => do noteFrame x env; standAt theWindowsPlace)) _ _ s
  refine wpAny_notedAt ?_
  match n, two with
  | 0, _ =>
    unfold compStart
    show wpAny _ _ (ask >>= _) _ _ s
    refine wpAny_bind (wpAny_askSetting (wpAny_ite ?_))
    split
    · first
        | exact wpAny_bind (wpAny_pure (wpAny_pure ⟨rfl, h0⟩))
        | exact wpAny_pure ⟨rfl, h0⟩
    · refine wpAny_bind (wpAny_rule (wpAny_bind (wpAny_standAt (wpAny_bind (wpAny_mono h (fun j s' z => wpAny_pure ⟨rfl, z⟩) fun _ _ z => z)))))
  | 1, _ =>
    unfold compStart
    show wpAny _ _ (ask >>= _) _ _ s
    refine wpAny_bind (wpAny_askSetting (wpAny_ite ?_))
    split
    · first
        | exact wpAny_bind (wpAny_pure (wpAny_pure ⟨rfl, h0⟩))
        | exact wpAny_pure ⟨rfl, h0⟩
    · refine wpAny_bind (wpAny_rule (wpAny_bind (wpAny_standAt (wpAny_bind (wpAny_mono h (fun j s' z => wpAny_pure ⟨rfl, z⟩) fun _ _ z => z)))))
  | n + 2, z => simp at z
end
/-- what is wanted of the two loops, the set at D; vs: the names of the block, us: those of the second target -/
def tSc2 (p : Putter) (P : Program) (w : World) (K : PySem.W.Frag) (wi : TI) (g : TG) (tt : TT) (wj : TI) (gj : TG) (tj : TT) (te : TE) (vs us : List Nat) : TE := fun σ H Q => wi σ H fun J H1 => ∀ D, H1 D = none → ∃ W : Nat → Nat → Hp → Prop, (∃ m, W 0 m (upd H1 D (p.init P w D))) ∧ ∀ i m H, W i m H →
  (J.stop i H ∧ Q (.ref D) H) ∨ (J.go i H ∧ ∃ Nx : Hp → Prop, (∀ H', Nx H' → ∃ m', m' < m ∧ W (i + 1) m' H') ∧ ∀ x H', J.yld i H x H' → g x (wipe σ vs) H' fun σ2 H2 => wipe σ2 vs = wipe σ vs ∧ tt σ2 H2 fun b H3 =>
    if b = true then wj σ2 H3 fun J1 H4 => ∃ V : Nat → Nat → Hp → Prop, (∃ m, V 0 m H4) ∧ ∀ j k H, V j k H →
      (J1.stop j H ∧ Nx H) ∨ (J1.go j H ∧ ∃ Ny : Hp → Prop, (∀ H', Ny H' → ∃ k', k' < k ∧ V (j + 1) k' H') ∧ ∀ x H', J1.yld j H x H' → gj x (wipe σ2 us) H' fun σ3 H5 => wipe σ3 us = wipe σ2 us ∧ tj σ3 H5 fun b H6 =>
        if b = true then te σ3 H6 fun y H7 => p.put P w K D y H7 Ny else Ny H6)
    else Nx H3)
section
variable {X : Cx} {p : Putter}
/-- what stays pinned stands as it stood -/
theorem pins_stand {Y : Cx} {pins : List (Addr × Obj)} {σ : L2.St} {H : Hp} {s : Shared} {fp : List Addr} {h : Heap} (I : Inv Y (pins ++ pinsAt fp h) σ H s) {b : Addr} (hb : b ∈ fp) {o : Obj} (e : h.get? b = some o) : s.heap.get? b = some o ∧ H b = none :=
  let z := I.pin (b, o) (List.mem_append_right _ (List.mem_append_right _ (mem_pinsAt hb e)))
  ⟨z.1, z.2.1⟩
theorem pe_sc2 {elt t0 i0 t1 i1 : Expr} {q0 q1 : List Expr} {scope : Scope} {own : List (PySem.Str × Nat)} {us : List Nat} {pos : Pos} {wi wj : TI} {g gj : TG} {tt tj : TT} {te : TE} (po : p.Ok) (calm : X.calm = true) (nd : X.N.Nodup) (pi0 : PI X t0 i0 wi) (blk : BlkOk X.N X.env.scope scope own) (sub : ∀ i ∈ us, i ∈ own.map (·.2))
    (tg0 : ∀ (s : Shared) (H : Hp) (C : Addr) (cl : List (PySem.Str × Addr)) (fp : List Addr), PG (X.blk s H scope (compEnvC scope cl C X.env) fp) t0 g)
    (if0 : ∀ (s : Shared) (H : Hp) (C : Addr) (cl : List (PySem.Str × Addr)) (fp : List Addr), PTs (X.blk s H scope (compEnvC scope cl C X.env) fp) q0 tt)
    (src : ∀ (s : Shared) (H : Hp) (C : Addr) (cl : List (PySem.Str × Addr)) (fp : List Addr), PI (X.blk s H scope (compEnvC scope cl C X.env) fp) t1 i1 wj)
    (tg1 : ∀ (s : Shared) (H : Hp) (C : Addr) (cl : List (PySem.Str × Addr)) (fp : List Addr), PG (X.blk s H scope (compEnvC scope cl C X.env) fp) t1 gj)
    (if1 : ∀ (s : Shared) (H : Hp) (C : Addr) (cl : List (PySem.Str × Addr)) (fp : List Addr), PTs (X.blk s H scope (compEnvC scope cl C X.env) fp) q1 tj)
    (el : ∀ (s : Shared) (H : Hp) (C : Addr) (cl : List (PySem.Str × Addr)) (fp : List Addr), PE (X.blk s H scope (compEnvC scope cl C X.env) fp) elt te)
    (fo0 : ∀ x, foldedSetIterable i0 X.env x = pure x := by intro _; rfl) (fo1 : ∀ env x, foldedSetIterable i1 env x = pure x := by intro _ _; rfl) :
    PE X (sc2 elt t0 i0 t1 i1 q0 q1 scope pos) (tSc2 p X.prog X.w X.K wi g tt wj gj tj te (own.map (·.2)) us) := by
  refine ⟨fun pins s σ H Q I h => ?_⟩
  show wpAny _ _ (comprehension (sc2 elt t0 i0 t1 i1 q0 q1 scope pos) scope X.env (firstIterPos [⟨t0, i0, q0, 0⟩, ⟨t1, i1, q1, 0⟩] pos) (newSet (.type "set")) false (eval i0 X.env)) _ _ s
  have clo : ∀ y ∈ scope.names, y.2 = .free → ∃ c, X.env.cells.lookup y.1 = some c := fun y hy e => I.ok.has _ (blk.free y hy e)
  refine wpAny_comprehension_free rfl fo0 (closure_ok clo) blk.kind (fun y hy e => by rw [blk.uniq y hy, e]) (thn (pi0.run pins s σ H _ I h) fun xv s1 hx => thn hx fun itv s2 h2 => ?_)
  obtain ⟨it, fp, tn, J, H2, rfl, I2, T, st2, f2, q⟩ := h2
  refine PpSet.newSet_ok (newEnv_comp ?_)
  generalize hD : s2.heap.objs.size = D
  obtain ⟨W, ⟨m0, w0⟩, turn⟩ := q D (I2.hok.fresh (Nat.le_of_eq hD))
  generalize e3 : ({ s2 with heap := s2.heap.push (noneYet X.w) } : Shared) = s3
  have h3 : s3.heap = s2.heap.push (noneYet X.w) := by rw [← e3]
  have I3 : Inv X pins σ (upd H2 D (p.init X.prog X.w D)) s3 := by
    subst e3 hD
    exact I2.laid (t' := s2.toks) (fun b o e => Heap.get?_push_of_some _ e) (Nat.le_refl _) (po.fresh _ _ _ _)
  have low : ∀ b ∈ fp, b < D := fun b hb => by
    obtain ⟨o, e, _⟩ := T.obj _ _ st2 b hb
    rw [← hD]
    exact Heap.lt_size e
  have f3 : ∀ b ∈ fp, FpOk X pins (upd H2 D (p.init X.prog X.w D)) b ∧ b < s3.heap.objs.size := fun b hb => by
    refine ⟨⟨by rw [upd_ne (Nat.ne_of_lt (low b hb))]; exact (f2 b hb).1, (f2 b hb).2⟩, ?_⟩
    rw [h3, Heap.size_push, hD]
    exact Nat.lt_succ_of_lt (low b hb)
  have st3 : tn 0 s3.heap := T.keep _ _ _ st2 fun b _ o e => by rw [h3]; exact Heap.get?_push_of_some _ e
  have I4 := block_start I3 blk nd f3
  generalize hH3 : upd H2 D (p.init X.prog X.w D) = H3 at I3 I4 w0 f3
  generalize hcl : cellsFrom (s3.heap.objs.size + 1) scope.names (cloFrom X.env.cells scope.names []) = cl at I4
  have P1 := tg0 s3 H3 s3.heap.objs.size cl fp
  have P2 := if0 s3 H3 s3.heap.objs.size cl fp
  have P3 := src s3 H3 s3.heap.objs.size cl fp
  have P4 := tg1 s3 H3 s3.heap.objs.size cl fp
  have P5 := if1 s3 H3 s3.heap.objs.size cl fp
  have P6 := el s3 H3 s3.heap.objs.size cl fp
  have nfp : ∀ b ∈ fp, H3 b = none := fun b hb => (f3 b hb).1.1
  rw [show ({ s2 with heap := s2.heap.push { cls := .type "set", dict := none, data := .set #[] 0 (.fresh 0 0 (!X.w.params.followText "set-order")) } } : Shared) = s3 from e3, hcl]
  show codeAny _ _ (.compStart (sc2 elt t0 i0 t1 i1 q0 q1 scope pos) 0 (.ref it) (.ref D) (compEnvC scope cl s3.heap.objs.size X.env)) (compPost (model X.prog X.w) X.A X.xe none (EP X pins σ Q) (.ref D) s3.heap.objs.size) { s3 with heap := pushCells (s3.heap.push { cls := .type "dict", data := .dict #[] }) scope.names }
  generalize hce : compEnvC scope cl s3.heap.objs.size X.env = ce at I4 P1 P2 P3 P4 P5 P6 ⊢
  have cL : ce.locals = s3.heap.objs.size := by subst hce; rfl
  generalize e4 : ({ s3 with heap := pushCells (s3.heap.push { cls := .type "dict", data := .dict #[] }) scope.names } : Shared) = s4 at I4 ⊢
  have st4 : tn 0 s4.heap := T.keep _ _ _ st3 fun b _ o e => by rw [← e4]; exact pushCells_keeps _ _ _ _ (Heap.get?_push_of_some _ e)
  have own_fp : ∀ {σ' : L2.St} {H' : Hp} {s' : Shared}, Inv (X.blk s3 H3 scope ce fp) [] σ' H' s' → (∀ b ∈ fp, H' b = none) → ∀ b ∈ fp, FpOk (X.blk s3 H3 scope ce fp) [] H' b :=
    fun {σ' H' s'} I' hn b hb => ⟨hn b hb, (I'.ok.exf b hb).1, I'.ok.exfs b hb, .inl hb, fun x c e => (I'.ok.exf b hb).2 x c e, fun z hz => absurd (show z ∈ ([] : List (Addr × Obj)) ++ [] from hz) (by simp)⟩
  have loop : codeAny (model X.prog X.w) X.A (.compLoop (sc2 elt t0 i0 t1 i1 q0 q1 scope pos) 0 (.ref it) (.ref D) ce) (compPost (model X.prog X.w) X.A X.xe none (EP X pins σ Q) (.ref D) s3.heap.objs.size) s4 := by
    refine sc2_outer (fo1 ce) (fun n s' => ∃ i H', Inv (X.blk s3 H3 scope ce fp) [] (wipe σ (own.map (·.2))) H' s' ∧ tn i s'.heap ∧ (∀ b ∈ fp, H' b = none) ∧ W i n H') ?_ m0 ⟨0, H3, I4, st4, nfp, w0⟩
    rintro n s5 ⟨i, H5, I5, st5, n5, w5⟩
    rcases turn i n H5 w5 with ⟨stop, qq⟩ | ⟨go, Nx, hNx, step⟩
    · refine thnF (T.done (X.blk s3 H3 scope ce fp) rfl rfl rfl calm i [] s5 _ H5 (fun _ _ => False) I5 (own_fp I5 n5) st5 stop) fun r s6 ⟨hr, I6⟩ => ?_
      subst hr
      have I7 : Inv X pins σ H5 s6 := I3.call' (ch := fp) I6.os I6.base I6.hok I6.bare fun b hb => ⟨(f3 b hb).1.2.2.2.1, (f3 b hb).1.2.1, (f3 b hb).1.2.2.2.2.1, (f3 b hb).1.2.2.2.2.2⟩
      have nC : H5 ce.locals = none := I6.free
      obtain ⟨m, hn, _⟩ := I6.loc
      have hn : s6.heap.Ns ce.locals m := hn
      rw [cL] at nC hn
      obtain ⟨g0, g1, g2, g3, g4, g5⟩ := I3.fpOk (Nat.le_refl _) nC
      exact ⟨m, hn, fun h'' sb => ⟨.ref D, H5, I7.turned (t' := s6.toks) (fun b o hb e => (sb.2 b hb).trans e) g0 g1 g3 g4 g5, rfl, qq⟩⟩
    · refine thnF (T.item (X.blk s3 H3 scope ce fp) rfl rfl rfl calm i [] s5 _ H5 (fun _ _ => False) I5 (own_fp I5 n5) st5 go) fun r s6 ⟨u, hr, h6⟩ => ?_
      subst hr
      refine thnF h6 fun _ s7 ⟨x, H7, I7, r7, y7, st7, n7⟩ => ?_
      have I7' := I7.pinned (own_fp I7 n7) (T.obj _ _ st7)
      refine thnF (P1.run _ s7 _ H7 x u _ I7' r7 (step x H7 y7)) fun _ s8 ⟨σ8, H8, I8, hw8, q8⟩ => ?_
      refine thnF (P2.run _ s8 σ8 H8 _ I8 q8) fun b s9 ⟨H9, I9, q9⟩ => ?_
      -- the round's end
      have fin : ∀ {σ9 : L2.St} {s' : Shared} {H' : Hp}, Inv (X.blk s3 H3 scope ce fp) ([] ++ pinsAt fp s7.heap) σ9 H' s' → (wipe σ (own.map (·.2))).length = σ9.length → (∀ (j : Nat) v, (wipe σ (own.map (·.2)))[j]? = some (some v) → σ9[j]? = some (some v)) → Nx H' →
          ∃ m, m < n ∧ ∃ i H', Inv (X.blk s3 H3 scope ce fp) [] (wipe σ (own.map (·.2))) H' s' ∧ tn i s'.heap ∧ (∀ b ∈ fp, H' b = none) ∧ W i m H' := by
        intro σ9 s' H' I' hl hk nx
        obtain ⟨m', hm, w'⟩ := hNx H' nx
        have keep : tn (i + 1) s'.heap := T.keep _ _ _ st7 fun b hb o e => (pins_stand I' hb e).1
        refine ⟨m', hm, i + 1, H', (I'.unpinned (pins := [])).weak hl hk, keep, fun b hb => ?_, w'⟩
        obtain ⟨o, e, _⟩ := T.obj _ _ st7 b hb
        exact (pins_stand I' hb e).2
      have l8 : (wipe σ (own.map (·.2))).length = σ8.length := by rw [← hw8, wipe_length]
      have k8 : ∀ (j : Nat) v, (wipe σ (own.map (·.2)))[j]? = some (some v) → σ8[j]? = some (some v) ∧ j ∉ own.map (·.2) := fun j v e => by
        rw [← hw8] at e
        exact wipe_some e
      cases b with
      | false =>
        simp only [Bool.false_eq_true, if_false] at q9 ⊢
        exact fin I9 l8 (fun j v e => (k8 j v e).1) q9
      | true =>
        simp only [if_true] at q9 ⊢
        refine thnF (P3.run _ s9 σ8 H9 _ I9 q9) fun xv s10 hx => thnF hx fun itv s11 h11 => ?_
        obtain ⟨jt, fq, tq, J1, H11, rfl, I11, T1, st11, f11, V, ⟨m1, v1⟩, turn1⟩ := h11
        have fq_ok : ∀ {H' : Hp}, (∀ b ∈ fq, H' b = none) → ∀ b ∈ fq, FpOk (X.blk s3 H3 scope ce fp) ([] ++ pinsAt fp s7.heap) H' b := fun hn b hb => ⟨hn b hb, (f11 b hb).2⟩
        have inner : codeAny (model X.prog X.w) X.A (.compLoop (sc2 elt t0 i0 t1 i1 q0 q1 scope pos) 1 (.ref jt) (.ref D) ce) (fun r s' => match r with
            | .ok _ => ∃ m, m < n ∧ ∃ i H', Inv (X.blk s3 H3 scope ce fp) [] (wipe σ (own.map (·.2))) H' s' ∧ tn i s'.heap ∧ (∀ b ∈ fp, H' b = none) ∧ W i m H'
            | .error _ => False) s11 := by
          refine sc2_inner (fun k s' => ∃ j H', Inv (X.blk s3 H3 scope ce fp) ([] ++ pinsAt fp s7.heap) (wipe σ8 us) H' s' ∧ tq j s'.heap ∧ (∀ b ∈ fq, H' b = none) ∧ V j k H') ?_ m1 ⟨0, H11, I11.weak (wipe_length _ _) (fun j v e => (wipe_some e).1), st11, fun b hb => (f11 b hb).1, v1⟩
          rintro k s12 ⟨j, H12, I12, st12, n12, v12⟩
          rcases turn1 j k H12 v12 with ⟨stop1, nx⟩ | ⟨go1, Ny, hNy, step1⟩
          · refine thnF (T1.done (X.blk s3 H3 scope ce fp) rfl rfl rfl calm j _ s12 (wipe σ8 us) H12 (fun _ _ => False) I12 (fq_ok n12) st12 stop1) fun r s13 ⟨hr, I13⟩ => ?_
            subst hr
            refine fin I13 (l8.trans (wipe_length σ8 us).symm) (fun j v e => ?_) nx
            obtain ⟨e1, e2⟩ := k8 j v e
            rw [wipe_out fun z => e2 (sub j z)]
            exact e1
          · refine thnF (T1.item (X.blk s3 H3 scope ce fp) rfl rfl rfl calm j _ s12 (wipe σ8 us) H12 (fun _ _ => False) I12 (fq_ok n12) st12 go1) fun r s13 ⟨u1, hr, h13⟩ => ?_
            subst hr
            refine thnF h13 fun _ s14 ⟨x1, H14, I14, r14, y14, st14, n14⟩ => ?_
            have I14' := I14.pinned (fq_ok n14) (T1.obj _ _ st14)
            refine thnF (P4.run _ s14 (wipe σ8 us) H14 x1 u1 _ I14' r14 (step1 x1 H14 y14)) fun _ s15 ⟨σ15, H15, I15, hw15, q15⟩ => ?_
            refine thnF (P5.run _ s15 σ15 H15 _ I15 q15) fun b1 s16 ⟨H16, I16, q16⟩ => ?_
            have fin1 : ∀ {s' : Shared} {H' : Hp}, Inv (X.blk s3 H3 scope ce fp) (([] ++ pinsAt fp s7.heap) ++ pinsAt fq s14.heap) σ15 H' s' → Ny H' →
                ∃ m, m < k ∧ ∃ j H', Inv (X.blk s3 H3 scope ce fp) ([] ++ pinsAt fp s7.heap) (wipe σ8 us) H' s' ∧ tq j s'.heap ∧ (∀ b ∈ fq, H' b = none) ∧ V j m H' := by
              intro s' H' I' ny
              obtain ⟨m', hm, w'⟩ := hNy H' ny
              have keep : tq (j + 1) s'.heap := T1.keep _ _ _ st14 fun b hb o e => (pins_stand I' hb e).1
              refine ⟨m', hm, j + 1, H', I'.unpinned.weak (by rw [← hw15, wipe_length]) (fun j v e => by rw [← hw15] at e; exact (wipe_some e).1), keep, fun b hb => ?_, w'⟩
              obtain ⟨o, e, _⟩ := T1.obj _ _ st14 b hb
              exact (pins_stand I' hb e).2
            cases b1 with
            | false =>
              simp only [Bool.false_eq_true, if_false] at q16 ⊢
              exact fin1 I16 q16
            | true =>
              simp only [if_true] at q16 ⊢
              refine thnF (P6.run _ s16 σ15 H16 _ I16 q16) fun z s17 ⟨yv, H17, I17, r17, pt⟩ => ?_
              exact thnF (po.run (X := X.blk s3 H3 scope ce fp) I17 r17 pt (E := fun _ _ => False)) fun _ s18 ⟨H18, I18, ny⟩ => fin1 I18 ny
        exact sc2_start 1 i1 rfl inner (T1.self X.A 0 _ _ _ st11 inner)
  exact sc2_start 0 i0 rfl loop (T.self X.A 0 _ _ _ st4 loop)
end

/-! ### a set of texts, its members told -/
def txt (e : Int × Value) : Str := match e.2 with | .str x _ => x | _ => Str.empty
def IsTxt (P : Program) (w : World) (e : Int × Value) : Prop := ∃ x t, e.2 = .str x t ∧ e.1 = (strKind P w).hash x
/-- what the object at a is made of -/
structure TxAt (P : Program) (w : World) (xs : List Str) (es : Array (Int × Value)) (t : SetTable) : Prop where
  good : ∀ e ∈ es.toList, IsTxt P w e
  mem : (es.toList.map txt).Perm xs
  nd : xs.Nodup
  few : es.size < scanBound
  fits : t.fits es.size = true
  ris : Ris t.place.toList
  led : w.params.followText "set-order" = true ∨ t.led = true
def TxSet (P : Program) (w : World) (h : Heap) (a : Addr) (xs : List Str) : Prop := ∃ o es ep t, h.get? a = some o ∧ o.ExactSet ∧ o.data = .set es ep t ∧ TxAt P w xs es t
section
variable {P : Program} {w : World} {A : Around} {E : Value → Shared → Prop} {s : Shared} {a : Addr} {xs : List Str}
theorem IsTxt.is {e : Int × Value} (g : IsTxt P w e) (x : Str) : (strKind P w).is x e.2 = true ↔ txt e = x := by
  obtain ⟨y, t, e1, _⟩ := g
  unfold txt
  rw [e1]
  constructor
  · intro z
    exact (strKind P w).inj _ _ _ (strKind_is P w y t) z
  · intro z
    have z : y = x := z
    rw [← z]
    exact strKind_is P w y t
theorem TxAt.elems {es : Array (Int × Value)} {t : SetTable} (T : TxAt P w xs es t) : ElemsOf (strKind P w) es.toList := fun e he => by
  obtain ⟨x, u, e1, e2⟩ := T.good e he
  exact ⟨⟨x, by rw [e1]; exact strKind_is P w x u, e2⟩, by rw [e1]; rfl⟩
theorem TxAt.len {es : Array (Int × Value)} {t : SetTable} (T : TxAt P w xs es t) : es.size = xs.length := by rw [← T.mem.length_eq, List.length_map, Array.length_toList]
/-- the table is laid anew: the same things -/
theorem TxAt.relaid {es es' : Array (Int × Value)} {t t' : SetTable} (T : TxAt P w xs es t) (p : es'.toList.Perm es.toList) (f : t'.fits es'.size = true) (r : Ris t'.place.toList) (l : w.params.followText "set-order" = true ∨ t'.led = true) : TxAt P w xs es' t' :=
  ⟨fun e he => T.good e (p.mem_iff.mp he), (p.map txt).trans T.mem, T.nd, by rw [← Array.length_toList, p.length_eq, Array.length_toList]; exact T.few, f, r, l⟩
/-- one more -/
theorem TxAt.more {es es' : Array (Int × Value)} {t t' : SetTable} {x : Str} {k : Tok} (T : TxAt P w xs es t) (n : x ∉ xs) (room : xs.length + 1 < scanBound) (p : es'.toList.Perm (es.toList ++ [((strKind P w).hash x, Value.str x k)])) (f : t'.fits es'.size = true) (r : Ris t'.place.toList)
    (l : w.params.followText "set-order" = true ∨ t'.led = true) : TxAt P w (xs ++ [x]) es' t' where
  good := fun e he => by
    rcases List.mem_append.mp (p.mem_iff.mp he) with z | z
    · exact T.good e z
    · rw [List.mem_singleton.mp z]
      exact ⟨x, k, rfl, rfl⟩
  mem := by
    refine (p.map txt).trans ?_
    rw [List.map_append]
    exact T.mem.append_right _
  nd := List.nodup_append.mpr ⟨T.nd, by simp, fun y hy z hz e => n (by rw [List.mem_singleton.mp hz] at e; rw [← e]; exact hy)⟩
  few := by rw [← Array.length_toList, p.length_eq, List.length_append, Array.length_toList, T.len]; exact room
  fits := f
  ris := r
  led := l
theorem stored_at {h : Heap} {o : Obj} {es es' : Array (Int × Value)} {ep : Nat} {t t' : SetTable} (ho : h.get? a = some o) (hd : o.data = .set es ep t) : (h.update a (Obj.putSet es' t')).get? a = some { o with data := .set es' (ep + 1) t' } := by
  have z := Heap.get?_update_self (Obj.putSet es' t') ho (by rw [putSet_of es' t' hd]; rfl)
  rw [putSet_of es' t' hd] at z
  exact z
/-- the end of an add: stored, and laid anew where it is too full -/
theorem tx_stored {g : Bool → Sem Unit} {o : Obj} {es es1 : Array (Int × Value)} {ep : Nat} {t t1 : SetTable} {ys : List Str} {dummy : Bool} {R : Option Bool → Shared → Prop} (gq : ∀ (b : Bool) (s₁ : Shared) (Q : Unit → Shared → Prop), Q () s₁ → wpAny (model P w) A (g b) Q E s₁)
    (ho : s.heap.get? a = some o) (hex : o.ExactSet) (hd : o.data = .set es ep t) (T : TxAt P w ys es1 t1) (hR : ∀ h', Heap.SameBut a s.heap h' → TxSet P w h' a ys → R (some true) { s with heap := h' }) :
    wpAny (model P w) A (storeSet a es1 t1 >>= fun _ => if (!dummy && t1.tooFull) = true then
      g (relayAll t1 es1 (SetTable.grown es1.size)).2.2 >>= fun _ => storeSet a (relayAll t1 es1 (SetTable.grown es1.size)).1 (relayAll t1 es1 (SetTable.grown es1.size)).2.1 >>= fun _ => pure (some true)
      else pure (some true)) R E s := by
  refine wpAny_bind (wpAny_storeSet_of ho hd ?_ (fits_of_scanBound T.few))
  have h1 := stored_at (es' := es1) (t' := t1) ho hd
  have sb := Heap.SameBut.update s.heap a (Obj.putSet es1 t1)
  split
  · have T2 := T.relaid (relayAll_perm t1 es1 (SetTable.grown es1.size)) (relayAll_fits t1 es1 (SetTable.grown es1.size)) (relayAll_ris t1 es1 (SetTable.grown es1.size)) (T.led.imp id fun z => by rw [relayAll_led]; exact z)
    refine wpAny_bind (gq _ _ _ (wpAny_bind (wpAny_storeSet_of h1 rfl (wpAny_pure (hR _ (sb.trans (Heap.SameBut.update _ a _)) ?_)) (fits_of_scanBound T2.few))))
    exact ⟨_, _, _, _, stored_at h1 rfl, hex, rfl, T2⟩
  · exact wpAny_pure (hR _ sb ⟨_, _, _, _, h1, hex, rfl, T⟩)
def withX (xs : List Str) (x : Str) : List Str := if x ∈ xs then xs else xs ++ [x]
theorem tx_hashed {x : Str} {k : Tok} {Q : Bool → Shared → Prop} (R : TxSet P w s.heap a xs) (room : xs.length + 1 < scanBound) (hQ : ∀ b h', Heap.SameBut a s.heap h' → TxSet P w h' a (withX xs x) → Q b { s with heap := h' }) :
    wpAny (model P w) A (setAddHashed a (.str x k) ((strKind P w).hash x)) Q E s := by
  obtain ⟨o, es, ep, t, ho, hex, hd, T⟩ := R
  have key : (strKind P w).is x (.str x k) = true := strKind_is P w x k
  unfold setAddHashed setAddHashedIn
  refine wpAny_holding (wpAny_bind (wpAny_setState_of ho hd T.fits ?_))
  dsimp only
  rw [byScan_of (show (Value.str x k).scannable = true from rfl) T.few T.elems]
  simp only [↓reduceIte]
  unfold setAddByScan
  refine wpAny_bind (wpAny_bind (wpAny_rule (wpAny_bind (wpAny_setScan_of key ho hd T.fits T.elems ?_))))
  cases found : List.findIdx? (fun e => (strKind P w).is x e.2) es.toList with
  | some j =>
    dsimp only
    obtain ⟨lt, pj, _⟩ := List.findIdx?_eq_some_iff_getElem.mp found
    have m : x ∈ xs := by
      refine T.mem.mem_iff.mp (List.mem_map.mpr ⟨es.toList[j], List.getElem_mem lt, ?_⟩)
      exact ((T.good _ (List.getElem_mem lt)).is x).mp pj
    refine wpAny_pure (wpAny_pure (hQ _ s.heap (Heap.SameBut.refl a s.heap) ?_))
    unfold withX
    rw [if_pos m]
    exact ⟨o, es, ep, t, ho, hex, hd, T⟩
  | none =>
    dsimp only
    have n : x ∉ xs := fun m => by
      obtain ⟨e, he, z⟩ := List.mem_map.mp (T.mem.mem_iff.mpr m)
      have := List.findIdx?_eq_none_iff.mp found e he
      rw [((T.good e he).is x).mpr z] at this
      cases this
    have quiet : ∀ (b : Bool) {s₁ : Shared} {Q' : Unit → Shared → Prop}, Q' () s₁ → wpAny (model P w) A (match b with | true => rule "set.scan.the-table-gave-way" | false => pure ()) Q' E s₁ :=
      fun b s₁ Q' z => by cases b <;> first | exact wpAny_pure z | exact wpAny_rule z
    have p1 := layNew_perm t es ((strKind P w).hash x) (.str x k)
    have f1 := layNew_fits t es ((strKind P w).hash x) (.str x k)
    have r1 := layNew_ris t es ((strKind P w).hash x) (.str x k) T.ris
    have l1 := layNew_led t es ((strKind P w).hash x) (.str x k)
    generalize layNew t es ((strKind P w).hash x) (.str x k) = Z at p1 f1 r1 l1 ⊢
    obtain ⟨es1, t1, dummy, gave⟩ := Z
    dsimp only at p1 f1 r1 l1 ⊢
    rw [Array.toList_push] at p1
    have T1 : TxAt P w (xs ++ [x]) es1 t1 := T.more n room p1 f1 r1 (T.led.imp id fun z => by rw [l1]; exact z)
    have out : ∀ h', Heap.SameBut a s.heap h' → TxSet P w h' a (xs ++ [x]) → Q true { s with heap := h' } := fun h' sb z => hQ true h' sb (by unfold withX; rw [if_neg n]; exact z)
    have T1' : TxAt P w (xs ++ [x]) es1 { t1 with plain := false } := ⟨T1.good, T1.mem, T1.nd, T1.few, SetTable.fits_plain_off T1.fits, T1.ris, T1.led⟩
    refine wpAny_bind (quiet _ ?_)
    split
    · refine wpAny_bind ?_
      rw [hashByValue_scannable 8 (show (Value.str x k).scannable = true from rfl)]
      refine wpAny_pure (tx_stored (ys := xs ++ [x]) ?_ ho hex hd ?_ ?_)
      · intro b s₁ Q' z; cases b <;> first | exact wpAny_pure z | exact wpAny_rule z
      · split
        · exact T1
        · exact T1'
      · intro h' sb z
        exact wpAny_pure (out h' sb z)
    · refine wpAny_bind (wpAny_pure ?_)
      simp only [↓reduceIte]
      refine tx_stored ?_ ho hex hd T1 ?_
      · intro b s₁ Q' z; cases b <;> first | exact wpAny_pure z | exact wpAny_rule z
      · intro h' sb z
        exact wpAny_pure (out h' sb z)
theorem TxSet.typed {s : Shared} (R : TxSet P w s.heap a xs) : s.TypeIs (.ref a) "set" := let ⟨o, _, _, _, ho, hex, _⟩ := R; ⟨o, ho, hex.1⟩
theorem tx_add {x : Str} {k : Tok} {Q : Value → Shared → Prop} (R : TxSet P w s.heap a xs) (room : xs.length + 1 < scanBound) (hQ : ∀ h', Heap.SameBut a s.heap h' → TxSet P w h' a (withX xs x) → Q .none { s with heap := h', toks := s.toks + 1 }) :
    wpAny (model P w) A (call (.builtin "set.add") [.ref a, .str x k]) Q E s := by
  refine wpAny_call_entry F.slot_set_add R.typed F.entry_set_add ?_ (F.args_set_add_2 _ _)
  unfold Builtin.«set.add» Builtin.Frozenset.oneOther Builtin.Frozenset.addrOf setAdd
  simp only [List.isEmpty_nil, bind_assoc]
  refine wpAny_bind (wpAny_pure ?_)
  try dsimp only
  refine wpAny_bind (wpAny_pure ?_)
  try dsimp only
  refine wpAny_bind (wpAny_holding (wpAny_bind ((strKind P w).pyHash (strKind_is P w x k) ?_)))
  refine tx_hashed (s := { s with toks := s.toks + 1 }) R room fun b h' sb z => ?_
  show wpAny _ _ (ret Value.none) _ _ _
  exact wpAny_pure ⟨_, rfl, hQ h' sb z⟩
end

/-! ### sets of texts that are tracked -/
def TxO (P : Program) (w : World) (a : Addr) (xs : List Str) : HO := .ext fun h => TxSet P w h a xs
theorem txO_ok {P : Program} {w : World} {H : Hp} {h : Heap} {a : Addr} {xs : List Str} (R : TxSet P w h a xs) : ObjOk P w H h a (TxO P w a xs) := by
  obtain ⟨o, es, ep, t, ho, r⟩ := R
  exact ⟨⟨o, es, ep, t, ho, r⟩, ⟨o, ho⟩, fun h1 h2 ⟨o', es', ep', t', e, z⟩ keep => ⟨o', es', ep', t', keep _ e, z⟩⟩
def txPut : Putter where
  init := fun P w D => TxO P w D []
  put := fun P w _ D y H Nx => ∃ x xs, y = .str x ∧ H D = some (TxO P w D xs) ∧ xs.length + 1 < scanBound ∧ Nx (upd H D (TxO P w D (withX xs x)))
theorem txPut_ok : txPut.Ok where
  fresh := fun P w H h => txO_ok ⟨_, #[], 0, _, Heap.get?_push_size _ rfl, ⟨rfl, rfl, rfl⟩, rfl, ⟨fun e he => by simp at he, by simp, List.nodup_nil, by decide, by rfl, by
    show Ris ([] : List Nat)
    exact List.Pairwise.nil, by
    cases w.params.followText "set-order" with
    | true => exact .inl rfl
    | false => exact .inr rfl⟩⟩
  run := fun {X pins σ H s D y u Nx E} I r h => by
    obtain ⟨x, xs, rfl, hD, room, nx⟩ := h
    obtain ⟨k, rfl⟩ := r
    refine tx_add (I.hok D _ hD).1 room fun h' sb R => ?_
    have he : ∃ o, h'.get? D = some o := let ⟨o, _, _, _, e, _⟩ := R; ⟨o, e⟩
    exact ⟨_, I.write (x := D) (e := D) (t' := s.toks + 1) (by rw [hD]; trivial) (.inl rfl) (fun b z hb hz => (sb.2 b hb).trans hz) he (txO_ok R), nx⟩
/-- sorted(a set of texts) -/
def rSortTx (P : Program) (w : World) : List V → Hp → VK → Prop := fun vs H Q => ∃ a xs, vs = [.ref a] ∧ H a = some (TxO P w a xs) ∧ ∀ ys p, ys.Perm xs → PyProof.Rows.sortedS ys = true → H p = none → Q (.ref p) (upd H p (.lst (ws ys)))
theorem strs_all : ∀ {vs : List Value}, (∀ v ∈ vs, ∃ x t, v = Value.str x t) → StrsAre vs (vs.map fun v => match v with | .str x _ => x | _ => Str.empty)
  | [], _ => .nil
  | v :: vs, h => by
    obtain ⟨x, t, rfl⟩ := h v List.mem_cons_self
    exact .cons x t (strs_all fun u hu => h u (List.mem_cons_of_mem _ hu))
theorem cr_sortTx {X : Cx} (hc : X.calm = true) : CallR X (.builtin "sorted") (rSortTx X.prog X.w) := by
  intro pins s σ H vs us Q I r h
  obtain ⟨a, xs, rfl, ha, q⟩ := h
  rw [Vals.ref1 r]
  obtain ⟨o, es, ep, t, ho, hex, hd, T⟩ := (I.hok a _ ha).1
  refine Calls.call_function_entry kind_sorted plain_sorted entry_sorted (args_sorted1 _) ?_
  unfold Builtin.«sorted»
  refine wpAny_bind (m := checkCount "sorted" 1 1 _) (wpAny_pure ?_)
  refine wpAny_bind (collect_set (A := X.A.in1) (I.ok.hd hc) ⟨o, ho, hex.1, hd⟩ T.fits T.few T.ris T.led fun s1 out keep grow g1 o1 pm => ?_)
  have len : out.length = xs.length := by rw [pm.length_eq, List.length_map, Array.length_toList, T.len]
  have few : out.length ≤ sizeLine := by rw [len, ← T.len]; exact fits_of_scanBound T.few
  have isS : ∀ v ∈ out, ∃ x k, v = Value.str x k := fun v hv => by
    obtain ⟨e, he, rfl⟩ := List.mem_map.mp (pm.mem_iff.mp hv)
    obtain ⟨x, k, e1, _⟩ := T.good e he
    exact ⟨x, k, e1⟩
  have hS := strs_all isS
  have pt : (out.map fun v => match v with | .str x _ => x | _ => Str.empty).Perm xs := by
    refine (pm.map _).trans ?_
    rw [List.map_map]
    exact T.mem
  refine wpAny_bind (wpAny_newList ?_ few)
  have hoL : (s1.heap.push (seqObj "list" out.toArray 0)).get? s1.heap.objs.size = some (seqObj "list" out.toArray 0) := Heap.get?_push_size _ rfl
  refine wpAny_bind (wpAny_holding (wpAny_call_entry slot_list_sort ⟨_, hoL, rfl⟩ entry_list_sort (list_sort_treeKAny strKind_oneLt hoL hS.keysOf (fun v₁ v₂ rest e => keyKind_strs (by rw [← e]; exact hS)) few fun st' a1 a2 => ⟨_, rfl, ?_⟩) (args_list_sort _)))
  obtain ⟨ys, h1, h2, h3⟩ := sorted_out_str hS a1 a2
  obtain ⟨c, hcell⟩ := sortedHeap_at (vs := out) (out := (arrOf st').map (·.2)) hoL
  generalize (arrOf st').map (·.2) = ot at h1 hcell ⊢
  have fr : H s1.heap.objs.size = none := I.hok.fresh grow
  have lys : (ws ys).length ≤ sizeLine := by rw [ws_len, (h2.trans pt).length_eq, ← len]; exact few
  have old : ∀ b u, s.heap.get? b = some u → (sortedHeap (s1.heap.push (seqObj "list" out.toArray 0)) s1.heap.objs.size out ot).get? b = some u := fun b u e => by
    have e1 := keep b u e
    have lt := Heap.lt_size e1
    rw [sortedHeap_old (Nat.ne_of_lt lt) (by rw [size_push']; exact Nat.lt_succ_of_lt lt)]
    exact Heap.get?_push_of_some _ e1
  have J : Inv X pins σ (upd H s1.heap.objs.size (.lst (ws ys))) { s with heap := sortedHeap (s1.heap.push (seqObj "list" out.toArray 0)) s1.heap.objs.size out ot, gens := s1.gens, drawn := s1.drawn, toks := s1.toks } :=
    I.call (ch := []) (Un.laid old grow fr) (I.hok.laid old grow ⟨lys, ot.toList, c, vals_of_strs h1, hcell⟩) (by rw [g1]; exact I.bare) (fun _ z => nomatch z)
  refine wpAny_pure ⟨_, rfl, .ref s1.heap.objs.size, _, ?_, rfl, q ys _ (h2.trans pt) h3 fr⟩
  have e : ({ s1 with heap := sortedHeap (s1.heap.push (seqObj "list" out.toArray 0)) s1.heap.objs.size out ot } : Shared) = { s with heap := sortedHeap (s1.heap.push (seqObj "list" out.toArray 0)) s1.heap.objs.size out ot, gens := s1.gens, drawn := s1.drawn, toks := s1.toks } := by
    cases s1
    cases s
    cases o1
    rfl
  rw [e]
  exact J
/-! ### sorted({.. for .. in .. for .. in ..}) without the heap -/
def aSortSc2 (w : AI) (g : AG) (t : AT) (w1 : AI) (g1 : AG) (t1 : AT) (a : AE) (vs vs1 sl sl1 : List Nat) : AE := fun ρ Φ => w ρ fun _ its => ((∀ j ∈ sl, j ∈ vs) ∧ ∀ j ∈ sl1, j ∈ vs1) ∧ ∃ M : Nat → List Str → Prop, M 0 [] ∧
  (∀ i x acc, its[i]? = some x → M i acc → g x (wipeR ρ vs) fun ρ2 => t ρ2 fun k => if k = true then
    w1 ρ2 fun c1 its1 => c1 = true ∧ ∃ M1 : Nat → List Str → Prop, M1 0 acc ∧
      (∀ j y acc1, its1[j]? = some y → M1 j acc1 → g1 y (wipeR ρ2 vs1) fun ρ3 => t1 ρ3 fun k => if k = true then a ρ3 fun z => ∃ x, z.dat = .str x ∧ acc1.length < 4000 ∧ M1 (j + 1) (withX acc1 x) else M1 (j + 1) acc1) ∧
      ∀ acc1, M1 its1.length acc1 → M (i + 1) acc1
    else M (i + 1) acc) ∧
  ∀ acc, M its.length acc → ∀ ys : List Str, ys.Perm acc → PyProof.Rows.sortedS ys = true → Φ (.l true (ys.map PyData.str))
theorem alive_ext (φ : Heap → Prop) : Alive (.ext φ) := ⟨(fun _ z => nomatch z), (fun _ _ z => nomatch z)⟩
section
variable {K : PySem.W.Frag} {ec : EC} {F : Fr K ec} {P : Program} {w : World}
instance {wi wi1 : TI} {g g1 : TG} {tt tt1 : TT} {te : TE} {vs vs1 : List Nat} {ai ai1 : AI} {ag ag1 : AG} {sl sl1 : List Nat} {at' at1 : AT} {ae : AE} [SI F wi ai] [SG F g ag sl] [ST F tt at'] [SI F wi1 ai1] [SG F g1 ag1 sl1] [ST F tt1 at1] [SE F te ae] :
    SE F (tCB (rSortTx P w) (tCons (tSc2 txPut P w K wi g tt wi1 g1 tt1 te vs vs1) tNil)) (aSortSc2 ai ag at' ai1 ag1 at1 ae vs vs1 sl sl1) where
  snd := fun Z ρ σ H Φ Q o q k => by
    refine SI.snd (F := F) (wi := wi) (ai := ai) Z ρ σ H _ _ o q fun J c its G H1 Z1 q1 s1 wk => ?_
    obtain ⟨⟨sub, sub1⟩, M, p0, turn, fin⟩ := q1
    intro D nD
    have o1 := o.step s1
    have h0 := h0_free o1 nD
    have nr := row_ne o1 nD
    have sD : Step F Z1 H1 Z1 (upd H1 D (TxO P w D [])) := Step.new_ o1 nD
    refine ⟨fun i m H => m = its.length - i ∧ i ≤ its.length ∧ ∃ Z acc, M i acc ∧ Step F Z1 H1 Z H ∧ ¬ Z D ∧ H D = some (TxO P w D acc),
      ⟨_, rfl, Nat.zero_le _, Z1, [], p0, sD, z_free o1 nD, upd_same⟩, ?_⟩
    rintro i m H2 ⟨rfl, hi, Z2, acc, pi, s2, z2, hD⟩
    have gg := wk.calm Z2 H2 s2
    have s02 := s1.trans o.row s2
    rcases Nat.lt_or_ge i its.length with lt | ge
    · refine .inr ⟨wk.goes i H2 lt gg, fun H => ∃ Z acc, M (i + 1) acc ∧ Step F Z1 H1 Z H ∧ ¬ Z D ∧ H D = some (TxO P w D acc), fun H' z => ⟨its.length - (i + 1), by omega, rfl, lt, z⟩, fun x H3 y => ?_⟩
      obtain ⟨av, ea, s3, r3⟩ := wk.yields i Z2 ρ σ H2 x H3 lt gg (o.step s02) (.inl s2) y
      have oo := (o.step s02).step s3
      have o3 := oo.wipe vs
      refine SG.snd (F := F) (g := g) (ag := ag) (sl := sl) Z2 _ _ Hfull H3 x av _ _ o3 r3 o3.oldFull (turn i av acc ea pi) fun ρ4 σ4 q4 o4 k4 l4 b4 => ?_
      refine ⟨wipe_eq (by rw [l4, wipe_length]) k4 sub, ?_⟩
      refine ST.snd (F := F) (te := tt) (ae := at') Z2 ρ4 σ4 H3 _ _ o4 q4 fun kk H5 Z5 q5 s5 => ?_
      have o5 := o4.step s5
      have s25 := s3.trans (o.step s02).row s5
      have s15 := s2.trans o1.row s25
      have keepD : ∀ {Zn : Addr → Prop} {Hn : Hp}, Step F Z2 H2 Zn Hn → Hn D = some (TxO P w D acc) ∧ ¬ Zn D := fun sn =>
        ⟨sn.eff.2 _ _ nr hD, fun zz => (sn.new D zz).elim z2 fun e => (by rw [hD] at e; exact (nomatch e))⟩
      obtain ⟨d1, d2⟩ := keepD s25
      cases kk with
      | false =>
        rw [if_neg Bool.false_ne_true] at q5 ⊢
        exact ⟨Z5, acc, q5, s15, d2, d1⟩
      | true =>
        rw [if_pos rfl] at q5 ⊢
        refine SI.snd (F := F) (wi := wi1) (ai := ai1) Z5 ρ4 σ4 H5 _ _ o5 q5 fun J1 c1 its1 G1 H6 Z6 q6 s6 wk1 => ?_
        obtain ⟨rfl, M1, p10, turn1, fin1⟩ := q6
        have s26 := s25.trans (o.step s02).row s6
        have s16 := s2.trans o1.row s26
        obtain ⟨e1, e2⟩ := keepD s26
        have o6 := o5.step s6
        have lone : Lone F D Z6 H6 := ⟨e2, h0, nr, _, e1, alive_ext _⟩
        -- no slot holds the new list
        have me : ∀ (i : Nat) xs, ρ4[i]? = some (some (.l false xs)) → σ4[i]? ≠ some (some (.ref D)) := by
          intro j xs ej z
          have ob : Old (wipeR ρ vs) (L2.wipe σ vs) H1 := (o1.wipe vs).old
          obtain ⟨q2, w1, w2⟩ := b4 (fun q z => nomatch z) H1 ob j xs ej
          rw [z] at w1
          cases w1
          exact w2 nD
        refine ⟨fun j m H => m = its1.length - j ∧ j ≤ its1.length ∧ ∃ Z acc, M1 j acc ∧ StepD F D Z6 H6 Z H ∧ H D = some (TxO P w D acc),
          ⟨_, rfl, Nat.zero_le _, Z6, acc, p10, (o6.refl).toD, e1⟩, ?_⟩
        rintro j m H7 ⟨rfl, hj, Z7, acc1, pj, s7, hD7⟩
        have sm7 := s7.vw lone
        have l7 := s7.lone lone ⟨_, hD7, alive_ext _⟩
        have g7 := wk1.loop rfl Z7 H7 sm7
        have o7 := o6.stepD lone me s7
        rcases Nat.lt_or_ge j its1.length with lt1 | ge1
        · refine .inr ⟨wk1.goes j H7 lt1 g7, fun H => ∃ Z acc, M1 (j + 1) acc ∧ StepD F D Z6 H6 Z H ∧ H D = some (TxO P w D acc), fun H' z => ⟨its1.length - (j + 1), by omega, rfl, lt1, z⟩, fun x1 H8 y1 => ?_⟩
          obtain ⟨av1, ea1, s8, r8⟩ := wk1.yields j Z7 ρ4 σ4 H7 x1 H8 lt1 g7 o7 (.inr sm7) y1
          have oo8 := o7.step s8
          have o8 := oo8.wipe vs1
          refine SG.snd (F := F) (g := g1) (ag := ag1) (sl := sl1) Z7 _ _ Hfull H8 x1 av1 _ _ o8 r8 o8.oldFull (turn1 j av1 acc1 ea1 pj) fun ρ9 σ9 q9 o9 k9 l9 _ => ?_
          refine ⟨wipe_eq (by rw [l9, wipe_length]) k9 sub1, ?_⟩
          refine ST.snd (F := F) (te := tt1) (ae := at1) Z7 ρ9 σ9 H8 _ _ o9 q9 fun kk H10 Z10 q10 s10 => ?_
          have s710 := s8.trans o7.row s10
          have keepE : ∀ {Zn : Addr → Prop} {Hn : Hp}, Step F Z7 H7 Zn Hn → Hn D = some (TxO P w D acc1) ∧ StepD F D Z6 H6 Zn Hn := fun sn =>
            ⟨sn.eff.2 _ _ nr hD7, s7.trans o6.row lone sn.toD ⟨_, hD7⟩⟩
          cases kk with
          | false =>
            rw [if_neg Bool.false_ne_true] at q10 ⊢
            obtain ⟨f1, f2⟩ := keepE s710
            exact ⟨Z10, acc1, q10, f2, f1⟩
          | true =>
            rw [if_pos rfl] at q10 ⊢
            refine SE.snd (F := F) (te := te) (ae := ae) Z10 ρ9 σ9 H10 _ _ (o9.step s10) q10 fun z az H11 Z11 ⟨x, ex, few, q11⟩ s11 r11 => ?_
            have s711 := s710.trans o7.row s11
            obtain ⟨f1, f2⟩ := keepE s711
            have o11 := (o9.step s10).step s11
            have ez : z = .str x := dp_str (by have := r11.dp o11.row (by cases az <;> first | rfl | cases ex); rw [ex] at this; exact this)
            obtain ⟨p1, p2⟩ := f2.putA lone (o' := TxO P w D (withX acc1 x)) f1 (alive_ext _) (alive_ext _)
            exact ⟨x, acc1, ez, f1, by show acc1.length + 1 < 4096; omega, Z11, withX acc1 x, q11, p1, upd_same⟩
        · have e : j = its1.length := by omega
          subst e
          refine .inl ⟨wk1.stops H7 g7, Z7, acc1, fin1 acc1 pj, ?_, l7.nz, hD7⟩
          refine ⟨⟨s16.eff.1.trans s7.imm, fun b ob n h => ?_⟩, s7.row, fun b h => s7.big b (s16.big b h), fun b h => ?_, s7.zok⟩
          · exact s7.eff b ob n (fun e => by rw [e, nD] at h; cases h) (s16.eff.2 b ob n h)
          · rcases s7.new b h with z | z
            · exact s16.new b z
            · exact .inr (s16.older z)
    · have e : i = its.length := by omega
      subst e
      refine .inl ⟨wk.stops H2 gg, D, acc, rfl, hD, fun ys p pm srt np => ?_⟩
      have o2 := o.step s02
      exact k _ _ _ Z2 (fin acc pi ys pm srt) (s02.trans o.row (Step.new_ o2 np)) ((rv_newL o2 np (strs_dp ys)).back s02)
end

/-! ### the new rules with K, P and w by their names -/
section
variable {X : Cx} {P : Program} {w : World} {K : PySem.W.Frag}
theorem k_minX (K : PySem.W.Frag) (calm : X.calm = true) (hu : X.A.units + 65 < cLine) (hK : X.K = K := by rfl) : CallR X (.builtin "min") (rMinX K) := hK ▸ cr_minX calm hu
theorem k_ltX (K : PySem.W.Frag) (hu : X.A.units + 65 < cLine) (hK : X.K = K := by rfl) : OpR X (compareOp .Lt) (rLtX K) := hK ▸ op_ltX hu
theorem k_gtX (K : PySem.W.Frag) (hu : X.A.units + 65 < cLine) (hK : X.K = K := by rfl) : OpR X (compareOp .Gt) (rGtX K) := hK ▸ op_gtX hu
theorem k_sortTx (P : Program) (w : World) (calm : X.calm = true) (hP : X.prog = P := by rfl) (hw : X.w = w := by rfl) : CallR X (.builtin "sorted") (rSortTx P w) := by
  subst hP hw
  exact cr_sortTx calm
theorem k_keyNot (P : Program) (w : World) (K : PySem.W.Frag) (hu : X.A.units + 65 < cLine) (hP : X.prog = P := by rfl) (hw : X.w = w := by rfl) (hK : X.K = K := by rfl) : OpR X (compareOp .NotIn) (rKeyNot P w K) := by
  subst hP hw hK
  exact op_keyNot hu
theorem k_keyIn (P : Program) (w : World) (K : PySem.W.Frag) (hu : X.A.units + 65 < cLine) (hP : X.prog = P := by rfl) (hw : X.w = w := by rfl) (hK : X.K = K := by rfl) : OpR X (compareOp .In) (rKeyIn P w K) := by
  subst hP hw hK
  exact op_keyIn hu
theorem k_keyGet (P : Program) (w : World) (K : PySem.W.Frag) (hu : X.A.units + 65 < cLine) (hP : X.prog = P := by rfl) (hw : X.w = w := by rfl) (hK : X.K = K := by rfl) : IxR X (rKeyGet P w K) := by
  subst hP hw hK
  exact ix_key hu
theorem k_keySet (P : Program) (w : World) (K : PySem.W.Frag) (hu : X.A.units + 65 < cLine) (hP : X.prog = P := by rfl) (hw : X.w = w := by rfl) (hK : X.K = K := by rfl) : PSet X (rKeySet P w K) := by
  subst hP hw hK
  exact set_key hu
theorem k_newKd (P : Program) (w : World) (K : PySem.W.Frag) {pos : Pos} (hP : X.prog = P := by rfl) (hw : X.w = w := by rfl) (hK : X.K = K := by rfl) : PE X (.Dict [] [] pos) (tNewKd P w K) := by
  subst hP hw hK
  exact pe_newKd
theorem k_kk (K : PySem.W.Frag) {tg e : Expr} {d : Addr} {ws : List Str} (he : PE X e (tC (.ref d))) (kk : KKeys K d ws) (hK : X.K = K := by rfl) : PI X tg e (iKK ws) := by
  subst hK
  exact pi_kk he kk
theorem k_minK (K : PySem.W.Frag) {CX : CXT} {k : Nat} {f : Addr} {fd : FuncData} {ps : List Str} {sp : Sp} (calm : X.calm = true) (F : FnOk X.prog X.w X.K X.mg X.base CX k f fd ps sp) (hr : Room (k + 1) X.A) (hb : Binds X.K fd ps []) (hx : ∀ outer H s E e s', CX outer H s E e s' → False) (hK : X.K = K := by rfl) :
    CallRK X (.builtin "min") [Str.ofString "key"] (rMinK K f sp) := by
  subst hK
  exact cr_minK calm F hr hb hx
theorem k_sc2 (P : Program) (w : World) (K : PySem.W.Frag) {p : Putter} {elt t0 i0 t1 i1 : Expr} {q0 q1 : List Expr} {scope : Scope} {own : List (PySem.Str × Nat)} {us : List Nat} {pos : Pos} {wi wj : TI} {g gj : TG} {tt tj : TT} {te : TE} (po : p.Ok) (calm : X.calm = true) (nd : X.N.Nodup) (pi0 : PI X t0 i0 wi) (blk : BlkOk X.N X.env.scope scope own) (sub : ∀ i ∈ us, i ∈ own.map (·.2))
    (tg0 : ∀ (s : Shared) (H : Hp) (C : Addr) (cl : List (PySem.Str × Addr)) (fp : List Addr), PG (X.blk s H scope (compEnvC scope cl C X.env) fp) t0 g)
    (if0 : ∀ (s : Shared) (H : Hp) (C : Addr) (cl : List (PySem.Str × Addr)) (fp : List Addr), PTs (X.blk s H scope (compEnvC scope cl C X.env) fp) q0 tt)
    (src : ∀ (s : Shared) (H : Hp) (C : Addr) (cl : List (PySem.Str × Addr)) (fp : List Addr), PI (X.blk s H scope (compEnvC scope cl C X.env) fp) t1 i1 wj)
    (tg1 : ∀ (s : Shared) (H : Hp) (C : Addr) (cl : List (PySem.Str × Addr)) (fp : List Addr), PG (X.blk s H scope (compEnvC scope cl C X.env) fp) t1 gj)
    (if1 : ∀ (s : Shared) (H : Hp) (C : Addr) (cl : List (PySem.Str × Addr)) (fp : List Addr), PTs (X.blk s H scope (compEnvC scope cl C X.env) fp) q1 tj)
    (el : ∀ (s : Shared) (H : Hp) (C : Addr) (cl : List (PySem.Str × Addr)) (fp : List Addr), PE (X.blk s H scope (compEnvC scope cl C X.env) fp) elt te)
    (fo0 : ∀ x, foldedSetIterable i0 X.env x = pure x := by intro _; rfl) (fo1 : ∀ env x, foldedSetIterable i1 env x = pure x := by intro _ _; rfl) (hP : X.prog = P := by rfl) (hw : X.w = w := by rfl) (hK : X.K = K := by rfl) :
    PE X (.SetComp elt [⟨t0, i0, q0, 0⟩, ⟨t1, i1, q1, 0⟩] scope pos) (tSc2 p P w K wi g tt wj gj tj te (own.map (·.2)) us) := by
  subst hP hw hK
  exact pe_sc2 po calm nd pi0 blk sub tg0 if0 src tg1 if1 el fo0 fo1
end
/-! ### without the heap -/
def aMinX : ABl := fun vs Φ => ∃ x xs, vs = [x] ∧ seqP x.dat = some xs ∧ (x.isS = true ∨ ∃ f ys, x = .l f ys) ∧ immAll xs = true ∧ 0 < xs.length ∧ KeysOk xs.length (fun i => xs.getD i .none) ∧ ∀ d ∈ xs, (∀ e ∈ xs, PySem.W.dataLt e d = false) → Φ (.d d)
def aLtX : AR2 := fun x y Φ => x.isV = true ∧ y.isV = true ∧ CmpOk x.dat y.dat ∧ Φ (.d (.bool (PySem.W.dataLt x.dat y.dat)))
def aGtX : AR2 := fun x y Φ => x.isV = true ∧ y.isV = true ∧ CmpOk x.dat y.dat ∧ Φ (.d (.bool (PySem.W.dataLt y.dat x.dat)))
section
variable {K : PySem.W.Frag} {ec : EC} {F : Fr K ec}
instance : SB F (rMinX K) aMinX where
  snd := fun Z ρ σ He H xs axs Φ Q o rx ⟨x, ys, e, s, c, im, pos, O, q⟩ k => by
    subst e
    cases rx with | cons r t =>
    cases t
    obtain ⟨a, vs, rfl, hq, d⟩ := stays_of o.row r s c
    refine ⟨a, vs, ys, rfl, hq.symm, DpAll.imm vw_same d, pos, O, fun i v y H' ei ey least sm => ?_⟩
    have my := List.mem_of_getElem? ey
    obtain ⟨v', ev, dv⟩ := dpAll_get d ey
    rw [ei] at ev
    cases ev
    have iy := imm_all.mp im y my
    exact k v _ H' Z (q y my least) (step_same o sm) ⟨iy, Imm.dp (imm_of_same (Same.trans vw_same sm)) iy dv⟩
instance : SR F (rLtX K) aLtX where
  snd := fun Z ρ σ He H x y ax ay Φ Q o rx ry ⟨f1, f2, c, q⟩ k => ⟨_, _, rx.dp o.row (row_not f1), ry.dp o.row (row_not f2), c, k _ _ H Z q o.refl (rv_bl _)⟩
instance : SR F (rGtX K) aGtX where
  snd := fun Z ρ σ He H x y ax ay Φ Q o rx ry ⟨f1, f2, c, q⟩ k => ⟨_, _, rx.dp o.row (row_not f1), ry.dp o.row (row_not f2), c, k _ _ H Z q o.refl (rv_bl _)⟩
end
/-! ### reading on -/
section
variable {ρ : Rho} {Φ : AV → Prop}
def QSeq (R : Bool → List AV → Prop) : AV → Prop := fun x => (∃ xs, itT x = some xs ∧ R true (xs.map x.sub)) ∨ ∃ c xs, itL x = some (c, xs) ∧ R c (xs.map pdv)
theorem wSeqV {i : Nat} {av : AV} {R : Bool → List AV → Prop} (e : ρ[i]? = some (some av)) (h : QSeq R av) : aSeqV i ρ R := by
  rcases h with h | h
  · exact .inl ⟨av, e, h⟩
  · exact .inr ⟨av, e, h⟩
theorem wKK {ws : List Str} {R : Bool → List AV → Prop} (h : R true (ws.map fun x => AV.d (.str x))) : aKK ws ρ R := h
theorem forKK {ws : List Str} {g : AG} {b : AS} {D : AEnds} {ρ0 : Rho} (Inv : Nat → Rho → Prop) (h0 : Inv 0 ρ0) (hs : ∀ i x ρ', ws[i]? = some x → Inv i ρ' → g (.d (.str x)) ρ' fun ρ2 => b { D with nx := Inv (i + 1), ct := Inv (i + 1), bk := D.nx } ρ2)
    (hd : ∀ ρ', Inv ws.length ρ' → D.nx ρ') : QFor ρ0 g b D true (ws.map fun x => AV.d (.str x)) :=
  turns Inv h0 (fun i y ρ' hy hi => by
    obtain ⟨z, hz, rfl⟩ := map_inv hy
    exact hs i z ρ' hz hi) (by rw [List.length_map]; exact hd)
def QSs2 (g : AG) (t : AT) (w1 : AI) (g1 : AG) (t1 : AT) (a : AE) (vs vs1 sl sl1 : List Nat) (ρ : Rho) (Φ : AV → Prop) : Bool → List AV → Prop := fun _ its => ((∀ j ∈ sl, j ∈ vs) ∧ ∀ j ∈ sl1, j ∈ vs1) ∧ ∃ M : Nat → List Str → Prop, M 0 [] ∧
  (∀ i x acc, its[i]? = some x → M i acc → g x (wipeR ρ vs) fun ρ2 => t ρ2 fun k => if k = true then
    w1 ρ2 fun c1 its1 => c1 = true ∧ ∃ M1 : Nat → List Str → Prop, M1 0 acc ∧
      (∀ j y acc1, its1[j]? = some y → M1 j acc1 → g1 y (wipeR ρ2 vs1) fun ρ3 => t1 ρ3 fun k => if k = true then a ρ3 fun z => ∃ x, z.dat = .str x ∧ acc1.length < 4000 ∧ M1 (j + 1) (withX acc1 x) else M1 (j + 1) acc1) ∧
      ∀ acc1, M1 its1.length acc1 → M (i + 1) acc1
    else M (i + 1) acc) ∧
  ∀ acc, M its.length acc → ∀ ys : List Str, ys.Perm acc → PyProof.Rows.sortedS ys = true → Φ (.l true (ys.map PyData.str))
theorem wSs2 {w w1 : AI} {g g1 : AG} {t t1 : AT} {a : AE} {vs vs1 sl sl1 : List Nat} (h : w ρ (QSs2 g t w1 g1 t1 a vs vs1 sl sl1 ρ Φ)) : aSortSc2 w g t w1 g1 t1 a vs vs1 sl sl1 ρ Φ := h
/-- the inner walk, in short -/
def QSi (g1 : AG) (t1 : AT) (a : AE) (vs1 : List Nat) (ρ2 : Rho) (acc : List Str) (C : List Str → Prop) : Bool → List AV → Prop := fun c1 its1 => c1 = true ∧ ∃ M1 : Nat → List Str → Prop, M1 0 acc ∧
      (∀ j y acc1, its1[j]? = some y → M1 j acc1 → g1 y (wipeR ρ2 vs1) fun ρ3 => t1 ρ3 fun k => if k = true then a ρ3 fun z => ∃ x, z.dat = .str x ∧ acc1.length < 4000 ∧ M1 (j + 1) (withX acc1 x) else M1 (j + 1) acc1) ∧
      ∀ acc1, M1 its1.length acc1 → C acc1
theorem nodup_le {α : Type} [DecidableEq α] {l U : List α} (nd : l.Nodup) (sub : ∀ x ∈ l, x ∈ U) : l.length ≤ U.length := by
  induction l generalizing U with
  | nil => exact Nat.zero_le _
  | cons x l ih =>
    obtain ⟨n1, n2⟩ := List.nodup_cons.mp nd
    have mx := sub x List.mem_cons_self
    have := ih (U := U.erase x) n2 fun y hy => (List.mem_erase_of_ne (fun e => n1 (by rw [← e]; exact hy))).mpr (sub y (List.mem_cons_of_mem _ hy))
    rw [List.length_erase_of_mem mx] at this
    have := List.length_pos_of_mem mx
    rw [List.length_cons]
    omega
/-- a list tells what a list of texts holds -/
structure Holds (acc : List Str) (l : List Str) : Prop where
  nd : acc.Nodup
  mem : ∀ x, x ∈ acc ↔ x ∈ l
theorem holds_nil : Holds [] [] := ⟨List.nodup_nil, fun _ => Iff.rfl⟩
theorem Holds.more {acc l : List Str} (h : Holds acc l) (x : Str) : Holds (withX acc x) (l ++ [x]) := by
  unfold withX
  by_cases m : x ∈ acc
  · rw [if_pos m]
    refine ⟨h.nd, fun y => ?_⟩
    rw [h.mem, List.mem_append, List.mem_singleton]
    exact ⟨.inl, fun z => z.elim id fun e => by rw [e]; exact (h.mem x).mp m⟩
  · rw [if_neg m]
    refine ⟨List.nodup_append.mpr ⟨h.nd, by simp, fun y hy z hz e => m (by rw [List.mem_singleton.mp hz] at e; rw [← e]; exact hy)⟩, fun y => ?_⟩
    rw [List.mem_append, List.mem_append, h.mem]
/-- both walks, in short: what each x of the first, then each y of the second, puts in -/
theorem ss2 {c : Bool} {α : Type} {its : List AV} (xs : List α) (f : α → List Str) (s : α → AV) {w1 : AI} {g g1 : AG} {t1 : AT} {a : AE} {vs vs1 sl sl1 : List Nat} {ρ : Rho} {Φ : AV → Prop} (e : its = xs.map s) (sub : ∀ j ∈ sl, j ∈ vs) (sub1 : ∀ j ∈ sl1, j ∈ vs1)
    (turn : ∀ x, x ∈ xs → ∀ (acc l : List Str) (C : List Str → Prop), Holds acc l → (∀ y ∈ l, y ∈ xs.flatMap f) → (∀ acc', Holds acc' (l ++ f x) → C acc') → g (s x) (wipeR ρ vs) fun ρ2 => w1 ρ2 (QSi g1 t1 a vs1 ρ2 acc C))
    (h : ∀ ys : List Str, ys.Nodup → (∀ y, y ∈ ys ↔ y ∈ xs.flatMap f) → PyProof.Rows.sortedS ys = true → Φ (.l true (ys.map PyData.str))) : QSs2 g aYes w1 g1 t1 a vs vs1 sl sl1 ρ Φ c its := by
  subst e
  refine ⟨⟨sub, sub1⟩, fun i acc => Holds acc ((xs.take i).flatMap f), holds_nil, ?_, ?_⟩
  · rintro i x acc hx ho
    obtain ⟨z, hq, rfl⟩ := map_inv hx
    have e : ∀ (A B : Rho → Prop), (fun ρ2 => aYes ρ2 fun k => if k = true then A ρ2 else B ρ2) = A := fun A B => by
      funext ρ2
      unfold aYes
      simp
    rw [e]
    refine turn z (List.mem_of_getElem? hq) acc _ _ ho (fun y hy => ?_) fun acc' h' => ?_
    · obtain ⟨u, hu, hy⟩ := List.mem_flatMap.mp hy
      exact List.mem_flatMap.mpr ⟨u, List.mem_of_mem_take hu, hy⟩
    · show Holds acc' ((xs.take (i + 1)).flatMap f)
      rw [take_next hq, List.flatMap_append]
      simpa using h'
  · intro acc ho ys pm srt
    rw [List.length_map, List.take_length] at ho
    exact h ys (pm.nodup_iff.mpr ho.nd) (fun y => by rw [pm.mem_iff, ho.mem]) srt
theorem ssi {c1 : Bool} {β : Type} {its1 : List AV} (ys : List β) (f : β → Str) (p : β → Bool) (s : β → AV) {g1 : AG} {t1 : AT} {a : AE} {vs1 : List Nat} {ρ2 : Rho} {acc l U : List Str} {C : List Str → Prop} (hc : c1 = true) (e : its1 = ys.map s) (ho : Holds acc l) (in1 : ∀ y ∈ l, y ∈ U) (in2 : ∀ y ∈ ys, p y = true → f y ∈ U) (few : U.length < 4000)
    (turn : ∀ y, y ∈ ys → ∀ (M1 : Str → Prop) (L P0 : Prop), L → (p y = true → M1 (f y)) → (p y = false → P0) → g1 (s y) (wipeR ρ2 vs1) fun ρ3 => t1 ρ3 fun k => if k = true then a ρ3 fun z => ∃ x, z.dat = .str x ∧ L ∧ M1 x else P0)
    (h : ∀ acc', Holds acc' (l ++ (ys.filter p).map f) → C acc') : QSi g1 t1 a vs1 ρ2 acc C c1 its1 := by
  subst e
  refine ⟨hc, fun j acc1 => Holds acc1 (l ++ ((ys.take j).filter p).map f), by simpa using ho, ?_, ?_⟩
  · rintro j y acc1 hy h1
    obtain ⟨z, hq, rfl⟩ := map_inv hy
    refine turn z (List.mem_of_getElem? hq) (fun x => Holds (withX acc1 x) (l ++ ((ys.take (j + 1)).filter p).map f)) _ _ ?_ (fun c => ?_) fun c => ?_
    · refine Nat.lt_of_le_of_lt (nodup_le h1.nd (U := U) fun x hx => ?_) few
      rcases List.mem_append.mp ((h1.mem x).mp hx) with m | m
      · exact in1 x m
      · obtain ⟨u, hu, rfl⟩ := List.mem_map.mp m
        obtain ⟨hu1, hu2⟩ := List.mem_filter.mp hu
        exact in2 u (List.mem_of_mem_take hu1) hu2
    · have := h1.more (f z)
      show Holds (withX acc1 (f z)) _
      rw [take_next hq, List.filter_append, List.map_append, ← List.append_assoc]
      simpa [List.filter_cons, c] using this
    · show Holds acc1 (l ++ ((ys.take (j + 1)).filter p).map f)
      rw [take_next hq, List.filter_append, List.map_append, ← List.append_assoc]
      simpa [List.filter_cons, c] using h1
  · intro acc1 h1
    rw [List.length_map, List.take_length] at h1
    exact h acc1 h1
theorem Holds.len {acc l U : List Str} (h : Holds acc l) (sub : ∀ x ∈ l, x ∈ U) : acc.length ≤ U.length :=
  nodup_le h.nd fun x hx => sub x ((h.mem x).mp hx)
end

/-! ### orders -/
/-- a strict total order -/
structure STO {α : Type} (lt : α → α → Bool) : Prop where
  irr : ∀ x, lt x x = false
  trans : ∀ x y z, lt x y = true → lt y z = true → lt x z = true
  tri : ∀ x y, x = y ∨ lt x y = true ∨ lt y x = true
section
variable {α β : Type} [DecidableEq α] [DecidableEq β] {lt : α → α → Bool} {lt2 : β → β → Bool}
theorem STO.asym (o : STO lt) {x y : α} (h : lt x y = true) : lt y x = false := by
  cases e : lt y x with
  | false => rfl
  | true =>
    have := o.trans x y x h e
    rw [o.irr] at this
    cases this
theorem STO.le_anti (o : STO lt) {x y : α} (h : lt x y = false) (k : lt y x = false) : x = y := by
  rcases o.tri x y with e | e | e
  · exact e
  · rw [h] at e; cases e
  · rw [k] at e; cases e
/-- not behind -/
theorem STO.le_trans (o : STO lt) {x y z : α} (h : lt y x = false) (k : lt z y = false) : lt z x = false := by
  cases e : lt z x with
  | false => rfl
  | true =>
    rcases o.tri x y with q | q | q
    · subst q; rw [k] at e; cases e
    · have := o.trans z x y e q
      rw [k] at this; cases this
    · rw [h] at q; cases q
def lexL (lt : α → α → Bool) : List α → List α → Bool
  | [], [] => false
  | [], _ :: _ => true
  | _ :: _, [] => false
  | x :: xs, y :: ys => if x = y then lexL lt xs ys else lt x y
theorem lexL_cons (x : α) (xs ys : List α) : lexL lt (x :: xs) (x :: ys) = lexL lt xs ys := by rw [lexL, if_pos rfl]
theorem lexL_app (p xs ys : List α) : lexL lt (p ++ xs) (p ++ ys) = lexL lt xs ys := by
  induction p with
  | nil => rfl
  | cons x p ih => rw [List.cons_append, List.cons_append, lexL_cons, ih]
theorem STO.lex (o : STO lt) : STO (lexL lt) where
  irr := fun x => by
    induction x with
    | nil => rfl
    | cons x xs ih => rw [lexL_cons, ih]
  trans := fun x => by
    induction x with
    | nil =>
      intro y z h k
      cases z with
      | nil => cases y <;> cases k
      | cons z zs => rfl
    | cons x xs ih =>
      intro y z h k
      cases y with
      | nil => cases h
      | cons y ys =>
      cases z with
      | nil => cases k
      | cons z zs =>
      rw [lexL] at h k ⊢
      by_cases e : x = y
      · subst e
        rw [if_pos rfl] at h
        by_cases e2 : x = z
        · subst e2
          rw [if_pos rfl] at k ⊢
          exact ih ys zs h k
        · rw [if_neg e2] at k ⊢
          exact k
      · rw [if_neg e] at h
        by_cases e2 : y = z
        · subst e2
          rw [if_neg e]
          exact h
        · rw [if_neg e2] at k
          have t := o.trans x y z h k
          by_cases e3 : x = z
          · subst e3
            rw [o.irr] at t
            cases t
          · rw [if_neg e3]
            exact t
  tri := fun x => by
    induction x with
    | nil => intro y; cases y with
      | nil => exact .inl rfl
      | cons => exact .inr (.inl rfl)
    | cons x xs ih =>
      intro y
      cases y with
      | nil => exact .inr (.inr rfl)
      | cons y ys =>
      rw [lexL, lexL]
      by_cases e : x = y
      · subst e
        rw [if_pos rfl, if_pos rfl]
        rcases ih ys with h | h | h
        · exact .inl (by rw [h])
        · exact .inr (.inl h)
        · exact .inr (.inr h)
      · rw [if_neg e, if_neg fun z => e z.symm]
        rcases o.tri x y with h | h | h
        · exact absurd h e
        · exact .inr (.inl h)
        · exact .inr (.inr h)
def lexP (lt : α → α → Bool) (lt2 : β → β → Bool) (x y : α × β) : Bool := if x.1 = y.1 then lt2 x.2 y.2 else lt x.1 y.1
theorem STO.pair (o : STO lt) (o2 : STO lt2) : STO (lexP lt lt2) where
  irr := fun x => by unfold lexP; rw [if_pos rfl, o2.irr]
  trans := fun x y z h k => by
    unfold lexP at h k ⊢
    by_cases e : x.1 = y.1
    · rw [if_pos e] at h
      by_cases e2 : y.1 = z.1
      · rw [if_pos e2] at k
        rw [if_pos (e.trans e2)]
        exact o2.trans _ _ _ h k
      · rw [if_neg e2] at k
        rw [if_neg fun q => e2 (e.symm.trans q), e]
        exact k
    · rw [if_neg e] at h
      by_cases e2 : y.1 = z.1
      · rw [if_neg fun q => e (q.trans e2.symm), ← e2]
        exact h
      · rw [if_neg e2] at k
        have t := o.trans _ _ _ h k
        by_cases e3 : x.1 = z.1
        · rw [e3, o.irr] at t; cases t
        · rw [if_neg e3]; exact t
  tri := fun x y => by
    unfold lexP
    by_cases e : x.1 = y.1
    · rw [if_pos e, if_pos e.symm]
      rcases o2.tri x.2 y.2 with h | h | h
      · exact .inl (Prod.ext e h)
      · exact .inr (.inl h)
      · exact .inr (.inr h)
    · rw [if_neg e, if_neg fun z => e z.symm]
      rcases o.tri x.1 y.1 with h | h | h
      · exact absurd h e
      · exact .inr (.inl h)
      · exact .inr (.inr h)
end
def ltS (x y : Str) : Bool := decide (x.cps.toList < y.cps.toList)
theorem sto_str : STO ltS where
  irr := fun x => decide_eq_false (List.lt_irrefl _)
  trans := fun x y z h k => decide_eq_true (List.lt_trans (of_decide_eq_true h) (of_decide_eq_true k))
  tri := fun x y => by
    unfold ltS
    by_cases h : x.cps.toList < y.cps.toList
    · exact .inr (.inl (decide_eq_true h))
    · by_cases k : y.cps.toList < x.cps.toList
      · exact .inr (.inr (decide_eq_true k))
      · exact .inl (PySem.W.str_of_cps (List.le_antisymm (List.not_lt.mp k) (List.not_lt.mp h)))
def ltI (x y : Int) : Bool := decide (x < y)
def ltN (x y : Nat) : Bool := decide (x < y)
theorem sto_int : STO ltI where
  irr := fun x => decide_eq_false (by omega)
  trans := fun x y z h k => decide_eq_true (by have := of_decide_eq_true h; have := of_decide_eq_true k; omega)
  tri := fun x y => by
    unfold ltI
    rcases Int.lt_trichotomy x y with h | h | h
    · exact .inr (.inl (decide_eq_true h))
    · exact .inl h
    · exact .inr (.inr (decide_eq_true h))
theorem sto_nat : STO ltN where
  irr := fun x => decide_eq_false (by omega)
  trans := fun x y z h k => decide_eq_true (by have := of_decide_eq_true h; have := of_decide_eq_true k; omega)
  tri := fun x y => by
    unfold ltN
    rcases Nat.lt_trichotomy x y with h | h | h
    · exact .inr (.inl (decide_eq_true h))
    · exact .inl h
    · exact .inr (.inr (decide_eq_true h))
/-- data that is ordered by what it is made of -/
structure Orr {α : Type} [DecidableEq α] (f : α → PyData) (n : Nat) (lt : α → α → Bool) : Prop where
  dat : Dat f n
  lt_eq : ∀ x y, PySem.W.dataLt (f x) (f y) = lt x y
  al : ∀ x y, PySem.W.alike (f x) (f y) = true
section
variable {α β : Type} [DecidableEq α] [DecidableEq β] {lt : α → α → Bool} {lt2 : β → β → Bool} {f : α → PyData} {g : β → PyData} {n m : Nat}
/-- the first place that differs -/
theorem toks_step {x y : PyData} {xs ys : List PyData} (a : PySem.W.alike x y = true) (b : PySem.W.alikeAll xs ys = true) :
    PyProof.Rows.lexLt itemOrd (PySem.W.keyToksAll (x :: xs)) (PySem.W.keyToksAll (y :: ys)) = if PyData.eqv x y = true then PyProof.Rows.lexLt itemOrd (PySem.W.keyToksAll xs) (PySem.W.keyToksAll ys) else PySem.W.dataLt x y := by
  rw [PySem.W.toks_all_cons, PySem.W.toks_all_cons]
  refine (lex_self (O := itemOrd) _ _ _).trans ?_
  obtain ⟨h1, h2⟩ := PySem.W.toks_eqv x y a
  cases e : PyData.eqv x y with
  | true =>
    rw [if_pos rfl, h1 e]
    exact PySem.W.lex_pre _ _ _
  | false =>
    rw [if_neg Bool.false_ne_true]
    exact h2 e _ _
theorem alikeAll_map (o : Orr f n lt) : ∀ l m : List α, PySem.W.alikeAll (l.map f) (m.map f) = true
  | [], _ => by cases ‹List α› <;> rfl
  | _ :: _, [] => rfl
  | x :: l, y :: m => by rw [List.map_cons, List.map_cons, PySem.W.alikeAll, o.al, alikeAll_map o l m]; rfl
theorem toks_map (o : Orr f n lt) : ∀ l m : List α, PyProof.Rows.lexLt itemOrd (PySem.W.keyToksAll (l.map f)) (PySem.W.keyToksAll (m.map f)) = lexL lt l m
  | [], [] => lex_irrefl _
  | [], y :: m => by
    rw [List.map_cons, PySem.W.toks_all_cons, List.map_nil, PySem.W.keyToksAll]
    refine (PySem.W.lex_atom (by simp) _ _).trans ?_
    rfl
  | x :: l, [] => by
    rw [List.map_cons, PySem.W.toks_all_cons, List.map_nil, PySem.W.keyToksAll]
    refine (PySem.W.lex_atom (by simp) _ _).trans ?_
    rfl
  | x :: l, y :: m => by
    rw [List.map_cons, List.map_cons, toks_step (o.al x y) (alikeAll_map o l m), o.dat.eq, toks_map o l m, o.lt_eq, lexL]
    by_cases e : x = y
    · rw [decide_eq_true e, if_pos rfl, if_pos e]
    · rw [decide_eq_false e, if_neg Bool.false_ne_true, if_neg e]
theorem Orr.tup (o : Orr f n lt) : Orr (fun l : List α => PyData.tuple (l.map f)) (n + 1) (lexL lt) :=
  ⟨o.dat.tup, fun x y => toks_map o x y, fun x y => by rw [PySem.W.alike]; exact alikeAll_map o x y⟩
theorem Orr.two (o : Orr f n lt) (p : Orr g m lt2) : Orr (fun x : α × β => PyData.tuple [f x.1, g x.2]) (max n m + 1) (lexP lt lt2) :=
  ⟨o.dat.two p.dat, fun x y => by
    have a1 : PySem.W.alikeAll [g x.2] [g y.2] = true := by rw [PySem.W.alikeAll, p.al]; rfl
    have e1 : PySem.W.dataLt (.tuple [f x.1, g x.2]) (.tuple [f y.1, g y.2]) = PyProof.Rows.lexLt itemOrd (PySem.W.keyToksAll [f x.1, g x.2]) (PySem.W.keyToksAll [f y.1, g y.2]) := rfl
    rw [e1, toks_step (o.al _ _) a1, toks_step (p.al _ _) rfl, o.dat.eq, p.dat.eq, o.lt_eq, p.lt_eq]
    unfold lexP
    by_cases e : x.1 = y.1
    · rw [decide_eq_true e, if_pos rfl, if_pos e]
      by_cases e2 : x.2 = y.2
      · rw [decide_eq_true e2, if_pos rfl, ← p.lt_eq, e2]
        have : PySem.W.dataLt (g y.2) (g y.2) = false := by
          unfold PySem.W.dataLt
          exact lex_irrefl _
        rw [this]
        decide
      · rw [decide_eq_false e2, if_neg Bool.false_ne_true]
    · rw [decide_eq_false e, if_neg Bool.false_ne_true, if_neg e], fun x y => by rw [PySem.W.alike, PySem.W.alikeAll, PySem.W.alikeAll, o.al, p.al]; rfl⟩
end

/-! ### sayings as words, and their order -/
def Tr.kws : Tr → List Kw
  | .col c => [.c c]
  | .two d a b => .d d :: (a.kws ++ b.kws)
  | .pc p c b => .p p :: .c c :: b.kws
theorem Tr.kws_wds : ∀ t : Tr, t.wds = t.kws.map Kw.s
  | .col _ => rfl
  | .two d a b => by rw [Tr.wds, Tr.kws, List.map_cons, List.map_append, ← kws_wds a, ← kws_wds b]; rfl
  | .pc p c b => by rw [Tr.wds, Tr.kws, List.map_cons, List.map_cons, ← kws_wds b]; rfl
theorem Tr.kws_pos : ∀ t : Tr, 0 < t.kws.length
  | .col _ => Nat.one_pos
  | .two _ _ _ => Nat.succ_pos _
  | .pc _ _ _ => Nat.succ_pos _
def ltK (a b : Kw) : Bool := ltS a.s b.s
theorem sto_kw : STO ltK where
  irr := fun x => sto_str.irr _
  trans := fun x y z h k => sto_str.trans _ _ _ h k
  tri := fun x y => (sto_str.tri x.s y.s).imp (fun e => Kw.inj e) id
theorem orr_kw : Orr (fun k : Kw => PyData.str k.s) 0 ltK := ⟨dat_kw, fun x y => PySem.W.dataLt_str _ _, fun _ _ => rfl⟩
theorem orr_nat : Orr (fun i : Nat => PyData.int (i : Int)) 0 ltN := ⟨dat_nat, fun x y => by
  rw [PySem.W.dataLt_int]
  unfold ltN
  exact decide_eq_decide.mpr Int.ofNat_lt, fun _ _ => rfl⟩
def dKs (l : List Kw) : PyData := .tuple (l.map fun k => PyData.str k.s)
theorem dKs_ws (l : List Kw) : dKs l = dWs (l.map Kw.s) := by
  unfold dKs dWs
  rw [List.map_map]
  rfl
theorem orr_ks : Orr dKs 1 (lexL ltK) := orr_kw.tup
/-- by their number, then as texts -/
def rlt (a b : List Kw) : Bool := lexP ltN (lexL ltK) (a.length, a) (b.length, b)
def dRk (l : List Kw) : PyData := .tuple [.int (l.length : Nat), dKs l]
theorem orr_rk : Orr dRk 2 rlt := by
  have o := orr_nat.two orr_ks
  refine ⟨⟨fun x y => ?_, fun x => o.dat.can (x.length, x), fun x => o.dat.dep (x.length, x), fun x => o.dat.im (x.length, x)⟩, fun x y => o.lt_eq (x.length, x) (y.length, y), fun x y => o.al (x.length, x) (y.length, y)⟩
  have := o.dat.eq (x.length, x) (y.length, y)
  show PyData.eqv (.tuple [.int (x.length : Nat), dKs x]) (.tuple [.int (y.length : Nat), dKs y]) = _
  rw [this]
  exact decide_eq_decide.mpr ⟨fun h => (Prod.mk.inj h).2, fun h => by rw [h]⟩
theorem sto_rk : STO rlt where
  irr := fun x => (sto_nat.pair sto_kw.lex).irr _
  trans := fun x y z => (sto_nat.pair sto_kw.lex).trans _ _ _
  tri := fun x y => ((sto_nat.pair sto_kw.lex).tri (x.length, x) (y.length, y)).imp (fun e => (Prod.mk.inj e).2) id
theorem rlt_len {a b : List Kw} (h : a.length < b.length) : rlt a b = true := by
  unfold rlt lexP
  rw [if_neg (by show a.length ≠ b.length; omega)]
  exact decide_eq_true h
theorem rlt_same {a b : List Kw} (h : a.length = b.length) : rlt a b = lexL ltK a b := by
  unfold rlt lexP
  rw [if_pos h]
/-- a stands no later than b -/
def rle (a b : List Kw) : Prop := rlt b a = false
theorem rle_len {a b : List Kw} (h : rle a b) : a.length ≤ b.length := by
  rcases Nat.lt_or_ge b.length a.length with l | l
  · have := rlt_len l
    unfold rle at h
    rw [h] at this
    cases this
  · exact l
theorem rle_of_len {a b : List Kw} (h : a.length < b.length) : rle a b := sto_rk.asym (rlt_len h)
theorem rle_refl (a : List Kw) : rle a a := sto_rk.irr a
theorem rle_trans {a b c : List Kw} (h : rle a b) (k : rle b c) : rle a c := sto_rk.le_trans h k
theorem lexL_part {α : Type} [DecidableEq α] {lt : α → α → Bool} : ∀ {x y : List α} (u v : List α), x.length = y.length → x ≠ y → lexL lt (x ++ u) (y ++ v) = lexL lt x y
  | [], [], _, _, _, n => absurd rfl n
  | [], _ :: _, _, _, l, _ => by cases l
  | _ :: _, [], _, _, l, _ => by cases l
  | x :: xs, y :: ys, u, v, l, n => by
    rw [List.cons_append, List.cons_append, lexL, lexL]
    by_cases e : x = y
    · subst e
      rw [if_pos rfl, if_pos rfl]
      exact lexL_part u v (by simpa using l) fun z => n (by rw [z])
    · rw [if_neg e, if_neg e]
theorem rle_app {a b c d : List Kw} (h : rle a b) (k : rle c d) : rle (a ++ c) (b ++ d) := by
  have l1 := rle_len h
  have l2 := rle_len k
  rcases Nat.lt_or_ge (a ++ c).length (b ++ d).length with l | l
  · exact rle_of_len l
  · rw [List.length_append, List.length_append] at l
    have e1 : b.length = a.length := by omega
    have e2 : d.length = c.length := by omega
    unfold rle at h k ⊢
    rw [rlt_same e1] at h
    rw [rlt_same e2] at k
    rw [rlt_same (by rw [List.length_append, List.length_append, e1, e2])]
    by_cases e : b = a
    · rw [e, lexL_app]; exact k
    · rw [lexL_part d c e1 e]; exact h
/-! ### without white words at the end -/
def Kw.w : Kw := .c .white
def trimK : List Kw → List Kw
  | [] => []
  | k :: l => match trimK l with
    | [] => if k = Kw.w then [] else [k]
    | r :: rs => k :: r :: rs
theorem trimK_cons (k : Kw) (l : List Kw) : trimK (k :: l) = if trimK l = [] then (if k = Kw.w then [] else [k]) else k :: trimK l := by
  rw [trimK]
  cases trimK l with
  | nil => rfl
  | cons r rs => rfl
theorem trimK_app (a b : List Kw) : trimK (a ++ b) = if trimK b = [] then trimK a else a ++ trimK b := by
  induction a with
  | nil =>
    by_cases h : trimK b = []
    · rw [if_pos h]; exact h
    · rw [if_neg h]; rfl
  | cons k a ih =>
    rw [List.cons_append, trimK_cons, ih, trimK_cons k a]
    by_cases h : trimK b = []
    · rw [if_pos h, if_pos h]
    · rw [if_neg h, if_neg h, if_neg (by simp [h])]
      rfl
theorem trimK_len (l : List Kw) : (trimK l).length ≤ l.length := by
  induction l with
  | nil => exact Nat.le_refl _
  | cons k l ih =>
    rw [trimK_cons]
    by_cases h : trimK l = []
    · rw [if_pos h]
      split <;> simp
    · rw [if_neg h, List.length_cons, List.length_cons]
      omega
theorem trimK_nil {l : List Kw} (h : trimK l = []) : ∀ k ∈ l, k = Kw.w := by
  induction l with
  | nil => intro k m; cases m
  | cons x l ih =>
    rw [trimK_cons] at h
    by_cases e : trimK l = []
    · rw [if_pos e] at h
      by_cases e2 : x = Kw.w
      · intro k m
        rcases List.mem_cons.mp m with z | z
        · rw [z]; exact e2
        · exact ih e k z
      · rw [if_neg e2] at h; cases h
    · rw [if_neg e] at h; cases h
theorem rle_nil (l : List Kw) : rle [] l := by
  cases l with
  | nil => exact rle_refl _
  | cons k l => exact rle_of_len (Nat.succ_pos _)
theorem nil_rle {l : List Kw} (h : rle l []) : l = [] := List.length_eq_zero_iff.mp (Nat.le_zero.mp (rle_len h))
/-- all words white: the saying white -/
theorem Tr.white {t : Tr} (h : trimK t.kws = []) : t = .col .white := by
  have := trimK_nil h
  cases t with
  | col c =>
    have := this (.c c) List.mem_cons_self
    cases this
    rfl
  | two d a b => exact absurd (this (.d d) List.mem_cons_self) (fun z => by cases z)
  | pc p c b => exact absurd (this (.p p) List.mem_cons_self) (fun z => by cases z)

/-! # texts joined and split; sayings cut off at a place -/
def rSplit : V → List V → Hp → VK → Prop := fun x xs H Q => ∃ a b, x = .str a ∧ xs = [.str b] ∧ (b.length == 0) = false ∧ a.length + 2 ≤ sizeLine ∧ rNewStrs (Txt.split a b) H Q
theorem k_split {X : Cx} : MtR X "str.split" rSplit := mt_split
def rJoinT (K : PySem.W.Frag) : V → List V → Hp → VK → Prop := fun x xs H Q => ∃ a p, ∃ ys : List Str, x = .str a ∧ xs = [.ref p] ∧ SqT K H p (ys.map V.str) ∧
    (ys.map (·.length)).sum + ys.length * a.length ≤ 16777216 ∧ Q (.str (Txt.join a ys)) H
theorem k_join (K : PySem.W.Frag) {X : Cx} (hK : X.K = K := by rfl) : MtR X "str.join" (rJoinT K) := by
  subst hK
  intro pins s σ H x xs v us Q I rx rs ⟨a, p, ys, e1, e2, h1, h2, q⟩
  exact mt_join pins s σ H x xs v us Q I rx rs ⟨a, p, ys, e1, e2, .inr h1, h2, q⟩
def aMt (r : Str → AV → (AV → Prop) → Prop) (a b : AE) : AE := fun ρ Φ => a ρ fun x => ∃ s, x.dat = .str s ∧ b ρ fun y => r s y Φ
def aSplit : Str → AV → (AV → Prop) → Prop := fun s y Φ => ∃ t, y.dat = .str t ∧ (t.length == 0) = false ∧ s.length + 2 ≤ sizeLine ∧ Φ (.l true ((Txt.split s t).map PyData.str))
def aJoin : Str → AV → (AV → Prop) → Prop := fun s y Φ => ∃ ys : List Str, y.dat = .tuple (ys.map PyData.str) ∧ (ys.map (·.length)).sum + ys.length * s.length ≤ 16777216 ∧ Φ (.d (.str (Txt.join s ys)))
section
variable {K : PySem.W.Frag} {ec : EC} {F : Fr K ec}
instance {te tf : TE} {a b : AE} [SE F te a] [SE F tf b] : SE F (tBM K "str" rSplit te (tCons tf tNil)) (aMt aSplit a b) where
  snd := fun Z ρ σ H Φ Q o q k => by
    refine SE.snd (F := F) (te := te) (ae := a) Z ρ σ H _ _ o q fun x ax H1 Z1 ⟨s, es, q1⟩ s1 r1 => ?_
    have h1 := r1.str (o.step s1).row es
    subst h1
    refine ⟨rfl, ?_⟩
    refine SE.snd (F := F) (te := tf) (ae := b) Z1 ρ σ H1 _ _ (o.step s1) q1 fun y ay H2 Z2 ⟨t, e2, hb, hz, q2⟩ s2 r2 => ?_
    have o2 := (o.step s1).step s2
    have h2 := r2.str o2.row e2
    subst h2
    have s12 := s1.trans o.row s2
    exact ⟨s, t, rfl, rfl, hb, hz, fun p n => k _ _ _ Z2 q2 (s12.trans o.row (Step.new_ o2 n)) ((rv_newL o2 n (strs_dp _)).older fun b e => s12.older e)⟩
instance {te tf : TE} {a b : AE} [SE F te a] [SE F tf b] : SE F (tBM K "str" (rJoinT K) te (tCons tf tNil)) (aMt aJoin a b) where
  snd := fun Z ρ σ H Φ Q o q k => by
    refine SE.snd (F := F) (te := te) (ae := a) Z ρ σ H _ _ o q fun x ax H1 Z1 ⟨s, es, q1⟩ s1 r1 => ?_
    have h1 := r1.str (o.step s1).row es
    subst h1
    refine ⟨rfl, ?_⟩
    refine SE.snd (F := F) (te := tf) (ae := b) Z1 ρ σ H1 _ _ (o.step s1) q1 fun y ay H2 Z2 ⟨ys, e2, hz, q2⟩ s2 r2 => ?_
    have o2 := (o.step s1).step s2
    obtain ⟨p, vs, rfl, hp, d⟩ := r2.tup o2.row e2
    rw [strs_inv d] at hp
    exact ⟨s, p, ys, rfl, rfl, hp, hz, k _ _ H2 Z2 q2 (s1.trans o.row s2) (rv_str _)⟩
end
variable {ρ : Rho} {Φ : AV → Prop}
theorem wMt {r : Str → AV → (AV → Prop) → Prop} {a b : AE} (h : a ρ fun x => ∃ s, x.dat = .str s ∧ b ρ fun y => r s y Φ) : aMt r a b ρ Φ := h
theorem wStr {s : Str} {P : Str → Prop} (h : P s) : ∃ t, (AV.d (.str s)).dat = .str t ∧ P t := ⟨s, rfl, h⟩
theorem wSplit {s t : Str} (hb : (t.length == 0) = false) (hz : s.length + 2 ≤ sizeLine) (h : Φ (.l true ((Txt.split s t).map PyData.str))) : aSplit s (.d (.str t)) Φ := ⟨t, rfl, hb, hz, h⟩
theorem wJoin {s : Str} {x : AV} {ys : List Str} (e : x.dat = .tuple (ys.map PyData.str)) (hz : (ys.map (·.length)).sum + ys.length * s.length ≤ 16777216) (h : Φ (.d (.str (Txt.join s ys)))) : aJoin s x Φ := ⟨ys, e, hz, h⟩
/-! ### signs between -/
def jl (c : Nat) : List (List Nat) → List Nat
  | [] => []
  | [x] => x
  | x :: y :: r => x ++ c :: jl c (y :: r)
theorem cut_inj {c : Nat} : ∀ {x y u v : List Nat}, c ∉ x → c ∉ y → x ++ c :: u = y ++ c :: v → x = y ∧ u = v
  | [], [], u, v, _, _, h => ⟨rfl, (List.cons.inj h).2⟩
  | [], y :: ys, u, v, _, hy, h => absurd ((List.cons.inj h).1 ▸ List.mem_cons_self) hy
  | x :: xs, [], u, v, hx, _, h => absurd ((List.cons.inj h).1 ▸ List.mem_cons_self) hx
  | x :: xs, y :: ys, u, v, hx, hy, h => by
    obtain ⟨e1, e2⟩ := List.cons.inj h
    obtain ⟨e3, e4⟩ := cut_inj (fun m => hx (List.mem_cons_of_mem _ m)) (fun m => hy (List.mem_cons_of_mem _ m)) e2
    exact ⟨by rw [e1, e3], e4⟩
theorem jl_inj {c : Nat} : ∀ {a b : List (List Nat)}, a ≠ [] → b ≠ [] → (∀ x ∈ a, c ∉ x) → (∀ x ∈ b, c ∉ x) → jl c a = jl c b → a = b
  | [], _, h, _, _, _, _ => absurd rfl h
  | _, [], _, h, _, _, _ => absurd rfl h
  | [x], [y], _, _, _, _, h => by rw [show x = y from h]
  | [x], y :: y2 :: r, _, _, ha, _, h => absurd (show c ∈ x by rw [show x = y ++ c :: jl c (y2 :: r) from h]; simp) (ha x List.mem_cons_self)
  | x :: x2 :: r, [y], _, _, _, hb, h => absurd (show c ∈ y by rw [show y = x ++ c :: jl c (x2 :: r) from h.symm]; simp) (hb y List.mem_cons_self)
  | x :: x2 :: r, y :: y2 :: r2, _, _, ha, hb, h => by
    obtain ⟨e1, e2⟩ := cut_inj (ha x List.mem_cons_self) (hb y List.mem_cons_self) (show x ++ c :: jl c (x2 :: r) = y ++ c :: jl c (y2 :: r2) from h)
    rw [e1, jl_inj (fun z => by cases z) (fun z => by cases z) (fun z m => ha z (List.mem_cons_of_mem _ m)) (fun z m => hb z (List.mem_cons_of_mem _ m)) e2]
theorem join_list (c : Nat) : ∀ l : List Str, (Str.join ⟨#[c]⟩ l).cps.toList = jl c (l.map fun s => s.cps.toList)
  | [] => rfl
  | [x] => rfl
  | x :: y :: r => by
    show ((x.cps ++ #[c]) ++ (Str.join ⟨#[c]⟩ (y :: r)).cps).toList = x.cps.toList ++ c :: jl c ((y :: r).map fun s => s.cps.toList)
    rw [Array.toList_append, Array.toList_append, join_list c (y :: r), List.append_assoc]
    rfl
theorem str_list_inj {a b : List Str} (h : a.map (fun s => s.cps.toList) = b.map (fun s => s.cps.toList)) : a = b := by
  induction a generalizing b with
  | nil => cases b with | nil => rfl | cons y b => cases h
  | cons x a ih =>
    cases b with
    | nil => cases h
    | cons y b =>
      obtain ⟨e1, e2⟩ := List.cons.inj h
      obtain ⟨⟨x⟩⟩ := x
      obtain ⟨⟨y⟩⟩ := y
      rw [ih e2, show x = y from e1]
theorem split_ne (x : Str) (c : Nat) : Txt.split x ⟨#[c]⟩ ≠ [] := fun h => by
  have e := StrLaws.join_split x ⟨#[c]⟩
  rw [h] at e
  have e : Str.empty = x := e
  subst e
  cases h
theorem split_join {c : Nat} {l : List Str} (ne : l ≠ []) (f : ∀ s ∈ l, c ∉ s.cps.toList) : Txt.split (Txt.join ⟨#[c]⟩ l) ⟨#[c]⟩ = l := by
  have e := StrLaws.join_split (Txt.join ⟨#[c]⟩ l) ⟨#[c]⟩
  have g : Txt.join ⟨#[c]⟩ l = Str.join ⟨#[c]⟩ l := StrLaws.glued_eq_join _ _
  have e2 := congrArg (fun s : Str => s.cps.toList) (e.trans g)
  have e2 : (Str.join ⟨#[c]⟩ (Txt.split (Txt.join ⟨#[c]⟩ l) ⟨#[c]⟩)).cps.toList = (Str.join ⟨#[c]⟩ l).cps.toList := e2
  rw [join_list, join_list] at e2
  have e3 := jl_inj (a := (Txt.split (Txt.join ⟨#[c]⟩ l) ⟨#[c]⟩).map fun s => s.cps.toList) (b := l.map fun s => s.cps.toList) (fun z => split_ne _ _ (List.map_eq_nil_iff.mp z)) (fun z => ne (List.map_eq_nil_iff.mp z)) (fun x m => ?_) (fun x m => ?_) e2
  · exact str_list_inj e3
  · obtain ⟨s, ms, rfl⟩ := List.mem_map.mp m
    exact StrLaws.split_free _ c s ms
  · obtain ⟨s, ms, rfl⟩ := List.mem_map.mp m
    exact f s ms
theorem kw_blank (k : Kw) : 32 ∉ k.s.cps.toList := by
  rcases k with c | d | p
  · cases c <;> decide +kernel
  · cases d <;> decide +kernel
  · cases p <;> decide +kernel
theorem kw_len (k : Kw) : 0 < k.s.length ∧ k.s.length ≤ 9 := by
  rcases k with c | d | p
  · cases c <;> decide +kernel
  · cases d <;> decide +kernel
  · cases p <;> decide +kernel
theorem blank_eq : (" " : Str) = ⟨#[32]⟩ := by decide +kernel
theorem kws_split {l : List Kw} (ne : l ≠ []) : Txt.split (Txt.join (" " : Str) (l.map Kw.s)) (" " : Str) = l.map Kw.s := by
  rw [blank_eq]
  refine split_join (fun z => ne (List.map_eq_nil_iff.mp z)) fun s m => ?_
  obtain ⟨k, _, rfl⟩ := List.mem_map.mp m
  exact kw_blank k
theorem kws_sum (l : List Kw) : ((l.map Kw.s).map (·.length)).sum ≤ 9 * l.length := by
  induction l with
  | nil => exact Nat.le_refl _
  | cons k l ih =>
    rw [List.map_cons, List.map_cons, List.sum_cons, List.length_cons]
    have := (kw_len k).2
    show k.s.length + _ ≤ _
    omega
theorem kws_fit {l : List Kw} (h : l.length ≤ 1000) : ((l.map Kw.s).map (·.length)).sum + (l.map Kw.s).length * Str.length (" " : Str) ≤ 16777216 := by
  have := kws_sum l
  rw [List.length_map, show Str.length (" " : Str) = 1 from by decide +kernel]
  omega
theorem kws_text {l : List Kw} (h : l.length ≤ 1000) : (Txt.join (" " : Str) (l.map Kw.s)).length + 2 ≤ sizeLine := by
  have e := StrLaws.join_length_le (" " : Str) (l.map Kw.s)
  rw [← show Txt.join (" " : Str) (l.map Kw.s) = Str.join (" " : Str) (l.map Kw.s) from StrLaws.glued_eq_join _ _] at e
  have h1 := kws_sum l
  rw [List.length_map, show Str.length (" " : Str) = 1 from by decide +kernel] at e
  have : sizeLine = 16777216 := by decide +kernel
  omega
theorem join_pos {k : Kw} {l : List Kw} : 0 < (Txt.join (" " : Str) ((k :: l).map Kw.s)).length := by
  rw [show Txt.join (" " : Str) ((k :: l).map Kw.s) = Str.join (" " : Str) ((k :: l).map Kw.s) from StrLaws.glued_eq_join _ _, List.map_cons, PyProof.Rows.len_join_cons, List.map_cons, List.sum_cons]
  have := (kw_len k).1
  show 0 < k.s.length + _ + _
  omega
/-! ### without the white words -/
theorem trimK_all : ∀ {l : List Kw}, (∀ k ∈ l, k = Kw.w) → trimK l = []
  | [], _ => rfl
  | k :: l, h => by
    rw [trimK_cons, trimK_all fun x m => h x (List.mem_cons_of_mem _ m), if_pos rfl, if_pos (h k List.mem_cons_self)]
theorem trimK_last {l : List Kw} {k : Kw} (h : k ≠ Kw.w) : trimK (l ++ [k]) = l ++ [k] := by
  have e : trimK [k] = [k] := by rw [trimK_cons]; exact (if_pos rfl).trans (if_neg h)
  rw [trimK_app, e, if_neg (by simp)]
/-- the first m words, where behind them stand white ones alone and the last of them is not white -/
theorem trimK_take {l : List Kw} {m : Nat} (hm : m ≤ l.length) (a : ∀ k ∈ l.drop m, k = Kw.w) (b : ∀ j k, m = j + 1 → l[j]? = some k → k ≠ Kw.w) : trimK l = l.take m := by
  rw [← List.take_append_drop m l, trimK_app, if_pos (trimK_all a), List.take_append_drop]
  cases m with
  | zero => rfl
  | succ j =>
    have lt : j < l.length := by omega
    rw [List.take_succ, List.getElem?_eq_getElem lt]
    exact trimK_last (b j _ rfl (List.getElem?_eq_getElem lt))
theorem trimK_is (l : List Kw) : ∃ m, m ≤ l.length ∧ trimK l = l.take m ∧ (∀ k ∈ l.drop m, k = Kw.w) ∧ (∀ j k, m = j + 1 → l[j]? = some k → k ≠ Kw.w) := by
  induction l with
  | nil => exact ⟨0, Nat.le_refl _, rfl, (fun k h => nomatch h), fun j k h => by cases h⟩
  | cons x l ih =>
    obtain ⟨m, hm, e, a, b⟩ := ih
    by_cases c : m = 0
    · subst c
      have e : trimK l = [] := e
      by_cases d : x = Kw.w
      · refine ⟨0, Nat.zero_le _, ?_, ?_, fun j k h => by cases h⟩
        · rw [trimK_cons, e, if_pos rfl, if_pos d]; rfl
        · intro k hk
          rcases List.mem_cons.mp hk with z | z
          · rw [z]; exact d
          · exact a k z
      · refine ⟨1, by simp, ?_, a, ?_⟩
        · rw [trimK_cons, e, if_pos rfl, if_neg d]; rfl
        · intro j k h1 h2
          have : j = 0 := by omega
          subst this
          cases h2
          exact d
    · refine ⟨m + 1, by simpa using hm, ?_, a, ?_⟩
      · rw [trimK_cons, if_neg, e]; rfl
        rw [e]
        intro z
        have := congrArg List.length z
        rw [List.length_take] at this
        have : min m l.length = 0 := this
        omega
      · intro j k h1 h2
        cases j with
        | zero => omega
        | succ j => exact b j k (by omega) h2
/-! ### a full saying's beginning, and white words behind -/
theorem kws_len (t : Tr) : t.wds.length = t.kws.length := by rw [t.kws_wds, List.length_map]
def Tr.cutK : Nat → Tr → Tr
  | 0, _ => .col .white
  | _ + 1, .col c => .col c
  | k + 1, .two d a b => .two d (a.cutK k) (b.cutK (k - a.kws.length))
  | k + 1, .pc p c b => .pc p (if k = 0 then .white else c) (b.cutK (k - 1))
theorem cutK_zero (t : Tr) : t.cutK 0 = .col .white := by cases t <;> rfl
theorem Tr.cutK_ok : ∀ (t : Tr) (k w h : Nat), t.ok w h → (t.cutK k).ok w h
  | t, 0, w, h, _ => by rw [cutK_zero]; trivial
  | .col c, k + 1, w, h, _ => trivial
  | .two d a b, k + 1, w, h, ⟨f, oa, ob⟩ => ⟨f, a.cutK_ok _ _ _ oa, b.cutK_ok _ _ _ ob⟩
  | .pc p c b, k + 1, w, h, ⟨f, ob⟩ => ⟨f, b.cutK_ok _ _ _ ob⟩
theorem Tr.cutK_len : ∀ (t : Tr) (k : Nat), (t.cutK k).kws.length ≤ t.kws.length
  | t, 0 => by rw [cutK_zero]; exact t.kws_pos
  | .col c, k + 1 => Nat.le_refl _
  | .two d a b, k + 1 => by
    have h1 := a.cutK_len k
    have h2 := b.cutK_len (k - a.kws.length)
    simp only [Tr.cutK, Tr.kws, List.length_cons, List.length_append]
    omega
  | .pc p c b, k + 1 => by
    have h2 := b.cutK_len (k - 1)
    simp only [Tr.cutK, Tr.kws, List.length_cons]
    omega
theorem Tr.cutK_all : ∀ (t : Tr) (k : Nat), t.kws.length ≤ k → t.cutK k = t
  | t, 0, h => absurd t.kws_pos (by omega)
  | .col c, k + 1, _ => rfl
  | .two d a b, k + 1, h => by
    simp only [Tr.kws, List.length_cons, List.length_append] at h
    have hb := b.kws_pos
    rw [Tr.cutK, a.cutK_all k (by omega), b.cutK_all (k - a.kws.length) (by omega)]
  | .pc p c b, k + 1, h => by
    simp only [Tr.kws, List.length_cons] at h
    have hb := b.kws_pos
    rw [Tr.cutK, b.cutK_all (k - 1) (by omega), if_neg (by omega)]
theorem Tr.cutK_kws : ∀ (t : Tr) (k : Nat), ∃ n, (t.cutK k).kws = t.kws.take k ++ List.replicate n Kw.w
  | t, 0 => ⟨1, by rw [cutK_zero]; rfl⟩
  | .col c, k + 1 => ⟨0, by simp [Tr.cutK, Tr.kws]⟩
  | .two d a b, k + 1 => by
    obtain ⟨n1, e1⟩ := a.cutK_kws k
    obtain ⟨n2, e2⟩ := b.cutK_kws (k - a.kws.length)
    by_cases c : a.kws.length ≤ k
    · refine ⟨n2, ?_⟩
      rw [Tr.cutK, a.cutK_all k c, Tr.kws, Tr.kws, e2, List.take_succ_cons, List.take_append, List.take_of_length_le c, List.cons_append, List.append_assoc]
    · refine ⟨n1 + n2, ?_⟩
      have z : k - a.kws.length = 0 := by omega
      rw [Tr.cutK, Tr.kws, Tr.kws, e1, e2, List.take_succ_cons, List.take_append, z, List.take_zero, List.nil_append, List.append_nil, List.cons_append, List.append_assoc, List.replicate_append_replicate]
  | .pc p c b, k + 1 => by
    obtain ⟨n2, e2⟩ := b.cutK_kws (k - 1)
    cases k with
    | zero =>
      refine ⟨n2 + 1, ?_⟩
      rw [Tr.cutK, Tr.kws, e2, if_pos rfl, Tr.kws]
      show Kw.p p :: Kw.w :: ([] ++ List.replicate n2 Kw.w) = [Kw.p p] ++ List.replicate (n2 + 1) Kw.w
      rw [List.nil_append, List.replicate_succ]
      rfl
    | succ k =>
      refine ⟨n2, ?_⟩
      rw [Tr.cutK, Tr.kws, e2, if_neg (by omega), Tr.kws, List.take_succ_cons, List.take_succ_cons]
      rfl
/-- words that begin a full saying, behind which white ones alone are missing -/
theorem short_kws {t : Tr} {l : List Kw} {n : Nat} (e : t.kws = l ++ List.replicate n Kw.w) : Short t.wds (l.map Kw.s) := by
  refine ⟨l.length, ?_, ?_, fun i h1 h2 => ?_⟩
  · rw [kws_len, e, List.length_append]; omega
  · rw [t.kws_wds, e, List.map_append, List.take_append, List.length_map, Nat.sub_self, List.take_zero, List.append_nil, List.take_of_length_le (by rw [List.length_map]; omega)]
  · rw [kws_len, e, List.length_append, List.length_replicate] at h2
    rw [t.kws_wds, e, List.map_append, List.getElem?_append_right (by rw [List.length_map]; omega), List.length_map, List.map_replicate, List.getElem?_replicate, if_pos (by omega)]
    rfl
theorem white_rep : ∀ {l : List Kw}, (∀ k ∈ l, k = Kw.w) → l = List.replicate l.length Kw.w
  | [], _ => rfl
  | x :: l, h => by rw [h x List.mem_cons_self, List.length_cons, List.replicate_succ, ← white_rep fun k m => h k (List.mem_cons_of_mem _ m)]
/-- a saying's words: words of the full one, behind which white ones are left out -/
theorem Short.kws {t : Tr} {l : List Str} (h : Short t.wds l) : ∃ m n, m ≤ t.kws.length ∧ l = (t.kws.take m).map Kw.s ∧ t.kws = t.kws.take m ++ List.replicate n Kw.w := by
  obtain ⟨m, hm, e, a⟩ := h
  rw [kws_len] at hm
  refine ⟨m, (t.kws.drop m).length, hm, by rw [e, t.kws_wds, List.map_take], ?_⟩
  have : t.kws.drop m = List.replicate (t.kws.drop m).length Kw.w := white_rep fun k hk => by
    obtain ⟨i, lt, rfl⟩ := List.mem_iff_getElem.mp hk
    rw [List.length_drop] at lt
    have := a (m + i) (by omega) (by rw [kws_len]; omega)
    rw [t.kws_wds, List.getElem?_map, List.getElem?_eq_getElem (by omega)] at this
    rw [List.getElem_drop]
    exact Kw.inj (Option.some.inj this)
  rw [← this, List.take_append_drop]
theorem cutP_to (xs : List PyData) (n : Nat) : cutP xs none (some (n : Int)) = xs.take n := by
  unfold cutP
  rw [HT.sIx_none, HT.sIx_nat, List.drop_zero, Nat.sub_zero]
  by_cases h : n ≤ xs.length
  · rw [show min n xs.length = n by omega]
  · rw [show min n xs.length = xs.length by omega, List.take_length, List.take_of_length_le (by omega)]
theorem cutP_from (xs : List PyData) (n : Nat) : cutP xs (some (n : Int)) none = xs.drop n := by
  unfold cutP
  rw [HT.sIx_none, HT.sIx_nat]
  by_cases h : n ≤ xs.length
  · rw [show min n xs.length = n by omega]
    exact List.take_of_length_le (by rw [List.length_drop]; omega)
  · rw [show min n xs.length = xs.length by omega, List.drop_length, List.drop_of_length_le (by omega)]
    exact List.take_nil
theorem dWs_to (l : List Str) (n : Nat) : PyData.tuple (cutP (l.map PyData.str) none (some (n : Int))) = dWs (l.take n) := by
  rw [cutP_to, ← List.map_take]
  rfl
theorem dWs_from (l : List Str) (n : Nat) : PyData.tuple (cutP (l.map PyData.str) (some (n : Int)) none) = dWs (l.drop n) := by
  rw [cutP_from, ← List.map_drop]
  rfl

/-! # patches, and the shortest sayings that cover them -/
abbrev Pf := Nat → Nat → Option Co
/-- a full saying that draws all cells that ask for a colour so -/
def Cov (w h : Nat) (f : Pf) (t : Tr) : Prop := ∀ r c k, r < h → c < w → f r c = some k → t.cell w h r c = k
def Du.fa (d : Du) (w h : Nat) (f : Pf) : Pf := match d with
  | .quartered => fun r c => (f r c).or (f (r + h / 2) (c + w / 2))
  | _ => f
def Du.fb (d : Du) (w h : Nat) (f : Pf) : Pf := match d with
  | .party => fun r c => f r (c + w / 2)
  | .cut => fun r c => f (r + h / 2) c
  | .quartered => fun r c => (f r (c + w / 2)).or (f (r + h / 2) c)
def agree (x y : Option Co) : Prop := ∀ a b, x = some a → y = some b → a = b
def Du.lets (d : Du) (w h : Nat) (f : Pf) : Prop := match d with
  | .quartered => ∀ r c, r < h / 2 → c < w / 2 → agree (f r c) (f (r + h / 2) (c + w / 2)) ∧ agree (f r (c + w / 2)) (f (r + h / 2) c)
  | _ => True
theorem cell_at (d : Du) (a b : Tr) (w h r c i j : Nat) (hr : r < d.ph h) (hc : c < d.pw w) : (Tr.two d a b).cell w h (r + i * d.ph h) (c + j * d.pw w) = if (j + i) % 2 = 0 then a.cell (d.pw w) (d.ph h) r c else b.cell (d.pw w) (d.ph h) r c := by
  rw [Tr.cell, Nat.add_mul_div_right _ _ (by omega), Nat.add_mul_div_right _ _ (by omega), Nat.add_mul_mod_self_right, Nat.add_mul_mod_self_right, Nat.div_eq_of_lt hr, Nat.div_eq_of_lt hc, Nat.mod_eq_of_lt hr, Nat.mod_eq_of_lt hc, Nat.zero_add, Nat.zero_add]
theorem half_of {n : Nat} (s : Side n) (f : 2 ≤ n) : n = n / 2 + n / 2 ∧ 0 < n / 2 := by
  unfold Side at s
  omega
theorem or_some {x y : Option Co} {k : Co} (h : x.or y = some k) : x = some k ∨ y = some k := by
  cases x with
  | none => exact .inr h
  | some a => exact .inl h
theorem or_agree {x y : Option Co} {k : Co} (a : agree x y) (h : x = some k ∨ y = some k) : x.or y = some k := by
  cases x with
  | none =>
    rcases h with h | h
    · cases h
    · exact h
  | some z =>
    rcases h with h | h
    · exact h
    · rw [a z k rfl h]; rfl
theorem cov_party {a b : Tr} {w h : Nat} {f : Pf} (fit : 2 ≤ w) (sw : Side w) : Cov w h f (.two .party a b) ↔ Cov (w / 2) h f a ∧ Cov (w / 2) h (fun r c => f r (c + w / 2)) b := by
  obtain ⟨e, p⟩ := half_of sw fit
  have c0 : ∀ r c, r < h → c < w / 2 → (Tr.two .party a b).cell w h r c = a.cell (w / 2) h r c := fun r c hr hc => by
    have := cell_at .party a b w h r c 0 0 hr hc
    rw [Nat.zero_mul, Nat.zero_mul, Nat.add_zero, Nat.add_zero] at this
    exact this
  have c1 : ∀ r c, r < h → c < w / 2 → (Tr.two .party a b).cell w h r (c + w / 2) = b.cell (w / 2) h r c := fun r c hr hc => by
    have := cell_at .party a b w h r c 0 1 hr hc
    rw [Nat.zero_mul, Nat.one_mul, Nat.add_zero] at this
    exact this
  constructor
  · intro hc
    exact ⟨fun r c k h1 h2 e1 => by rw [← c0 r c h1 h2]; exact hc r c k h1 (by omega) e1, fun r c k h1 h2 e1 => by rw [← c1 r c h1 h2]; exact hc r _ k h1 (by omega) e1⟩
  · rintro ⟨ha, hb⟩ r c k h1 h2 e1
    by_cases l : c < w / 2
    · rw [c0 r c h1 l]; exact ha r c k h1 l e1
    · obtain ⟨z, rfl⟩ : ∃ z, c = z + w / 2 := ⟨c - w / 2, by omega⟩
      rw [c1 r z h1 (by omega)]; exact hb r z k h1 (by omega) e1
theorem cov_cut {a b : Tr} {w h : Nat} {f : Pf} (fit : 2 ≤ h) (sh : Side h) : Cov w h f (.two .cut a b) ↔ Cov w (h / 2) f a ∧ Cov w (h / 2) (fun r c => f (r + h / 2) c) b := by
  obtain ⟨e, p⟩ := half_of sh fit
  have c0 : ∀ r c, r < h / 2 → c < w → (Tr.two .cut a b).cell w h r c = a.cell w (h / 2) r c := fun r c hr hc => by
    have := cell_at .cut a b w h r c 0 0 hr hc
    rw [Nat.zero_mul, Nat.zero_mul, Nat.add_zero, Nat.add_zero] at this
    exact this
  have c1 : ∀ r c, r < h / 2 → c < w → (Tr.two .cut a b).cell w h (r + h / 2) c = b.cell w (h / 2) r c := fun r c hr hc => by
    have := cell_at .cut a b w h r c 1 0 hr hc
    rw [Nat.zero_mul, Nat.one_mul, Nat.add_zero] at this
    exact this
  constructor
  · intro hc
    exact ⟨fun r c k h1 h2 e1 => by rw [← c0 r c h1 h2]; exact hc r c k (by omega) h2 e1, fun r c k h1 h2 e1 => by rw [← c1 r c h1 h2]; exact hc _ c k (by omega) h2 e1⟩
  · rintro ⟨ha, hb⟩ r c k h1 h2 e1
    by_cases l : r < h / 2
    · rw [c0 r c l h2]; exact ha r c k l h2 e1
    · obtain ⟨z, rfl⟩ : ∃ z, r = z + h / 2 := ⟨r - h / 2, by omega⟩
      rw [c1 z c (by omega) h2]; exact hb z c k (by omega) h2 e1
theorem cov_quart {a b : Tr} {w h : Nat} {f : Pf} (fw : 2 ≤ w) (fh : 2 ≤ h) (sw : Side w) (sh : Side h) : Cov w h f (.two .quartered a b) ↔ Du.lets .quartered w h f ∧ Cov (w / 2) (h / 2) (Du.fa .quartered w h f) a ∧ Cov (w / 2) (h / 2) (Du.fb .quartered w h f) b := by
  obtain ⟨e, p⟩ := half_of sh fh
  obtain ⟨e', p'⟩ := half_of sw fw
  have c0 : ∀ r c, r < h / 2 → c < w / 2 → (Tr.two .quartered a b).cell w h r c = a.cell (w / 2) (h / 2) r c := fun r c hr hc => by
    have := cell_at .quartered a b w h r c 0 0 hr hc
    rw [Nat.zero_mul, Nat.zero_mul, Nat.add_zero, Nat.add_zero] at this
    exact this
  have c1 : ∀ r c, r < h / 2 → c < w / 2 → (Tr.two .quartered a b).cell w h (r + h / 2) c = b.cell (w / 2) (h / 2) r c := fun r c hr hc => by
    have := cell_at .quartered a b w h r c 1 0 hr hc
    rw [Nat.zero_mul, Nat.one_mul, Nat.add_zero] at this
    exact this
  have c2 : ∀ r c, r < h / 2 → c < w / 2 → (Tr.two .quartered a b).cell w h r (c + w / 2) = b.cell (w / 2) (h / 2) r c := fun r c hr hc => by
    have := cell_at .quartered a b w h r c 0 1 hr hc
    rw [Nat.zero_mul, Nat.one_mul, Nat.add_zero] at this
    exact this
  have c3 : ∀ r c, r < h / 2 → c < w / 2 → (Tr.two .quartered a b).cell w h (r + h / 2) (c + w / 2) = a.cell (w / 2) (h / 2) r c := fun r c hr hc => by
    have := cell_at .quartered a b w h r c 1 1 hr hc
    rw [Nat.one_mul, Nat.one_mul] at this
    exact this
  constructor
  · intro hc
    refine ⟨fun r c h1 h2 => ⟨fun x y ex ey => ?_, fun x y ex ey => ?_⟩, fun r c k h1 h2 e1 => ?_, fun r c k h1 h2 e1 => ?_⟩
    · rw [← hc _ _ x (by omega) (by omega) ex, ← hc _ _ y (by omega) (by omega) ey, c0 r c h1 h2, c3 r c h1 h2]
    · rw [← hc _ _ x (by omega) (by omega) ex, ← hc _ _ y (by omega) (by omega) ey, c2 r c h1 h2, c1 r c h1 h2]
    · rcases or_some e1 with e2 | e2
      · rw [← c0 r c h1 h2]; exact hc _ _ k (by omega) (by omega) e2
      · rw [← c3 r c h1 h2]; exact hc _ _ k (by omega) (by omega) e2
    · rcases or_some e1 with e2 | e2
      · rw [← c2 r c h1 h2]; exact hc _ _ k (by omega) (by omega) e2
      · rw [← c1 r c h1 h2]; exact hc _ _ k (by omega) (by omega) e2
  · rintro ⟨hl, ha, hb⟩ r c k h1 h2 e1
    by_cases l : r < h / 2
    · by_cases m : c < w / 2
      · rw [c0 r c l m]; exact ha r c k l m (or_agree (hl r c l m).1 (.inl e1))
      · obtain ⟨y, rfl⟩ : ∃ y, c = y + w / 2 := ⟨c - w / 2, by omega⟩
        rw [c2 r y l (by omega)]; exact hb r y k l (by omega) (or_agree (hl r y l (by omega)).2 (.inl e1))
    · obtain ⟨z, rfl⟩ : ∃ z, r = z + h / 2 := ⟨r - h / 2, by omega⟩
      by_cases m : c < w / 2
      · rw [c1 z c (by omega) m]; exact hb z c k (by omega) m (or_agree (hl z c (by omega) m).2 (.inr e1))
      · obtain ⟨y, rfl⟩ : ∃ y, c = y + w / 2 := ⟨c - w / 2, by omega⟩
        rw [c3 z y (by omega) (by omega)]; exact ha z y k (by omega) (by omega) (or_agree (hl z y (by omega) (by omega)).1 (.inr e1))
theorem cov_two {d : Du} {a b : Tr} {w h : Nat} {f : Pf} (fit : d.fits w h = true) (sw : Side w) (sh : Side h) : Cov w h f (.two d a b) ↔ d.lets w h f ∧ Cov (d.pw w) (d.ph h) (d.fa w h f) a ∧ Cov (d.pw w) (d.ph h) (d.fb w h f) b := by
  cases d with
  | party => exact (cov_party (of_decide_eq_true fit) sw).trans ⟨fun x => ⟨trivial, x⟩, fun x => x.2⟩
  | cut => exact (cov_cut (of_decide_eq_true fit) sh).trans ⟨fun x => ⟨trivial, x⟩, fun x => x.2⟩
  | quartered =>
    have fit : (decide (2 ≤ w) && decide (2 ≤ h)) = true := fit
    rw [Bool.and_eq_true] at fit
    exact cov_quart (of_decide_eq_true fit.1) (of_decide_eq_true fit.2) sw sh
/-! ### pieces -/
def blank (p : Pi) (w h : Nat) (f : Pf) : Pf := fun r c => if p.own w h r c = true then none else f r c
/-- the piece's own cells ask for a colour, and for this one alone -/
def Own1 (p : Pi) (w h : Nat) (f : Pf) (k : Co) : Prop := (∃ r c, r < h ∧ c < w ∧ p.own w h r c = true ∧ f r c = some k) ∧ ∀ r c k', r < h → c < w → p.own w h r c = true → f r c = some k' → k' = k
theorem cov_pc {p : Pi} {k : Co} {b : Tr} {w h : Nat} {f : Pf} : Cov w h f (.pc p k b) ↔ (∀ r c k', r < h → c < w → p.own w h r c = true → f r c = some k' → k' = k) ∧ Cov w h (blank p w h f) b := by
  constructor
  · intro hc
    refine ⟨fun r c k' h1 h2 o e => ?_, fun r c k' h1 h2 e => ?_⟩
    · have := hc r c k' h1 h2 e
      rw [Tr.cell, if_pos o] at this
      exact this.symm
    · unfold blank at e
      by_cases o : p.own w h r c = true
      · rw [if_pos o] at e; cases e
      · rw [if_neg o] at e
        have := hc r c k' h1 h2 e
        rw [Tr.cell, if_neg o] at this
        exact this
  · rintro ⟨h1, h2⟩ r c k' hr hc e
    rw [Tr.cell]
    by_cases o : p.own w h r c = true
    · rw [if_pos o]; exact (h1 r c k' hr hc o e).symm
    · rw [if_neg o]; exact h2 r c k' hr hc (by unfold blank; rw [if_neg o]; exact e)
/-! ### more colours than one -/
def Np (w h : Nat) (f : Pf) : Prop := ∃ r c k r' c' k', r < h ∧ c < w ∧ f r c = some k ∧ r' < h ∧ c' < w ∧ f r' c' = some k' ∧ k ≠ k'
theorem Np.no {w h : Nat} {f : Pf} (n : Np w h f) {t : Tr} (hc : Cov w h f t) {z : Co} (e : ∀ r c, t.cell w h r c = z) : False := by
  obtain ⟨r, c, k, r', c', k', h1, h2, e1, h3, h4, e2, ne⟩ := n
  exact ne (by rw [← hc r c k h1 h2 e1, ← hc r' c' k' h3 h4 e2, e, e])
structure Best (w h : Nat) (f : Pf) (F L : List Kw) : Prop where
  full : ∃ t : Tr, t.ok w h ∧ Cov w h f t ∧ t.kws = F
  fmin : ∀ t : Tr, t.ok w h → Cov w h f t → rle F t.kws
  last : ∃ t : Tr, t.ok w h ∧ Cov w h f t ∧ trimK t.kws = L
  lmin : ∀ t : Tr, t.ok w h → Cov w h f t → rle L (trimK t.kws)
theorem rle_anti {a b : List Kw} (h : rle a b) (k : rle b a) : a = b := sto_rk.le_anti k h
theorem Best.only {w h : Nat} {f : Pf} {F L F' L' : List Kw} (b : Best w h f F L) (b' : Best w h f F' L') : F = F' ∧ L = L' := by
  obtain ⟨t, o, c, e⟩ := b.full
  obtain ⟨t', o', c', e'⟩ := b'.full
  obtain ⟨u, p, d, g⟩ := b.last
  obtain ⟨u', p', d', g'⟩ := b'.last
  exact ⟨rle_anti (e' ▸ b.fmin t' o' c') (e ▸ b'.fmin t o c), rle_anti (g' ▸ b.lmin u' p' d') (g ▸ b'.lmin u p d)⟩
theorem Cov.congr {w h : Nat} {f g : Pf} (e : ∀ r c, r < h → c < w → f r c = g r c) {t : Tr} (c : Cov w h f t) : Cov w h g t := fun r x k h1 h2 ek => c r x k h1 h2 ((e r x h1 h2).trans ek)
theorem Best.congr {w h : Nat} {f g : Pf} {F L : List Kw} (e : ∀ r c, r < h → c < w → f r c = g r c) (b : Best w h f F L) : Best w h g F L where
  full := let ⟨t, o, c, q⟩ := b.full; ⟨t, o, c.congr e, q⟩
  fmin := fun t o c => b.fmin t o (c.congr fun r x h1 h2 => (e r x h1 h2).symm)
  last := let ⟨t, o, c, q⟩ := b.last; ⟨t, o, c.congr e, q⟩
  lmin := fun t o c => b.lmin t o (c.congr fun r x h1 h2 => (e r x h1 h2).symm)
/-! ### ways -/
inductive Wy | two (d : Du) | pc (p : Pi) (k : Co)
  deriving DecidableEq
def WyOk (w h : Nat) (f : Pf) : Wy → Prop
  | .two d => d.fits w h = true ∧ d.lets w h f
  | .pc p k => p.fits w h = true ∧ Own1 p w h f k
def Cand (w h : Nat) (f : Pf) : Wy → List Kw → List Kw → Prop
  | .two d, F, L => ∃ Fa La Fb Lb, Best (d.pw w) (d.ph h) (d.fa w h f) Fa La ∧ Best (d.pw w) (d.ph h) (d.fb w h f) Fb Lb ∧ F = .d d :: (Fa ++ Fb) ∧ L = .d d :: (if Lb = [] then La else Fa ++ Lb)
  | .pc p k, F, L => ∃ Fb Lb, Best w h (blank p w h f) Fb Lb ∧ F = .p p :: .c k :: Fb ∧ L = .p p :: .c k :: Lb
theorem trimK_ne {k : Kw} (h : k ≠ Kw.w) (l : List Kw) : trimK (k :: l) = k :: trimK l := by
  rw [trimK_cons]
  by_cases e : trimK l = []
  · rw [if_pos e, if_neg h, e]
  · rw [if_neg e]
theorem trim_two (d : Du) (a b : Tr) : trimK (Tr.two d a b).kws = .d d :: (if trimK b.kws = [] then trimK a.kws else a.kws ++ trimK b.kws) := by
  rw [Tr.kws, trimK_ne (fun e => by cases e), trimK_app]
theorem trim_pc (p : Pi) (k : Co) (b : Tr) : trimK (Tr.pc p k b).kws = .p p :: trimK (.c k :: b.kws) := by
  rw [Tr.kws, trimK_ne (fun e => by cases e)]
/-- that covers what is not plain: the piece's colour counts -/
theorem trim_np {p : Pi} {k : Co} {b : Tr} {w h : Nat} {f : Pf} (n : Np w h f) (c : Cov w h f (.pc p k b)) : trimK (Tr.pc p k b).kws = .p p :: .c k :: trimK b.kws := by
  rw [trim_pc, trimK_cons]
  by_cases e : trimK b.kws = []
  · rw [if_pos e]
    by_cases z : Kw.c k = Kw.w
    · exfalso
      have hb := Tr.white e
      cases z
      subst hb
      exact n.no c (z := .white) fun r x => by
        rw [Tr.cell]
        by_cases o : p.own w h r x = true
        · rw [if_pos o]
        · rw [if_neg o]; rfl
    · rw [if_neg z, e]
  · rw [if_neg e]
theorem rle_cons (k : Kw) {a b : List Kw} (h : rle a b) : rle (k :: a) (k :: b) := rle_app (rle_refl [k]) h
theorem best_ways {w h : Nat} {f : Pf} {F L : List Kw} (sw : Side w) (sh : Side h) (n : Np w h f) (cs : List (List Kw × List Kw)) (snd : ∀ c ∈ cs, ∃ y, WyOk w h f y ∧ Cand w h f y c.1 c.2) (cpl : ∀ y, WyOk w h f y → ∃ c ∈ cs, Cand w h f y c.1 c.2)
    (hF : ∃ c ∈ cs, c.1 = F) (mF : ∀ c ∈ cs, rle F c.1) (hL : ∃ c ∈ cs, c.2 = L) (mL : ∀ c ∈ cs, rle L c.2) : Best w h f F L where
  full := by
    obtain ⟨c, hc, rfl⟩ := hF
    obtain ⟨y, oy, cy⟩ := snd c hc
    cases y with
    | two d =>
      obtain ⟨Fa, La, Fb, Lb, ba, bb, e1, _⟩ := cy
      obtain ⟨ta, oa, ca, rfl⟩ := ba.full
      obtain ⟨tb, ob, cb, rfl⟩ := bb.full
      exact ⟨.two d ta tb, ⟨oy.1, oa, ob⟩, (cov_two oy.1 sw sh).mpr ⟨oy.2, ca, cb⟩, e1.symm⟩
    | pc p k =>
      obtain ⟨Fb, Lb, bb, e1, _⟩ := cy
      obtain ⟨tb, ob, cb, rfl⟩ := bb.full
      exact ⟨.pc p k tb, ⟨oy.1, ob⟩, cov_pc.mpr ⟨oy.2.2, cb⟩, e1.symm⟩
  fmin := by
    intro t
    induction t with
    | col k => exact fun o c => absurd (n.no c (z := k) fun _ _ => rfl) id
    | two d a b _ _ =>
      intro o c
      obtain ⟨hl, ca, cb⟩ := (cov_two o.1 sw sh).mp c
      obtain ⟨q, hq, Fa, La, Fb, Lb, ba, bb, e1, _⟩ := cpl (.two d) ⟨o.1, hl⟩
      refine rle_trans (mF q hq) ?_
      rw [e1]
      exact rle_cons _ (rle_app (ba.fmin a o.2.1 ca) (bb.fmin b o.2.2 cb))
    | pc p k b ih =>
      intro o c
      obtain ⟨h1, cb⟩ := cov_pc.mp c
      by_cases ex : ∃ r x k', r < h ∧ x < w ∧ p.own w h r x = true ∧ f r x = some k'
      · obtain ⟨r, x, k', hr, hx, ho, e⟩ := ex
        have ek := h1 r x k' hr hx ho e
        subst ek
        obtain ⟨q, hq, Fb, Lb, bb, e1, _⟩ := cpl (.pc p k') ⟨o.1, ⟨r, x, hr, hx, ho, e⟩, h1⟩
        refine rle_trans (mF q hq) ?_
        rw [e1]
        exact rle_cons _ (rle_cons _ (bb.fmin b o.2 cb))
      · have cf : Cov w h f b := cb.congr fun r x hr hx => by
          unfold blank
          by_cases ho : p.own w h r x = true
          · rw [if_pos ho]
            cases e : f r x with
            | none => rfl
            | some k' => exact absurd ⟨r, x, k', hr, hx, ho, e⟩ ex
          · rw [if_neg ho]
        exact rle_trans (ih o.2 cf) (rle_of_len (by rw [Tr.kws, List.length_cons, List.length_cons]; omega))
  last := by
    obtain ⟨c, hc, rfl⟩ := hL
    obtain ⟨y, oy, cy⟩ := snd c hc
    cases y with
    | two d =>
      obtain ⟨Fa, La, Fb, Lb, ba, bb, _, e1⟩ := cy
      obtain ⟨tb, ob, cb, eb⟩ := bb.last
      by_cases z : Lb = []
      · rw [if_pos z] at e1
        obtain ⟨ta, oa, ca, ea⟩ := ba.last
        refine ⟨.two d ta tb, ⟨oy.1, oa, ob⟩, (cov_two oy.1 sw sh).mpr ⟨oy.2, ca, cb⟩, ?_⟩
        rw [e1, trim_two, eb, if_pos z, ea]
      · rw [if_neg z] at e1
        obtain ⟨ta, oa, ca, ea⟩ := ba.full
        refine ⟨.two d ta tb, ⟨oy.1, oa, ob⟩, (cov_two oy.1 sw sh).mpr ⟨oy.2, ca, cb⟩, ?_⟩
        rw [e1, trim_two, eb, if_neg z, ea]
    | pc p k =>
      obtain ⟨Fb, Lb, bb, _, e1⟩ := cy
      obtain ⟨tb, ob, cb, eb⟩ := bb.last
      have cv : Cov w h f (.pc p k tb) := cov_pc.mpr ⟨oy.2.2, cb⟩
      exact ⟨.pc p k tb, ⟨oy.1, ob⟩, cv, by rw [trim_np n cv, eb, e1]⟩
  lmin := by
    intro t
    induction t with
    | col k => exact fun o c => absurd (n.no c (z := k) fun _ _ => rfl) id
    | two d a b _ _ =>
      intro o c
      obtain ⟨hl, ca, cb⟩ := (cov_two o.1 sw sh).mp c
      obtain ⟨q, hq, Fa, La, Fb, Lb, ba, bb, _, e1⟩ := cpl (.two d) ⟨o.1, hl⟩
      refine rle_trans (mL q hq) ?_
      have la := ba.lmin a o.2.1 ca
      have lb := bb.lmin b o.2.2 cb
      rw [e1, trim_two]
      refine rle_cons _ ?_
      by_cases z : trimK b.kws = []
      · rw [z] at lb
        rw [if_pos z, if_pos (nil_rle lb)]
        exact la
      · rw [if_neg z]
        by_cases y : Lb = []
        · rw [if_pos y]
          have := rle_len la
          have := trimK_len a.kws
          have : 0 < (trimK b.kws).length := List.length_pos_iff.mpr z
          exact rle_of_len (by rw [List.length_append]; omega)
        · rw [if_neg y]
          exact rle_app (ba.fmin a o.2.1 ca) lb
    | pc p k b ih =>
      intro o c
      obtain ⟨h1, cb⟩ := cov_pc.mp c
      by_cases ex : ∃ r x k', r < h ∧ x < w ∧ p.own w h r x = true ∧ f r x = some k'
      · obtain ⟨r, x, k', hr, hx, ho, e⟩ := ex
        have ek := h1 r x k' hr hx ho e
        subst ek
        obtain ⟨q, hq, Fb, Lb, bb, _, e1⟩ := cpl (.pc p k') ⟨o.1, ⟨r, x, hr, hx, ho, e⟩, h1⟩
        refine rle_trans (mL q hq) ?_
        rw [e1, trim_np n c]
        exact rle_cons _ (rle_cons _ (bb.lmin b o.2 cb))
      · have cf : Cov w h f b := cb.congr fun r x hr hx => by
          unfold blank
          by_cases ho : p.own w h r x = true
          · rw [if_pos ho]
            cases e : f r x with
            | none => rfl
            | some k' => exact absurd ⟨r, x, k', hr, hx, ho, e⟩ ex
          · rw [if_neg ho]
        refine rle_trans (ih o.2 cf) (rle_of_len ?_)
        rw [trim_np n c, List.length_cons, List.length_cons]
        omega
/-! ### one colour at the most -/
theorem kw_black (c : Co) : rle [.c .black] [.c c] := by
  unfold rle
  cases c <;> decide +kernel
theorem trimK_one (k : Kw) : trimK [k] = if k = Kw.w then [] else [k] := (trimK_cons k []).trans (if_pos rfl)
theorem cov_none {w h : Nat} {f : Pf} (e : ∀ r c, r < h → c < w → f r c = none) (t : Tr) : Cov w h f t := fun r c k h1 h2 e1 => by rw [e r c h1 h2] at e1; cases e1
theorem best_none {w h : Nat} {f : Pf} (e : ∀ r c, r < h → c < w → f r c = none) : Best w h f [.c .black] [] where
  full := ⟨.col .black, trivial, cov_none e _, rfl⟩
  fmin := fun t _ _ => by
    cases t with
    | col c => exact kw_black c
    | two d a b => exact rle_of_len (by have := a.kws_pos; simp only [Tr.kws, List.length_cons, List.length_append, List.length_nil]; omega)
    | pc p c b => exact rle_of_len (by simp only [Tr.kws, List.length_cons, List.length_nil]; omega)
  last := ⟨.col .white, trivial, cov_none e _, rfl⟩
  lmin := fun t _ _ => rle_nil _
theorem white_all : ∀ {t : Tr} (w h r c : Nat), trimK t.kws = [] → t.cell w h r c = .white := fun w h r c e => by rw [Tr.white e]; rfl
theorem best_one {w h : Nat} {f : Pf} {k : Co} (ex : ∃ r c, r < h ∧ c < w ∧ f r c = some k) (e : ∀ r c k', r < h → c < w → f r c = some k' → k' = k) : Best w h f [.c k] (if k = .white then [] else [.c k]) := by
  have ck : Cov w h f (.col k) := fun r c k' h1 h2 e1 => (e r c k' h1 h2 e1).symm
  obtain ⟨r0, c0, hr0, hc0, e0⟩ := ex
  have one : ∀ t : Tr, t.kws.length = 1 → Cov w h f t → t = .col k := fun t l c => by
    cases t with
    | col z => rw [show z = k from c r0 c0 k hr0 hc0 e0]
    | two d a b => rw [Tr.kws, List.length_cons, List.length_append] at l; have := a.kws_pos; omega
    | pc p z b => rw [Tr.kws, List.length_cons, List.length_cons] at l; omega
  refine ⟨⟨.col k, trivial, ck, rfl⟩, fun t _ c => ?_, ⟨.col k, trivial, ck, ?_⟩, fun t _ c => ?_⟩
  · by_cases l : t.kws.length = 1
    · rw [one t l c]; exact rle_refl _
    · have := t.kws_pos
      exact rle_of_len (by rw [List.length_singleton]; omega)
  · show trimK [.c k] = _
    rw [trimK_one]
    by_cases z : k = .white
    · rw [if_pos z, if_pos (by rw [z]; rfl)]
    · rw [if_neg z, if_neg (fun q => z (by cases q; rfl))]
  · by_cases z : k = .white
    · rw [if_pos z]; exact rle_nil _
    · rw [if_neg z]
      by_cases l : (trimK t.kws).length ≤ 1
      · have ne : trimK t.kws ≠ [] := fun q => z (by rw [← c r0 c0 k hr0 hc0 e0]; exact white_all w h r0 c0 q)
        cases t with
        | col y =>
          rw [show y = k from c r0 c0 k hr0 hc0 e0]
          show rle [.c k] (trimK [.c k])
          rw [trimK_one, if_neg (fun q => z (by cases q; rfl))]
          exact rle_refl _
        | two d a b =>
          exfalso
          rw [trim_two, List.length_cons] at l
          by_cases y : trimK b.kws = []
          · rw [if_pos y] at l
            have ea : trimK a.kws = [] := List.length_eq_zero_iff.mp (by omega)
            refine z ?_
            rw [← c r0 c0 k hr0 hc0 e0, Tr.cell, white_all _ _ _ _ ea, white_all _ _ _ _ y]
            split <;> rfl
          · rw [if_neg y, List.length_append] at l
            have := a.kws_pos
            omega
        | pc p y b =>
          exfalso
          rw [trim_pc, List.length_cons] at l
          have eb : trimK (.c y :: b.kws) = [] := List.length_eq_zero_iff.mp (by omega)
          have all := trimK_nil eb
          have hy : Kw.c y = Kw.w := all _ List.mem_cons_self
          cases hy
          refine z ?_
          rw [← c r0 c0 k hr0 hc0 e0, Tr.cell, white_all _ _ _ _ (trimK_all fun k m => all k (List.mem_cons_of_mem _ m))]
          split <;> rfl
      · exact rle_of_len (by rw [List.length_singleton]; omega)
/-! ### cells of a patch as data -/
def oS : Option Co → Str | none => "" | some c => c.s
def dCel (o : Option Co) : PyData := .str (oS o)
theorem dat_cel : Dat dCel 0 := ⟨fun x y => by
    rcases x with _ | x
    · rcases y with _ | y
      · decide +kernel
      · cases y <;> decide +kernel
    · rcases y with _ | y
      · cases x <;> decide +kernel
      · cases x <;> cases y <;> decide +kernel, fun x => by
    rcases x with _ | x
    · decide +kernel
    · cases x <;> decide +kernel, fun x => by unfold dCel; rw [PyData.depth]; exact Nat.le_refl _, fun _ => rfl⟩
theorem atI_last {α : Type} (xs : List α) (x : α) : atI (xs ++ [x]) (-1) = some x := by
  unfold atI ixN
  rw [if_neg (by decide), if_pos (by rw [List.length_append, List.length_singleton]; omega), List.length_append, List.length_singleton, show (-1 + ((xs.length + 1 : Nat) : Int)).toNat = xs.length by omega]
  simp

/-! # list(zip(a tuple, a tuple)); patches as data -/
def rListZipT (K : PySem.W.Frag) : List V → Hp → VK → Prop := fun vs H Q => ∃ (a b : Addr) (xs ys : List V), vs = [.ref a, .ref b] ∧ SqT K H a xs ∧ SqT K H b ys ∧ xs.length = ys.length ∧ 1 ≤ xs.length ∧ xs.length ≤ 100000 ∧
  ∀ (H' : Hp) (D : Addr) (ts : List Addr), Same H H' → H D = none → H' D = some (.lst (ts.map V.ref)) → ts.length = xs.length →
    (∀ (j : Nat) (t : Addr), ts[j]? = some t → ∃ x y, xs[j]? = some x ∧ ys[j]? = some y ∧ H' t = some (.tup [x, y])) → Q (.ref D) H'
/-- list(zip(a tuple, a tuple)) -/
theorem pe_listZipT {X : Cx} {e1 e2 : Expr} {ta : TA} {p1 p2 pos pos2 : Pos} (calm : X.calm = true) (hg : Gl X "list") (hm : X.mg "list" = none) (hg2 : Gl X "zip") (hm2 : X.mg "zip" = none) (ha : PA X [e1, e2] ta)
    (plain2 : starEach [e1, e2] X.env = (false, eval e1 X.env) :: starEach [e2] X.env := by rfl) (rest2 : (backTo pos2 (starEach [e2] X.env)).any (·.1) = false := by rfl)
    (plain : starEach [.Call (.Name "zip" p2) [e1, e2] [] pos2] X.env = (false, eval (.Call (.Name "zip" p2) [e1, e2] [] pos2) X.env) :: starEach [] X.env := by rfl) :
    PE X (.Call (.Name "list" p1) [.Call (.Name "zip" p2) [e1, e2] [] pos2] [] pos) (tCB (rListZipT X.K) ta) := by
  refine ⟨fun pins s σ H Q I want => ?_⟩
  refine wpAny_Call_Name_kw (ld_blt (u := .type "list") I hg hm (by decide +kernel) ?_)
  refine PyProof.Rows.callWith_type1 ?_ plain rfl
  rw [plain]
  show wpAny _ _ (spliced ((false, eval (.Call (.Name "zip" p2) [e1, e2] [] pos2) X.env) ::
    backTo pos (starEach [] X.env))) _ _ s
  refine Calls.spliced_cons ?_
  refine Call_ (ld_blt I hg2 hm2 boot_zip (PyProof.Rows.callWith_type1 (thn (ha.run pos2 pins s σ H _ I want) fun us s1 got => ?_) plain2 rest2))
  obtain ⟨vs, H1, I1, rel, a, b, xs, ys, rfl, hx, hy, leq, some1, few, k⟩ := got
  cases rel with | cons r1 rel => cases rel with | cons r2 rel =>
  cases rel
  cases r1
  cases r2
  obtain ⟨its, rv, tupA, _⟩ := I1.tuple hx
  obtain ⟨its2, rv2, tup, _⟩ := I1.tuple hy
  have len1 := rv.length
  have len2 := rv2.length
  have lowA : a < s1.heap.objs.size := by
    obtain ⟨o, z, _⟩ := tupA
    exact Heap.lt_size z
  have lowB : b < s1.heap.objs.size := by
    obtain ⟨o, z, _⟩ := tup
    exact Heap.lt_size z
  refine zip_begins2 (begins_tuple a its.toArray) (begins_tuple b its2.toArray) tupA tup fun h1 hz hTI hTO g1 g2 size1 kept1 => ?_
  refine Calls.spliced_nil ?_
  have hot := I1.ok.hd calm
  have Z := zip_sep2 (N := s1.heap.objs.size) (fp1 := [a]) (fp2 := [b]) (fun c hc => by rw [List.mem_singleton.mp hc]; exact lowA) (fun c hc => by rw [List.mem_singleton.mp hc]; exact lowB)
  have D1 := Draws.tuple (prog := X.prog) (w := X.w) (A := X.A.in1.in1.in1) hot s1.heap.objs.size a (Nat.ne_of_lt lowA) its.toArray
  have D2 := Draws.tuple (prog := X.prog) (w := X.w) (A := X.A.in1.in1.in1) hot (s1.heap.objs.size + 1) b (Nat.ne_of_lt (Nat.lt_succ_of_lt lowB)) its2.toArray
  have sz1 : its.toArray.size = xs.length := by rw [List.size_toArray, len1]
  have sz2 : its2.toArray.size = xs.length := by rw [List.size_toArray, leq, len2]
  rw [sz1] at D1
  rw [sz2] at D2
  refine list_of_zip (s := { s1 with heap := h1 }) (A := X.A) Z D1 D2 ?_ ?_ ?_ (le_line few) some1 hz hTI hTO ⟨⟨_, g1, rfl, rfl⟩, ?_⟩ ⟨⟨_, g2, rfl, rfl⟩, ?_⟩ ?_
  · show _ < h1.objs.size ∧ _ < h1.objs.size ∧ _ < h1.objs.size ∧ _ < h1.objs.size ∧ _ < h1.objs.size
    rw [size1]
    exact ⟨by omega, by omega, by omega, by omega, by omega⟩
  · intro c hc
    show c < h1.objs.size
    rw [size1]
    rcases List.mem_cons.mp hc with e | hc
    · rw [e]; exact Nat.lt_add_of_pos_right (by decide)
    · rw [List.mem_singleton.mp hc]; exact Nat.lt_add_right 5 lowA
  · intro c hc
    show c < h1.objs.size
    rw [size1]
    rcases List.mem_cons.mp hc with e | hc
    · rw [e]; exact Nat.add_lt_add_left (by decide) _
    · rw [List.mem_singleton.mp hc]; exact Nat.lt_add_right 5 lowB
  · obtain ⟨o, q1, q2⟩ := tupA
    exact ⟨o, kept1 _ _ q1, q2⟩
  · obtain ⟨o, q1, q2⟩ := tup
    exact ⟨o, kept1 _ _ q1, q2⟩
  · intro h' tk acc c as kept hD hl pairs hacc
    replace kept : ∀ (b : Addr) o, b ≠ s1.heap.objs.size + 4 → b ≠ s1.heap.objs.size + 3 → b ≠ s1.heap.objs.size → b ≠ s1.heap.objs.size + 1 → h1.get? b = some o → h'.get? b = some o := kept
    replace hD : h'.get? h1.objs.size = _ := hD
    have pairs : PairsAt _ _ (h1.objs.size + 1) h' as := pairs
    have keptAll : ∀ b o, s1.heap.get? b = some o → h'.get? b = some o := fun b o q => by
      have low := Heap.lt_size q
      exact kept b o (Nat.ne_of_lt (Nat.lt_add_right 4 low)) (Nat.ne_of_lt (Nat.lt_add_right 3 low)) (Nat.ne_of_lt low) (Nat.ne_of_lt (Nat.lt_succ_of_lt low)) (kept1 b o q)
    have high : ∀ t ∈ as, s1.heap.objs.size ≤ t ∧ h1.objs.size < t := fun t ht => by
      have q := pairs.above t ht
      exact ⟨Nat.le_trans (by rw [size1]; exact Nat.le_trans (Nat.le_add_right _ 5) (Nat.le_succ _)) q, q⟩
    have nd : as.Nodup := List.Pairwise.imp (fun {a b} (h : a < b) => Nat.ne_of_lt h) pairs.rise
    have newD : H1 h1.objs.size = none := I1.hok.fresh (by rw [size1]; exact Nat.le_add_right _ _)
    have newT : ∀ t ∈ as, H1 t = none := fun t ht => I1.hok.fresh (high t ht).1
    have offD : h1.objs.size ∉ as := fun z => Nat.lt_irrefl _ (high _ z).2
    have lz : (xs.zip ys).length = xs.length := by rw [List.length_zip, leq, Nat.min_self]
    have at_ := putP_at as (xs.zip ys) (upd H1 h1.objs.size (.lst (as.map V.ref))) (by rw [hl, lz]) nd
    have off : ∀ b, b ∉ as → b ≠ h1.objs.size → putP (upd H1 h1.objs.size (.lst (as.map V.ref))) as (xs.zip ys) b = H1 b := fun b q1 q2 => by rw [putP_off as _ _ q1, upd_ne q2]
    have onD : putP (upd H1 h1.objs.size (.lst (as.map V.ref))) as (xs.zip ys) h1.objs.size = some (.lst (as.map V.ref)) := by rw [putP_off as _ _ offD, upd_same]
    have same : Same H1 (putP (upd H1 h1.objs.size (.lst (as.map V.ref))) as (xs.zip ys)) := fun b o q => by
      rw [off b (fun z => by rw [newT b z] at q; cases q) (fun z => by rw [z, newD] at q; cases q)]
      exact q
    have tell : ∀ (j : Nat) (t : Addr), as[j]? = some t → ∃ x y u v, xs[j]? = some x ∧ ys[j]? = some y ∧ RelV x u ∧ RelV y v ∧ h'.get? t = some { cls := .type "tuple", data := .seq #[u, v] } := fun j t q => by
      obtain ⟨u, v, hu, hv, ht⟩ := pairs.pair j t q
      have lt : j < xs.length := by
        have := (List.getElem?_eq_some_iff.mp q).1
        omega
      have gx : xs[j]? = some xs[j] := List.getElem?_eq_getElem lt
      have gy : ys[j]? = some ys[j] := List.getElem?_eq_getElem (by omega)
      obtain ⟨u', hu', ru⟩ := rv.get gx
      obtain ⟨v', hv', rv'⟩ := rv2.get gy
      rw [List.getElem?_toArray, hu'] at hu
      rw [List.getElem?_toArray, hv'] at hv
      cases hu
      cases hv
      exact ⟨_, _, _, _, gx, gy, ru, rv', ht⟩
    have zipAt : ∀ (j : Nat) (x y : V), xs[j]? = some x → ys[j]? = some y → (xs.zip ys)[j]? = some (x, y) := fun j x y q1 q2 => by
      rw [List.getElem?_zip_eq_some]
      exact ⟨q1, q2⟩
    have J := laidAll (tk := tk) I1 keptAll same (fun b o q n => by
        have low := Heap.lt_size q
        rw [off b (fun z => Nat.lt_irrefl _ (Nat.lt_of_lt_of_le low (high b z).1)) (Nat.ne_of_lt (by rw [size1]; exact Nat.lt_add_right 5 low))]
        exact n)
      fun b u q n => by
        by_cases hb : b ∈ as
        · obtain ⟨j, hj⟩ := List.mem_iff_getElem?.mp hb
          obtain ⟨x, y, u', v', q1, q2, r1, r2, q3⟩ := tell j b hj
          have e := at_ j b (x, y) hj (zipAt j x y q1 q2)
          rw [e] at q
          cases q
          exact ⟨Nat.le_of_ble_eq_true rfl, [u', v'], .cons r1 (.cons r2 .nil), ⟨_, q3, rfl, _, rfl⟩⟩
        · by_cases hb2 : b = h1.objs.size
          · subst hb2
            rw [onD] at q
            cases q
            refine ⟨by rw [List.length_map, hl]; exact le_line few, acc.toList, c, by rw [hacc]; exact refs_vals as, ?_⟩
            rw [Array.toArray_toList]
            exact hD
          · rw [off b hb hb2, n] at q
            cases q
    refine ⟨.ref h1.objs.size, _, J, rfl, k _ _ as same newD onD hl fun j t q => ?_⟩
    obtain ⟨x, y, u, v, q1, q2, _, _, _⟩ := tell j t q
    exact ⟨x, y, q1, q2, at_ j t (x, y) q (zipAt j x y q1 q2)⟩

theorem k_listZipT {X : Cx} (K : PySem.W.Frag) {e1 e2 : Expr} {ta : TA} {p1 p2 pos pos2 : Pos} (calm : X.calm = true) (hg : Gl X "list") (hm : X.mg "list" = none) (hg2 : Gl X "zip") (hm2 : X.mg "zip" = none) (ha : PA X [e1, e2] ta) (hK : X.K = K := by rfl)
    (plain2 : starEach [e1, e2] X.env = (false, eval e1 X.env) :: starEach [e2] X.env := by rfl) (rest2 : (backTo pos2 (starEach [e2] X.env)).any (·.1) = false := by rfl)
    (plain : starEach [.Call (.Name "zip" p2) [e1, e2] [] pos2] X.env = (false, eval (.Call (.Name "zip" p2) [e1, e2] [] pos2) X.env) :: starEach [] X.env := by rfl) :
    PE X (.Call (.Name "list" p1) [.Call (.Name "zip" p2) [e1, e2] [] pos2] [] pos) (tCB (rListZipT K) ta) := by
  subst hK
  exact pe_listZipT calm hg hm hg2 hm2 ha plain2 rest2 plain
def pairD (xs ys : List PyData) : List PyData := List.zipWith (fun x y => PyData.tuple [x, y]) xs ys
def aListZipT : ABl := fun vs Φ => ∃ x y xs ys, vs = [x, y] ∧ x.dat = .tuple xs ∧ y.dat = .tuple ys ∧ immAll xs = true ∧ immAll ys = true ∧ xs.length = ys.length ∧ 1 ≤ xs.length ∧ xs.length ≤ 100000 ∧ Φ (.l true (pairD xs ys))
section
variable {K : PySem.W.Frag} {ec : EC} {F : Fr K ec}
theorem imm_pairD : ∀ {xs ys : List PyData}, immAll xs = true → immAll ys = true → immAll (pairD xs ys) = true
  | [], _, _, _ => rfl
  | _ :: _, [], _, _ => rfl
  | x :: xs, y :: ys, h1, h2 => by
    rw [immAll, Bool.and_eq_true] at h1 h2
    show immAll (PyData.tuple [x, y] :: pairD xs ys) = true
    rw [immAll, imm_pairD h1.2 h2.2, imm, immAll, immAll, immAll, h1.1, h2.1]
    rfl
theorem pairD_dp {H : Hp} : ∀ {ts : List Addr} {vs us : List V} {xs ys : List PyData}, DpAll K H vs xs → DpAll K H us ys → ts.length = vs.length → vs.length = us.length →
    (∀ (j : Nat) (t : Addr), ts[j]? = some t → ∃ x y, vs[j]? = some x ∧ us[j]? = some y ∧ H t = some (.tup [x, y])) → DpAll K H (ts.map V.ref) (pairD xs ys)
  | [], [], [], _, _, .nil, .nil, _, _, _ => .nil
  | t :: ts, v :: vs, u :: us, _, _, .cons h1 r1, .cons h2 r2, l1, l2, at_ => by
    obtain ⟨x, y, e1, e2, e3⟩ := at_ 0 t rfl
    cases e1
    cases e2
    exact .cons (L2.Dp.tup (SqT.of e3) (.cons h1 (.cons h2 .nil))) (pairD_dp r1 r2 (Nat.succ.inj l1) (Nat.succ.inj l2) fun j t e => at_ (j + 1) t e)
  | [], _ :: _, _, _, _, _, _, l1, _, _ => by simp at l1
  | _ :: _, [], _, _, _, _, _, l1, _, _ => by simp at l1
  | [], [], _ :: _, _, _, _, _, _, l2, _ => by simp at l2
  | _ :: _, _ :: _, [], _, _, _, _, _, l2, _ => by simp at l2
instance : SB F (rListZipT K) aListZipT where
  snd := fun Z ρ σ He H xs axs Φ Q o rx ⟨x, y, es, fs, e, e1, e2, i1, i2, l, some1, few, q⟩ k => by
    subst e
    cases rx with | cons r t =>
    cases t with | cons r2 t =>
    cases t
    obtain ⟨a, vs, rfl, h1, d1⟩ := r.tup o.row e1
    obtain ⟨b, us, rfl, h2, d2⟩ := r2.tup o.row e2
    have lv := dpAll_len d1
    have lu := dpAll_len d2
    refine ⟨a, b, vs, us, rfl, h1, h2, by omega, by omega, by omega, fun H' D ts s nD eD lt at_ => ?_⟩
    have st := step_same o s
    exact k _ _ H' Z q st ⟨D, _, rfl, row_ne o nD, h0_free o nD, z_free o nD, fun _ => nD, eD, imm_vwAll st.row (imm_pairD i1 i2) (pairD_dp (DpAll.imm s d1) (DpAll.imm s d2) lt (by omega) at_)⟩
end
theorem wListZipT {Φ : AV → Prop} {x y : AV} {xs ys : List PyData} (e1 : x.dat = .tuple xs) (e2 : y.dat = .tuple ys) (i1 : immAll xs = true) (i2 : immAll ys = true) (l : xs.length = ys.length) (s : 1 ≤ xs.length) (f : xs.length ≤ 100000) (h : Φ (.l true (pairD xs ys))) : aListZipT [x, y] Φ :=
  ⟨x, y, xs, ys, rfl, e1, e2, i1, i2, l, s, f, h⟩
/-! ### patches as data -/
def pg (w h : Nat) (f : Pf) : List (List (Option Co)) := (List.range h).map fun r => (List.range w).map fun c => f r c
def dPrw (r : List (Option Co)) : PyData := .tuple (r.map dCel)
def dPat (rs : List (List (Option Co))) : PyData := .tuple (rs.map dPrw)
def dP (w h : Nat) (f : Pf) : PyData := dPat (pg w h f)
theorem dat_prw : Dat dPrw 1 := dat_cel.tup
theorem dat_pat : Dat dPat 2 := dat_prw.tup
theorem imm_prw (r : List (Option Co)) : imm (dPrw r) = true := dat_prw.im r
theorem imm_pat (rs : List (List (Option Co))) : imm (dPat rs) = true := dat_pat.im rs
theorem imm_p (w h : Nat) (f : Pf) : imm (dP w h f) = true := imm_pat _
theorem pg_len (w h : Nat) (f : Pf) : (pg w h f).length = h := by unfold pg; rw [List.length_map, List.length_range]
theorem pg_get {w h r : Nat} {f : Pf} (hr : r < h) : (pg w h f)[r]? = some ((List.range w).map fun c => f r c) := by
  unfold pg
  rw [List.getElem?_map, List.getElem?_range hr]
  rfl
theorem pg_row {w h : Nat} {f : Pf} {r : List (Option Co)} (m : r ∈ pg w h f) : r.length = w := by
  obtain ⟨i, _, rfl⟩ := List.mem_map.mp m
  rw [List.length_map, List.length_range]
theorem rows_p (w h : Nat) (f : Nat → Nat → Co) : dRows (grid w h f) = dP w h (fun r c => some (f r c)) := by
  unfold dP dPat pg dRows grid
  rw [List.map_map, List.map_map]
  congr 1
  refine List.map_congr_left fun r _ => ?_
  show dRow _ = dPrw _
  unfold dRow dPrw
  rw [List.map_map, List.map_map]
  rfl
theorem pg_congr {w h : Nat} {f g : Pf} (e : ∀ r c, r < h → c < w → f r c = g r c) : pg w h f = pg w h g := by
  unfold pg
  exact List.map_congr_left fun r hr => List.map_congr_left fun c hc => e r c (List.mem_range.mp hr) (List.mem_range.mp hc)
theorem pg_inj {w h w' h' : Nat} {f g : Pf} (pos : 0 < h) (e : pg w h f = pg w' h' g) : w = w' ∧ h = h' ∧ ∀ r c, r < h → c < w → f r c = g r c := by
  have eh : h = h' := by rw [← pg_len w h f, e, pg_len]
  subst eh
  have row : ∀ r, r < h → ((List.range w).map fun c => f r c) = (List.range w').map fun c => g r c := fun r hr => by
    have := congrArg (fun l => l[r]?) e
    have this : (pg w h f)[r]? = (pg w' h g)[r]? := this
    rw [pg_get hr, pg_get hr] at this
    exact Option.some.inj this
  have ew : w = w' := by
    have := congrArg List.length (row 0 pos)
    rwa [List.length_map, List.length_range, List.length_map, List.length_range] at this
  subst ew
  refine ⟨rfl, rfl, fun r c hr hc => ?_⟩
  have := congrArg (fun l => l[c]?) (row r hr)
  simpa [hc] using this
theorem enumP_rng (g : Nat → PyData) (sub : PyData → AV) (im : ∀ a, sub (g a) = .d (g a)) (n : Nat) : enumP sub 0 ((List.range n).map g) = (List.range n).map fun i => AV.d (.tuple [.int (i : Nat), g i]) := by
  refine List.ext_getElem? fun i => ?_
  by_cases lt : i < n
  · rw [enumP_get (x := g i) (by rw [List.getElem?_map, List.getElem?_range lt]; rfl), List.getElem?_map, List.getElem?_range lt, Nat.zero_add, im]
    rfl
  · rw [List.getElem?_eq_none (by rw [enumP_len, List.length_map, List.length_range]; omega), List.getElem?_eq_none (by rw [List.length_map, List.length_range]; omega)]
/-- the first i rows -/
theorem pg_take {w h i : Nat} {f : Pf} (hi : i < h) : ((pg w h f).take (i + 1)).map dPrw = ((pg w h f).take i).map dPrw ++ [dPrw ((List.range w).map fun c => f i c)] := by
  rw [take_next (pg_get hi), List.map_append]
  rfl
theorem prw_rng (w : Nat) (f : Nat → Option Co) : dPrw ((List.range w).map f) = .tuple ((List.range w).map fun c => dCel (f c)) := by
  unfold dPrw
  rw [List.map_map]
  rfl
/-! ### ways as data -/
def Wy.kw : Wy → Kw | .two d => .d d | .pc p _ => .p p
def dWy (w h : Nat) (f : Pf) : Wy → PyData
  | .two d => .tuple [.tuple [.str d.s], .tuple [dP (d.pw w) (d.ph h) (d.fa w h f), dP (d.pw w) (d.ph h) (d.fb w h f)]]
  | .pc p k => .tuple [.tuple [.str p.s, .str k.s], .tuple [dP w h (blank p w h f)]]
theorem imm_wy (w h : Nat) (f : Pf) (y : Wy) : imm (dWy w h f y) = true := by
  cases y <;> simp [dWy, imm, immAll, imm_p]
def kwL : List Kw := [.d .party, .d .cut, .d .quartered, .p .pillar, .p .band, .p .head, .p .edge]
/-- whether two cells ask for two colours -/
def clashC : Option Co → Option Co → Bool
  | some a, some b => !decide (a = b)
  | _, _ => false
theorem agree_clash {x y : Option Co} : agree x y ↔ clashC x y = false := by
  cases x with
  | none => exact ⟨fun _ => rfl, fun _ a b e => by cases e⟩
  | some a =>
    cases y with
    | none => exact ⟨fun _ => rfl, fun _ a b _ e => by cases e⟩
    | some b =>
      unfold clashC
      constructor
      · intro h
        rw [h a b rfl rfl]
        simp
      · intro h x y ex ey
        cases ex
        cases ey
        simpa using h
theorem inV_any (x y : Option Co) : inV (V.str "") [V.str (oS x), V.str (oS y)] = (x.isNone || y.isNone) := by
  rcases x with _ | x
  · rcases y with _ | y
    · decide +kernel
    · cases y <;> decide +kernel
  · rcases y with _ | y
    · cases x <;> decide +kernel
    · cases x <;> cases y <;> decide +kernel
theorem ne_cel (x y : Co) : (!decide (V.str (oS (some x)) = V.str (oS (some y)))) = clashC (some x) (some y) := by
  cases x <;> cases y <;> decide +kernel
theorem tru_cel (x : Co) : x.s.length ≤ sizeLine ∧ true = ((x.s.length : Int) != 0) := by
  cases x <;> decide +kernel
theorem pairD_rng (n : Nat) (f g : Nat → PyData) : pairD ((List.range n).map f) ((List.range n).map g) = (List.range n).map fun i => .tuple [f i, g i] := by
  unfold pairD
  rw [List.zipWith_map]
  refine List.ext_getElem? fun i => ?_
  by_cases lt : i < n
  · simp [List.getElem?_zipWith, lt]
  · rw [List.getElem?_eq_none (by simp; omega), List.getElem?_eq_none (by simp; omega)]
/-- the places of a piece's own cells -/
def ownP (x : Pi) (w h : Nat) : List (Nat × Nat) := (List.range h).flatMap fun r => ((List.range w).filter fun c => x.own w h r c).map fun c => (r, c)
theorem ownP_mem {x : Pi} {w h : Nat} {p : Nat × Nat} : p ∈ ownP x w h ↔ p.1 < h ∧ p.2 < w ∧ x.own w h p.1 p.2 = true := by
  unfold ownP
  constructor
  · intro m
    obtain ⟨r, hr, m⟩ := List.mem_flatMap.mp m
    obtain ⟨c, hc, rfl⟩ := List.mem_map.mp m
    obtain ⟨h1, h2⟩ := List.mem_filter.mp hc
    exact ⟨List.mem_range.mp hr, List.mem_range.mp h1, h2⟩
  · rintro ⟨h1, h2, h3⟩
    exact List.mem_flatMap.mpr ⟨p.1, List.mem_range.mpr h1, List.mem_map.mpr ⟨p.2, List.mem_filter.mpr ⟨List.mem_range.mpr h2, h3⟩, rfl⟩⟩
theorem ownP_len (x : Pi) (w h : Nat) (w8 : w ≤ 8) (h8 : h ≤ 8) : (ownP x w h).length ≤ 64 := by
  unfold ownP
  rw [List.length_flatMap]
  have : ∀ n, ((List.range n).map fun r => (((List.range w).filter fun c => x.own w h r c).map fun c => (r, c)).length).sum ≤ n * 8 := by
    intro n
    induction n with
    | zero => simp
    | succ n ih =>
      rw [List.range_succ, List.map_append, List.sum_append]
      have : (((List.range w).filter fun c => x.own w h n c).map fun c => (n, c)).length ≤ w := by
        rw [List.length_map]
        exact Nat.le_trans (List.length_filter_le _ _) (Nat.le_of_eq List.length_range)
      simp only [List.map_cons, List.map_nil, List.sum_cons, List.sum_nil]
      omega
  exact Nat.le_trans (this h) (by omega)

/-! # both sayings of a patch as data -/
def dB (p : List Kw × List Kw) : PyData := .tuple [dKs p.1, dKs p.2]
theorem imm_ks (l : List Kw) : imm (dKs l) = true := orr_ks.dat.im l
theorem imm_b (p : List Kw × List Kw) : imm (dB p) = true := by
  unfold dB
  rw [imm, immAll, immAll, immAll, imm_ks, imm_ks]
  rfl
theorem ks_app (a b : List Kw) : PyData.tuple ((a.map fun k => PyData.str k.s) ++ (b.map fun k => PyData.str k.s)) = dKs (a ++ b) := by
  unfold dKs
  rw [List.map_append]
/-- the sayings joined, from the last one on -/
def lastJ : List (List Kw × List Kw) → List Kw
  | [] => []
  | p :: ps => if lastJ ps = [] then p.2 else p.1 ++ lastJ ps
theorem lastJ_len {n : Nat} : ∀ {ps : List (List Kw × List Kw)}, (∀ p ∈ ps, p.1.length ≤ n ∧ p.2.length ≤ n) → (lastJ ps).length ≤ n * ps.length
  | [], _ => Nat.le_refl _
  | p :: ps, h => by
    have h1 := h p List.mem_cons_self
    have h2 := lastJ_len fun q m => h q (List.mem_cons_of_mem _ m)
    rw [lastJ, List.length_cons, Nat.mul_succ]
    by_cases e : lastJ ps = []
    · rw [if_pos e]; omega
    · rw [if_neg e, List.length_append]; omega
def plF : List Co → List Kw | k :: _ => [.c k] | [] => [.c .black]
def plL : List Co → List Kw | k :: _ => if k = .white then [] else [.c k] | [] => []
theorem KeysOk.congr {n : Nat} {kd kd' : Nat → PyData} (e : ∀ i, i < n → kd i = kd' i) (O : KeysOk n kd') : KeysOk n kd where
  cmp := fun i j hi hj => by rw [e i hi, e j hj]; exact O.cmp i j hi hj
  im := fun i hi => by rw [e i hi]; exact O.im i hi
  trans := fun i j k hi hj hk => by rw [e i hi, e j hj, e k hk]; exact O.trans i j k hi hj hk
  irr := fun i hi => by rw [e i hi]; exact O.irr i hi
theorem Orr.keys {α : Type} [DecidableEq α] {f : α → PyData} {m : Nat} {lt : α → α → Bool} (o : Orr f m lt) (s : STO lt) (h : m ≤ 64) (nn : ∀ x, f x ≠ .none) (n : Nat) (g : Nat → α) : KeysOk n fun i => f (g i) where
  cmp := fun i j _ _ => ⟨o.al _ _, nn _, Nat.le_trans (o.dat.dep _) h⟩
  im := fun i _ => o.dat.im _
  trans := fun i j k _ _ _ => by
    rw [o.lt_eq, o.lt_eq, o.lt_eq]
    exact s.trans _ _ _
  irr := fun i _ => by
    rw [o.lt_eq]
    exact s.irr _
theorem Orr.keysL {α : Type} [DecidableEq α] [Inhabited α] {f : α → PyData} {m : Nat} {lt : α → α → Bool} (o : Orr f m lt) (s : STO lt) (h : m ≤ 64) (nn : ∀ x, f x ≠ .none) (l : List α) : KeysOk (l.map f).length fun i => (l.map f).getD i .none :=
  (o.keys s h nn _ fun i => l.getD i default).congr fun i hi => by
    rw [List.length_map] at hi
    rw [List.getD_eq_getElem?_getD, List.getElem?_map, List.getElem?_eq_getElem hi, List.getD_eq_getElem?_getD, List.getElem?_eq_getElem hi]
    rfl
instance : Inhabited Kw := ⟨Kw.w⟩
theorem min_co {d : PyData} (m : d ∈ [Kw.c .white, .c .yellow, .c .black, .c .blue, .c .green, .c .red].map fun k => PyData.str k.s) (least : ∀ e ∈ [Kw.c .white, .c .yellow, .c .black, .c .blue, .c .green, .c .red].map (fun k => PyData.str k.s), PySem.W.dataLt e d = false) : d = .str Co.black.s := by
  obtain ⟨k, mk, rfl⟩ := List.mem_map.mp m
  have h := least (.str Co.black.s) (List.mem_map.mpr ⟨.c .black, by simp, rfl⟩)
  have h : PySem.W.dataLt (.str (Kw.s (.c .black))) (.str k.s) = false := h
  rw [orr_kw.lt_eq] at h
  simp only [List.mem_cons, List.not_mem_nil, or_false] at mk
  rcases mk with rfl | rfl | rfl | rfl | rfl | rfl <;> first | rfl | (exfalso; revert h; decide +kernel)
/-! ### keys -/
theorem map_inj {α β : Type} {g : α → β} (inj : ∀ x y, g x = g y → x = y) : ∀ {l m : List α}, l.map g = m.map g → l = m
  | [], [], _ => rfl
  | [], _ :: _, h => by cases h
  | _ :: _, [], h => by cases h
  | x :: l, y :: m, h => by
    obtain ⟨h1, h2⟩ := List.cons.inj h
    rw [inj x y h1, map_inj inj h2]
theorem oS_inj {x y : Option Co} (h : oS x = oS y) : x = y := by
  have e : PyData.eqv (dCel x) (dCel y) = true := by
    unfold dCel
    rw [h]
    have := dat_cel.eq y y
    rw [decide_eq_true rfl] at this
    exact this
  rw [dat_cel.eq] at e
  exact of_decide_eq_true e
theorem keyOf_pat {rs rs' : List (List (Option Co))} (h : keyOf (dPat rs) = keyOf (dPat rs')) : rs = rs' := by
  unfold dPat at h
  rw [keyOf, keyOf] at h
  have h := NestedKey.tup.inj h
  rw [keyOfs_map, keyOfs_map, List.map_map, List.map_map] at h
  refine map_inj (fun r r' e => ?_) h
  have e : keyOf (dPrw r) = keyOf (dPrw r') := e
  unfold dPrw at e
  rw [keyOf, keyOf] at e
  have e := NestedKey.tup.inj e
  rw [keyOfs_map, keyOfs_map, List.map_map, List.map_map] at e
  exact map_inj (fun o o' z => oS_inj (NestedKey.text.inj z)) e
/-! ### parts -/
abbrev Pt := Nat × Nat × Pf
def Pt.bst (q : Pt) (p : List Kw × List Kw) : Prop := Best q.1 q.2.1 q.2.2 p.1 p.2
def dPt (q : Pt) : PyData := dP q.1 q.2.1 q.2.2
def Wy.parts (w h : Nat) (f : Pf) : Wy → List Pt
  | .two d => [(d.pw w, d.ph h, d.fa w h f), (d.pw w, d.ph h, d.fb w h f)]
  | .pc p _ => [(w, h, blank p w h f)]
def Wy.ws : Wy → List Kw | .two d => [.d d] | .pc p k => [.p p, .c k]
theorem dWy_is (w h : Nat) (f : Pf) (y : Wy) : dWy w h f y = .tuple [dKs y.ws, .tuple ((y.parts w h f).map dPt)] := by cases y <;> rfl
theorem cand_of {w h : Nat} {f : Pf} {y : Wy} {ps : List (List Kw × List Kw)} (r : Paired Pt.bst (y.parts w h f) ps) : Cand w h f y (y.ws ++ (ps.map Prod.fst).flatten) (y.ws ++ lastJ ps) := by
  cases y with
  | two d =>
    cases r with | cons a r =>
    cases r with | cons b r =>
    cases r
    refine ⟨_, _, _, _, a, b, by simp [Wy.ws], ?_⟩
    simp [Wy.ws, lastJ]
  | pc p k =>
    cases r with | cons a r =>
    cases r
    exact ⟨_, _, a, by simp [Wy.ws], by simp [Wy.ws, lastJ]⟩
theorem part_side {w h : Nat} {f : Pf} {y : Wy} (sw : Side w) (sh : Side h) (o : WyOk w h f y) {q : Pt} (m : q ∈ y.parts w h f) : Side q.1 ∧ Side q.2.1 := by
  cases y with
  | two d =>
    have := side_part o.1 sw sh
    rcases List.mem_cons.mp m with rfl | m
    · exact this
    · rw [List.mem_singleton.mp m]; exact this
  | pc p k => rw [List.mem_singleton.mp m]; exact ⟨sw, sh⟩
/-! ### how often parts are left -/
def hasIn (p : Pi) (w h : Nat) (f : Pf) : Nat := if (ownP p w h).any (fun z => (f z.1 z.2).isSome) = true then 1 else 0
theorem hasIn_le (p : Pi) (w h : Nat) (f : Pf) : hasIn p w h f ≤ 1 := by
  unfold hasIn
  split <;> omega
def rk (q : Pt) : Nat := 5 * (q.1 + q.2.1) + hasIn .pillar q.1 q.2.1 q.2.2 + hasIn .band q.1 q.2.1 q.2.2 + hasIn .head q.1 q.2.1 q.2.2 + hasIn .edge q.1 q.2.1 q.2.2
theorem hasIn_blank (p x : Pi) (w h : Nat) (f : Pf) : hasIn x w h (blank p w h f) ≤ hasIn x w h f := by
  unfold hasIn
  by_cases c : (ownP x w h).any (fun z => (blank p w h f z.1 z.2).isSome) = true
  · rw [if_pos c, if_pos]
    · exact Nat.le_refl _
    obtain ⟨z, mz, hz⟩ := List.any_eq_true.mp c
    refine List.any_eq_true.mpr ⟨z, mz, ?_⟩
    unfold blank at hz
    by_cases o : p.own w h z.1 z.2 = true
    · rw [if_pos o] at hz; cases hz
    · rw [if_neg o] at hz; exact hz
  · rw [if_neg c]; exact Nat.zero_le _
theorem hasIn_off (p : Pi) (w h : Nat) (f : Pf) : hasIn p w h (blank p w h f) = 0 := by
  unfold hasIn
  rw [if_neg]
  intro c
  obtain ⟨z, mz, hz⟩ := List.any_eq_true.mp c
  unfold blank at hz
  rw [if_pos (ownP_mem.mp mz).2.2] at hz
  cases hz
theorem hasIn_on {p : Pi} {w h : Nat} {f : Pf} {k : Co} (o : Own1 p w h f k) : hasIn p w h f = 1 := by
  unfold hasIn
  obtain ⟨⟨r, c, h1, h2, h3, e⟩, _⟩ := o
  rw [if_pos]
  exact List.any_eq_true.mpr ⟨(r, c), ownP_mem.mpr ⟨h1, h2, h3⟩, by show (f r c).isSome = true; rw [e]; rfl⟩
theorem rk_part {w h : Nat} {f : Pf} {y : Wy} (sw : Side w) (sh : Side h) (o : WyOk w h f y) {q : Pt} (m : q ∈ y.parts w h f) : rk q < rk (w, h, f) := by
  cases y with
  | two d =>
    have sz : q.1 = d.pw w ∧ q.2.1 = d.ph h := by
      rcases List.mem_cons.mp m with rfl | m
      · exact ⟨rfl, rfl⟩
      · rw [List.mem_singleton.mp m]; exact ⟨rfl, rfl⟩
    have lt : d.pw w + d.ph h + 1 ≤ w + h := by
      have fit := o.1
      cases d with
      | party =>
        have : 2 ≤ w := of_decide_eq_true fit
        show w / 2 + h + 1 ≤ w + h
        omega
      | cut =>
        have : 2 ≤ h := of_decide_eq_true fit
        show w + h / 2 + 1 ≤ w + h
        omega
      | quartered =>
        have fit : (decide (2 ≤ w) && decide (2 ≤ h)) = true := fit
        rw [Bool.and_eq_true] at fit
        have : 2 ≤ w := of_decide_eq_true fit.1
        show w / 2 + h / 2 + 1 ≤ w + h
        omega
    have h1 := hasIn_le .pillar q.1 q.2.1 q.2.2
    have h2 := hasIn_le .band q.1 q.2.1 q.2.2
    have h3 := hasIn_le .head q.1 q.2.1 q.2.2
    have h4 := hasIn_le .edge q.1 q.2.1 q.2.2
    unfold rk
    rw [sz.1, sz.2] at h1 h2 h3 h4 ⊢
    show 5 * (d.pw w + d.ph h) + _ + _ + _ + _ < 5 * (w + h) + _ + _ + _ + _
    omega
  | pc p k =>
    rw [List.mem_singleton.mp m]
    have h1 := hasIn_blank p .pillar w h f
    have h2 := hasIn_blank p .band w h f
    have h3 := hasIn_blank p .head w h f
    have h4 := hasIn_blank p .edge w h f
    have h5 := hasIn_off p w h f
    have h6 := hasIn_on o.2
    unfold rk
    show 5 * (w + h) + hasIn .pillar w h (blank p w h f) + hasIn .band w h (blank p w h f) + hasIn .head w h (blank p w h f) + hasIn .edge w h (blank p w h f) < 5 * (w + h) + hasIn .pillar w h f + hasIn .band w h f + hasIn .head w h f + hasIn .edge w h f
    cases p <;> omega
theorem rk_le {q : Pt} (sw : Side q.1) (sh : Side q.2.1) : rk q ≤ 84 := by
  have h1 := hasIn_le .pillar q.1 q.2.1 q.2.2
  have h2 := hasIn_le .band q.1 q.2.1 q.2.2
  have h3 := hasIn_le .head q.1 q.2.1 q.2.2
  have h4 := hasIn_le .edge q.1 q.2.1 q.2.2
  have := side_le sw
  have := side_le sh
  unfold rk
  omega
theorem rk_pos {q : Pt} (sw : Side q.1) : 0 < rk q := by
  have := side_le sw
  unfold rk
  omega
/-! ### a saying that covers, not too long -/
theorem cover_all (f0 : Pf) : ∀ (n w h : Nat) (f : Pf), w + h ≤ n → Side w → Side h → ∃ t : Tr, t.ok w h ∧ Cov w h f t ∧ t.kws.length + 1 ≤ 2 * (w * h)
  | 0, w, h, f, le, sw, sh => by have := side_le sw; omega
  | n + 1, w, h, f, le, sw, sh => by
    have pw := side_le sw
    have ph := side_le sh
    by_cases cw : 2 ≤ w
    · obtain ⟨e, p⟩ := half_of sw cw
      obtain ⟨ta, oa, ca, la⟩ := cover_all f0 n (w / 2) h f (by omega) (side_half sw cw) sh
      obtain ⟨tb, ob, cb, lb⟩ := cover_all f0 n (w / 2) h (fun r c => f r (c + w / 2)) (by omega) (side_half sw cw) sh
      refine ⟨.two .party ta tb, ⟨decide_eq_true cw, oa, ob⟩, (cov_party cw sw).mpr ⟨ca, cb⟩, ?_⟩
      rw [Tr.kws, List.length_cons, List.length_append]
      have : w * h = w / 2 * h + w / 2 * h := by rw [← Nat.add_mul, ← e]
      omega
    · by_cases ch : 2 ≤ h
      · obtain ⟨e, p⟩ := half_of sh ch
        obtain ⟨ta, oa, ca, la⟩ := cover_all f0 n w (h / 2) f (by omega) sw (side_half sh ch)
        obtain ⟨tb, ob, cb, lb⟩ := cover_all f0 n w (h / 2) (fun r c => f (r + h / 2) c) (by omega) sw (side_half sh ch)
        refine ⟨.two .cut ta tb, ⟨decide_eq_true ch, oa, ob⟩, (cov_cut ch sh).mpr ⟨ca, cb⟩, ?_⟩
        rw [Tr.kws, List.length_cons, List.length_append]
        have : w * h = w * (h / 2) + w * (h / 2) := by rw [← Nat.mul_add, ← e]
        omega
      · have e1 : w = 1 := by omega
        have e2 : h = 1 := by omega
        subst e1 e2
        refine ⟨.col ((f 0 0).getD .white), trivial, fun r c k hr hc e => ?_, Nat.le_refl 2⟩
        have : r = 0 := by omega
        have : c = 0 := by omega
        subst_vars
        show (f 0 0).getD .white = k
        rw [e]
        rfl
theorem Best.few {w h : Nat} {f : Pf} {F L : List Kw} (sw : Side w) (sh : Side h) (b : Best w h f F L) : F.length ≤ 128 ∧ L.length ≤ 128 := by
  obtain ⟨t, o, c, l⟩ := cover_all f (w + h) w h f (Nat.le_refl _) sw sh
  have l1 := rle_len (b.fmin t o c)
  have l2 := rle_len (b.lmin t o c)
  have l3 := trimK_len t.kws
  have := side_le sw
  have := side_le sh
  have : w * h ≤ 8 * 8 := Nat.mul_le_mul (by omega) (by omega)
  omega
theorem np_way {w h : Nat} {f : Pf} (n : Np w h f) : ∃ y, WyOk w h f y := by
  by_cases cw : 2 ≤ w
  · exact ⟨.two .party, decide_eq_true cw, trivial⟩
  · by_cases ch : 2 ≤ h
    · exact ⟨.two .cut, decide_eq_true ch, trivial⟩
    · exfalso
      obtain ⟨r, c, k, r', c', k', h1, h2, e1, h3, h4, e2, ne⟩ := n
      have : r = 0 := by omega
      have : c = 0 := by omega
      have : r' = 0 := by omega
      have : c' = 0 := by omega
      subst_vars
      rw [e1] at e2
      exact ne (Option.some.inj e2)
/-! ### all patches that are met -/
def mk4 (a b c d : Bool) : Pi → Bool | .pillar => a | .band => b | .head => c | .edge => d
def bl (m : Pi → Bool) (w h : Nat) (f : Pf) : Pf := fun r c => if (m .pillar && Pi.own w h r c .pillar || m .band && Pi.own w h r c .band || m .head && Pi.own w h r c .head || m .edge && Pi.own w h r c .edge) = true then none else f r c
def MOk (w h : Nat) (m : Pi → Bool) : Prop := ∀ p : Pi, m p = true → p.fits w h = true
def opt (b : Bool) : List Bool := if b = true then [false, true] else [false]
theorem opt_in {b x : Bool} (h : x = true → b = true) : x ∈ opt b := by
  unfold opt
  cases b with
  | true => cases x <;> simp
  | false => cases x with
    | false => simp
    | true => cases h rfl
def masks (w h : Nat) (x y : Bool) : List (Pi → Bool) := (opt (x && Pi.fits w h .pillar)).flatMap fun a => (opt (y && Pi.fits w h .band)).flatMap fun b => (opt (y && Pi.fits w h .head)).flatMap fun c => (opt ((x || y) && Pi.fits w h .edge)).map fun d => mk4 a b c d
theorem masks_in {w h : Nat} {x y : Bool} {m : Pi → Bool} (o : MOk w h m) (hx : m .pillar = true → x = true) (hy : m .band = true ∨ m .head = true → y = true) (he : m .edge = true → (x || y) = true) : m ∈ masks w h x y := by
  unfold masks
  refine List.mem_flatMap.mpr ⟨m .pillar, opt_in fun e => by rw [hx e, o _ e]; rfl, List.mem_flatMap.mpr ⟨m .band, opt_in fun e => by rw [hy (.inl e), o _ e]; rfl, List.mem_flatMap.mpr ⟨m .head, opt_in fun e => by rw [hy (.inr e), o _ e]; rfl, List.mem_map.mpr ⟨m .edge, opt_in fun e => by rw [he e, o _ e]; rfl, ?_⟩⟩⟩⟩
  funext p
  cases p <;> rfl
def right (w : Nat) (f : Pf) : Pf := fun r c => f r (c + w / 2)
def low (h : Nat) (f : Pf) : Pf := fun r c => f (r + h / 2) c
def rch : Nat → Nat → Nat → Pf → List Pt
  | 0, w, h, f => (masks w h true true).map fun m => (w, h, bl m w h f)
  | n + 1, w, h, f => (masks w h true true).map (fun m => (w, h, bl m w h f)) ++
    ((if 2 ≤ w then (masks w h true false).flatMap fun m => rch n (w / 2) h (bl m w h f) ++ rch n (w / 2) h (right w (bl m w h f)) else []) ++
    ((if 2 ≤ h then (masks w h false true).flatMap fun m => rch n w (h / 2) (bl m w h f) ++ rch n w (h / 2) (low h (bl m w h f)) else []) ++
    (if 2 ≤ w ∧ 2 ≤ h then (masks w h true true).flatMap fun m => rch n (w / 2) (h / 2) (Du.fa .quartered w h (bl m w h f)) ++ rch n (w / 2) (h / 2) (Du.fb .quartered w h (bl m w h f)) else [])))
def cnt : Nat → Nat → Nat → Nat
  | 0, w, h => (masks w h true true).length
  | n + 1, w, h => (masks w h true true).length + ((if 2 ≤ w then (masks w h true false).length * (cnt n (w / 2) h + cnt n (w / 2) h) else 0) + ((if 2 ≤ h then (masks w h false true).length * (cnt n w (h / 2) + cnt n w (h / 2)) else 0) + (if 2 ≤ w ∧ 2 ≤ h then (masks w h true true).length * (cnt n (w / 2) (h / 2) + cnt n (w / 2) (h / 2)) else 0)))
theorem flat_len {α β : Type} {g : α → List β} {n : Nat} (h : ∀ x, (g x).length = n) : ∀ l : List α, (l.flatMap g).length = l.length * n
  | [] => by simp
  | x :: l => by rw [List.flatMap_cons, List.length_append, h x, flat_len h l, List.length_cons, Nat.succ_mul, Nat.add_comm]
theorem rch_len : ∀ (n w h : Nat) (f : Pf), (rch n w h f).length = cnt n w h
  | 0, w, h, f => by rw [rch, cnt, List.length_map]
  | n + 1, w, h, f => by
    rw [rch, cnt, List.length_append, List.length_append, List.length_append, List.length_map]
    congr 1
    congr 1
    · split
      · exact flat_len (fun m => by rw [List.length_append, rch_len, rch_len]) _
      · rfl
    congr 1
    · split
      · exact flat_len (fun m => by rw [List.length_append, rch_len, rch_len]) _
      · rfl
    · split
      · exact flat_len (fun m => by rw [List.length_append, rch_len, rch_len]) _
      · rfl
theorem cnt_le {w h : Nat} (sw : Side w) (sh : Side h) : cnt 14 w h < sizeLine := by
  unfold Side at sw sh
  rcases sw with rfl | rfl | rfl | rfl <;> rcases sh with rfl | rfl | rfl | rfl <;> decide +kernel
theorem rch_top {n w h : Nat} {f : Pf} {m : Pi → Bool} (o : MOk w h m) : (w, h, bl m w h f) ∈ rch n w h f := by
  have : (w, h, bl m w h f) ∈ (masks w h true true).map fun m => (w, h, bl m w h f) := List.mem_map.mpr ⟨m, masks_in o (fun _ => rfl) (fun _ => rfl) (fun _ => rfl), rfl⟩
  cases n with
  | zero => exact this
  | succ n => rw [rch]; exact List.mem_append_left _ this
def noM : Pi → Bool := fun _ => false
theorem bl_none (w h : Nat) (f : Pf) : bl noM w h f = f := by
  funext r c
  unfold bl noM
  simp
theorem rch_self (n w h : Nat) (f : Pf) : (w, h, f) ∈ rch n w h f := by
  have := rch_top (n := n) (w := w) (h := h) (f := f) (m := noM) (fun p e => by cases e)
  rwa [bl_none] at this
theorem blank_bl (p : Pi) (m : Pi → Bool) (w h : Nat) (f : Pf) : blank p w h (bl m w h f) = bl (fun q => if q = p then true else m q) w h f := by
  funext r c
  unfold blank bl
  by_cases o : p.own w h r c = true
  · rw [if_pos o, if_pos]
    cases p <;> simp [o]
  · rw [if_neg o]
    have o : p.own w h r c = false := by simpa using o
    cases p <;> simp [o]
theorem Pi.own_x (p : Pi) (h : p = .band ∨ p = .head) (w w' he r c c' : Nat) : p.own w he r c = p.own w' he r c' := by
  rcases h with rfl | rfl <;> rfl
theorem Pi.own_y (w h h' r r' c : Nat) : Pi.own w h r c .pillar = Pi.own w h' r' c .pillar := rfl
theorem bl_split (m : Pi → Bool) (w w' h : Nat) (f : Pf) (k : Nat) : (fun r c => bl m w h f r (c + k)) = bl (mk4 false (m .band) (m .head) false) w' h (fun r c => bl (mk4 (m .pillar) false false (m .edge)) w h f r (c + k)) := by
  funext r c
  show bl m w h f r (c + k) = bl _ w' h _ r c
  unfold bl
  simp only [mk4]
  rw [Pi.own_x .band (.inl rfl) w w' h r (c + k) c, Pi.own_x .head (.inr rfl) w w' h r (c + k) c]
  generalize Pi.own w' h r c .band = B
  generalize Pi.own w' h r c .head = C
  generalize Pi.own w h r (c + k) .pillar = A
  generalize Pi.own w h r (c + k) .edge = D
  generalize m .pillar = a
  generalize m .band = b
  generalize m .head = e
  generalize m .edge = d
  cases a <;> cases b <;> cases e <;> cases d <;> cases A <;> cases B <;> cases C <;> cases D <;> simp
theorem bl_splitY (m : Pi → Bool) (w h h' : Nat) (f : Pf) (k : Nat) : (fun r c => bl m w h f (r + k) c) = bl (mk4 (m .pillar) false false false) w h' (fun r c => bl (mk4 false (m .band) (m .head) (m .edge)) w h f (r + k) c) := by
  funext r c
  show bl m w h f (r + k) c = bl _ w h' _ r c
  unfold bl
  simp only [mk4]
  rw [Pi.own_y w h h' (r + k) r c]
  generalize Pi.own w h (r + k) c .band = B
  generalize Pi.own w h (r + k) c .head = C
  generalize Pi.own w h' r c .pillar = A
  generalize Pi.own w h (r + k) c .edge = D
  generalize m .pillar = a
  generalize m .band = b
  generalize m .head = e
  generalize m .edge = d
  cases a <;> cases b <;> cases e <;> cases d <;> cases A <;> cases B <;> cases C <;> cases D <;> simp
/-- what parts are left of a patch that is met is met -/
theorem rch_closed : ∀ (n w h : Nat) (f : Pf), Side w → Side h → w + h ≤ n + 2 → ∀ q ∈ rch n w h f, (Side q.1 ∧ Side q.2.1) ∧ ∀ y, WyOk q.1 q.2.1 q.2.2 y → ∀ z ∈ y.parts q.1 q.2.1 q.2.2, z ∈ rch n w h f := by
  intro n
  induction n with
  | zero =>
    intro w h f sw sh le q hq
    obtain ⟨m, _, rfl⟩ := List.mem_map.mp hq
    refine ⟨⟨sw, sh⟩, fun y o z hz => ?_⟩
    exfalso
    have := side_le sw
    have := side_le sh
    cases y with
    | two d =>
      have := o.1
      cases d
      · have : 2 ≤ w := of_decide_eq_true this
        omega
      · have : 2 ≤ h := of_decide_eq_true this
        omega
      · have this : (decide (2 ≤ w) && decide (2 ≤ h)) = true := this
        rw [Bool.and_eq_true] at this
        have : 2 ≤ w := of_decide_eq_true this.1
        omega
    | pc p k =>
      have := o.1
      cases p
      · have : 4 ≤ w := of_decide_eq_true this
        omega
      · have : 4 ≤ h := of_decide_eq_true this
        omega
      · have : 4 ≤ h := of_decide_eq_true this
        omega
      · have this : (decide (4 ≤ w) && decide (4 ≤ h)) = true := this
        rw [Bool.and_eq_true] at this
        have : 4 ≤ w := of_decide_eq_true this.1
        omega
  | succ n ih =>
    intro w h f sw sh le q hq
    have pw := side_le sw
    have ph := side_le sh
    have inX : 2 ≤ w → ∀ m ∈ masks w h true false, ∀ g, (g = bl m w h f ∨ g = right w (bl m w h f)) → ∀ z ∈ rch n (w / 2) h g, z ∈ rch (n + 1) w h f := fun c m hm g hg z hz => by
      rw [rch, if_pos c]
      refine List.mem_append_right _ (List.mem_append_left _ (List.mem_flatMap.mpr ⟨m, hm, ?_⟩))
      rcases hg with rfl | rfl
      · exact List.mem_append_left _ hz
      · exact List.mem_append_right _ hz
    have inY : 2 ≤ h → ∀ m ∈ masks w h false true, ∀ g, (g = bl m w h f ∨ g = low h (bl m w h f)) → ∀ z ∈ rch n w (h / 2) g, z ∈ rch (n + 1) w h f := fun c m hm g hg z hz => by
      rw [rch, if_pos c]
      refine List.mem_append_right _ (List.mem_append_right _ (List.mem_append_left _ (List.mem_flatMap.mpr ⟨m, hm, ?_⟩)))
      rcases hg with rfl | rfl
      · exact List.mem_append_left _ hz
      · exact List.mem_append_right _ hz
    have inQ : 2 ≤ w ∧ 2 ≤ h → ∀ m ∈ masks w h true true, ∀ g, (g = Du.fa .quartered w h (bl m w h f) ∨ g = Du.fb .quartered w h (bl m w h f)) → ∀ z ∈ rch n (w / 2) (h / 2) g, z ∈ rch (n + 1) w h f := fun c m hm g hg z hz => by
      rw [rch, if_pos c]
      refine List.mem_append_right _ (List.mem_append_right _ (List.mem_append_right _ (List.mem_flatMap.mpr ⟨m, hm, ?_⟩)))
      rcases hg with rfl | rfl
      · exact List.mem_append_left _ hz
      · exact List.mem_append_right _ hz
    rw [rch] at hq
    rcases List.mem_append.mp hq with hq | hq
    · obtain ⟨m, hm, rfl⟩ := List.mem_map.mp hq
      have om : MOk w h m := by
        unfold masks at hm
        obtain ⟨a, ha, hm⟩ := List.mem_flatMap.mp hm
        obtain ⟨b, hb, hm⟩ := List.mem_flatMap.mp hm
        obtain ⟨c, hc, hm⟩ := List.mem_flatMap.mp hm
        obtain ⟨d, hd, rfl⟩ := List.mem_map.mp hm
        have out : ∀ {x b : Bool}, x ∈ opt b → x = true → b = true := fun {x b} hx e => by
          subst e
          unfold opt at hx
          cases b with
          | true => rfl
          | false => simp at hx
        intro p e
        cases p
        · exact out ha e
        · exact out hb e
        · exact out hc e
        · exact out hd e
      refine ⟨⟨sw, sh⟩, fun y o z hz => ?_⟩
      cases y with
      | two d =>
        cases d with
        | party =>
          have c : 2 ≤ w := of_decide_eq_true o.1
          have o1 : MOk w h (mk4 (m .pillar) false false (m .edge)) := fun p e => by
            cases p
            · exact om _ e
            · cases e
            · cases e
            · exact om _ e
          have o2 : MOk (w / 2) h (mk4 false (m .band) (m .head) false) := fun p e => by
            cases p
            · cases e
            · exact om _ e
            · exact om _ e
            · cases e
          have m1 := masks_in (x := true) (y := false) o1 (fun _ => rfl) (fun e => by rcases e with e | e <;> cases e) (fun _ => rfl)
          rcases List.mem_cons.mp hz with rfl | hz
          · refine inX c _ m1 _ (.inl rfl) _ ?_
            have e := bl_split m w (w / 2) h f 0
            simp only [Nat.add_zero] at e
            show (w / 2, h, bl m w h f) ∈ _
            rw [show bl m w h f = _ from e]
            exact rch_top o2
          · rw [List.mem_singleton.mp hz]
            refine inX c _ m1 _ (.inr rfl) _ ?_
            show (w / 2, h, fun r c => bl m w h f r (c + w / 2)) ∈ _
            rw [bl_split m w (w / 2) h f (w / 2)]
            exact rch_top o2
        | cut =>
          have c : 2 ≤ h := of_decide_eq_true o.1
          have o1 : MOk w h (mk4 false (m .band) (m .head) (m .edge)) := fun p e => by
            cases p
            · cases e
            · exact om _ e
            · exact om _ e
            · exact om _ e
          have o2 : MOk w (h / 2) (mk4 (m .pillar) false false false) := fun p e => by
            cases p
            · exact om _ e
            · cases e
            · cases e
            · cases e
          have m1 := masks_in (x := false) (y := true) o1 (fun e => by cases e) (fun _ => rfl) (fun _ => rfl)
          rcases List.mem_cons.mp hz with rfl | hz
          · refine inY c _ m1 _ (.inl rfl) _ ?_
            have e := bl_splitY m w h (h / 2) f 0
            simp only [Nat.add_zero] at e
            show (w, h / 2, bl m w h f) ∈ _
            rw [show bl m w h f = _ from e]
            exact rch_top o2
          · rw [List.mem_singleton.mp hz]
            refine inY c _ m1 _ (.inr rfl) _ ?_
            show (w, h / 2, fun r c => bl m w h f (r + h / 2) c) ∈ _
            rw [bl_splitY m w h (h / 2) f (h / 2)]
            exact rch_top o2
        | quartered =>
          have fit : (decide (2 ≤ w) && decide (2 ≤ h)) = true := o.1
          rw [Bool.and_eq_true] at fit
          have c : 2 ≤ w ∧ 2 ≤ h := ⟨of_decide_eq_true fit.1, of_decide_eq_true fit.2⟩
          have m1 := masks_in (x := true) (y := true) om (fun _ => rfl) (fun _ => rfl) (fun _ => rfl)
          rcases List.mem_cons.mp hz with rfl | hz
          · exact inQ c _ m1 _ (.inl rfl) _ (rch_self _ _ _ _)
          · rw [List.mem_singleton.mp hz]
            exact inQ c _ m1 _ (.inr rfl) _ (rch_self _ _ _ _)
      | pc p k =>
        rw [List.mem_singleton.mp hz]
        show (w, h, blank p w h (bl m w h f)) ∈ _
        rw [blank_bl]
        refine rch_top fun x e => ?_
        by_cases ex : x = p
        · rw [ex]; exact o.1
        · rw [if_neg ex] at e; exact om x e
    · rcases List.mem_append.mp hq with hq | hq
      · by_cases c : 2 ≤ w
        · rw [if_pos c] at hq
          obtain ⟨m, hm, hq⟩ := List.mem_flatMap.mp hq
          have sub : w / 2 + h ≤ n + 2 := by omega
          rcases List.mem_append.mp hq with hq | hq
          · obtain ⟨s, cl⟩ := ih (w / 2) h _ (side_half sw c) sh sub q hq
            exact ⟨s, fun y o z hz => inX c m hm _ (.inl rfl) z (cl y o z hz)⟩
          · obtain ⟨s, cl⟩ := ih (w / 2) h _ (side_half sw c) sh sub q hq
            exact ⟨s, fun y o z hz => inX c m hm _ (.inr rfl) z (cl y o z hz)⟩
        · rw [if_neg c] at hq; cases hq
      · rcases List.mem_append.mp hq with hq | hq
        · by_cases c : 2 ≤ h
          · rw [if_pos c] at hq
            obtain ⟨m, hm, hq⟩ := List.mem_flatMap.mp hq
            have sub : w + h / 2 ≤ n + 2 := by omega
            rcases List.mem_append.mp hq with hq | hq
            · obtain ⟨s, cl⟩ := ih w (h / 2) _ sw (side_half sh c) sub q hq
              exact ⟨s, fun y o z hz => inY c m hm _ (.inl rfl) z (cl y o z hz)⟩
            · obtain ⟨s, cl⟩ := ih w (h / 2) _ sw (side_half sh c) sub q hq
              exact ⟨s, fun y o z hz => inY c m hm _ (.inr rfl) z (cl y o z hz)⟩
          · rw [if_neg c] at hq; cases hq
        · by_cases c : 2 ≤ w ∧ 2 ≤ h
          · rw [if_pos c] at hq
            obtain ⟨m, hm, hq⟩ := List.mem_flatMap.mp hq
            have sub : w / 2 + h / 2 ≤ n + 2 := by omega
            rcases List.mem_append.mp hq with hq | hq
            · obtain ⟨s, cl⟩ := ih (w / 2) (h / 2) _ (side_half sw c.1) (side_half sh c.2) sub q hq
              exact ⟨s, fun y o z hz => inQ c m hm _ (.inl rfl) z (cl y o z hz)⟩
            · obtain ⟨s, cl⟩ := ih (w / 2) (h / 2) _ (side_half sw c.1) (side_half sh c.2) sub q hq
              exact ⟨s, fun y o z hz => inQ c m hm _ (.inr rfl) z (cl y o z hz)⟩
          · rw [if_neg c] at hq; cases hq

/-! # the patches that are known -/
def keysOf (kvs : List (PyData × V)) : List NestedKey := kvs.map fun p => keyOf p.1
theorem kvAt_some {kvs : List (PyData × V)} {x : PyData} {v : V} (h : kvAt kvs x = some v) : ∃ p ∈ kvs, keyOf p.1 = keyOf x ∧ p.2 = v := by
  unfold kvAt at h
  obtain ⟨p, hp, e⟩ := Option.map_eq_some_iff.mp h
  exact ⟨p, List.mem_of_find?_eq_some hp, of_decide_eq_true (by simpa using List.find?_some hp), e⟩
theorem kvAt_in {kvs : List (PyData × V)} {x : PyData} : (kvAt kvs x).isSome = true ↔ keyOf x ∈ keysOf kvs := by
  unfold kvAt keysOf
  rw [Option.isSome_map, List.find?_isSome]
  constructor
  · rintro ⟨p, hp, e⟩
    exact List.mem_map.mpr ⟨p, hp, of_decide_eq_true e⟩
  · intro h
    obtain ⟨p, hp, e⟩ := List.mem_map.mp h
    exact ⟨p, hp, decide_eq_true e⟩
theorem keys_put (kvs : List (PyData × V)) (x : PyData) (v : V) : keysOf (kvPut kvs x v) = if (kvAt kvs x).isSome = true then keysOf kvs else keysOf kvs ++ [keyOf x] := by
  unfold kvPut
  by_cases c : (kvAt kvs x).isSome = true
  · rw [if_pos c, if_pos c]
    unfold keysOf
    rw [List.map_map]
    refine List.map_congr_left fun p _ => ?_
    show keyOf (if keyOf p.1 = keyOf x then (p.1, v) else p).1 = keyOf p.1
    split <;> rfl
  · rw [if_neg c, if_neg c]
    unfold keysOf
    rw [List.map_append]
    rfl
theorem put_keeps {kvs : List (PyData × V)} {x y : PyData} {v : V} (h : (kvAt kvs y).isSome = true) : (kvAt (kvPut kvs x v) y).isSome = true := by
  rw [kvAt_in] at h ⊢
  rw [keys_put]
  split
  · exact h
  · exact List.mem_append_left _ h
theorem put_in {kvs : List (PyData × V)} {x : PyData} {v : V} : (kvAt (kvPut kvs x v) x).isSome = true := by
  rw [kvAt_in, keys_put]
  split
  · exact kvAt_in.mp (by assumption)
  · exact List.mem_append_right _ (List.mem_singleton.mpr rfl)
theorem put_nodup {kvs : List (PyData × V)} {x : PyData} {v : V} (h : (keysOf kvs).Nodup) : (keysOf (kvPut kvs x v)).Nodup := by
  rw [keys_put]
  split
  · exact h
  · rename_i c
    rw [kvAt_in] at c
    exact List.nodup_append.mpr ⟨h, by simp, fun a ha b hb => by rw [List.mem_singleton.mp hb]; exact fun e => c (e ▸ ha)⟩
theorem put_mem {kvs : List (PyData × V)} {x : PyData} {v : V} {p : PyData × V} (h : p ∈ kvPut kvs x v) : p ∈ kvs ∨ (p.2 = v ∧ keyOf p.1 = keyOf x ∧ (p.1 = x ∨ ∃ p' ∈ kvs, p'.1 = p.1)) := by
  unfold kvPut at h
  split at h
  · obtain ⟨p', hp', e⟩ := List.mem_map.mp h
    split at e
    · rename_i c
      subst e
      exact .inr ⟨rfl, c, .inr ⟨p', hp', rfl⟩⟩
    · subst e; exact .inl hp'
  · rcases List.mem_append.mp h with h | h
    · exact .inl h
    · rw [List.mem_singleton.mp h]; exact .inr ⟨rfl, rfl, .inl rfl⟩
/-- all that is met -/
structure ROk (R : List Pt) : Prop where
  side : ∀ q ∈ R, Side q.1 ∧ Side q.2.1
  closed : ∀ q ∈ R, ∀ y, WyOk q.1 q.2.1 q.2.2 y → ∀ z ∈ y.parts q.1 q.2.1 q.2.2, z ∈ R
  few : R.length < sizeLine
theorem rok_rch {w h : Nat} (f : Pf) (sw : Side w) (sh : Side h) : ROk (rch 14 w h f) where
  side := fun q hq => (rch_closed 14 w h f sw sh (by have := side_le sw; have := side_le sh; omega) q hq).1
  closed := fun q hq => (rch_closed 14 w h f sw sh (by have := side_le sw; have := side_le sh; omega) q hq).2
  few := by rw [rch_len]; exact cnt_le sw sh
structure Known (K : PySem.W.Frag) (H : Hp) (R : List Pt) (kvs : List (PyData × V)) : Prop where
  nd : (keysOf kvs).Nodup
  ent : ∀ p ∈ kvs, ∃ q ∈ R, ∃ b : List Kw × List Kw, p.1 = dPt q ∧ q.bst b ∧ Dp K H p.2 (dB b) ∧ (Np q.1 q.2.1 q.2.2 → ∀ y, WyOk q.1 q.2.1 q.2.2 y → ∀ z ∈ y.parts q.1 q.2.1 q.2.2, (kvAt kvs (dPt z)).isSome = true)
section
variable {K : PySem.W.Frag} {H H' : Hp} {R : List Pt} {kvs : List (PyData × V)}
theorem Known.imm (e : Imm H H') (k : Known K H R kvs) : Known K H' R kvs :=
  ⟨k.nd, fun p hp => let ⟨q, hq, b, h1, h2, h3, h4⟩ := k.ent p hp; ⟨q, hq, b, h1, h2, Imm.dp e (imm_b b) h3, h4⟩⟩
theorem known_nil : Known K H R [] := ⟨List.nodup_nil, fun p hp => (nomatch hp)⟩
open Classical in
theorem Known.len (k : Known K H R kvs) : kvs.length ≤ R.length := by
  have : (keysOf kvs).length ≤ (R.map fun q => keyOf (dPt q)).length := nodup_le k.nd fun x hx => by
    obtain ⟨p, hp, rfl⟩ := List.mem_map.mp hx
    obtain ⟨q, hq, b, h1, _⟩ := k.ent p hp
    exact List.mem_map.mpr ⟨q, hq, by rw [h1]⟩
  unfold keysOf at this
  rwa [List.length_map, List.length_map] at this
/-- patches with one key are the same -/
theorem key_same {q q' : Pt} (s : 0 < q.2.1) (e : keyOf (dPt q) = keyOf (dPt q')) : q.1 = q'.1 ∧ q.2.1 = q'.2.1 ∧ ∀ r c, r < q.2.1 → c < q.1 → q.2.2 r c = q'.2.2 r c := pg_inj s (keyOf_pat e)
theorem Pt.bst.same {q q' : Pt} {b : List Kw × List Kw} (s : 0 < q.2.1) (e : keyOf (dPt q) = keyOf (dPt q')) (h : q.bst b) : q'.bst b := by
  obtain ⟨e1, e2, e3⟩ := key_same s e
  obtain ⟨w, he, f⟩ := q
  obtain ⟨w', he', f'⟩ := q'
  cases e1
  cases e2
  exact Best.congr e3 h
theorem Known.at_ (k : Known K H R kvs) (ok : ROk R) {q : Pt} {v : V} (e : kvAt kvs (dPt q) = some v) : ∃ b, q.bst b ∧ Dp K H v (dB b) := by
  obtain ⟨p, hp, ek, rfl⟩ := kvAt_some e
  obtain ⟨q', hq', b, h1, h2, h3, _⟩ := k.ent p hp
  rw [h1] at ek
  exact ⟨b, h2.same (side_le (ok.side q' hq').2).1 ek, h3⟩
theorem Known.put (k : Known K H R kvs) (ok : ROk R) {q : Pt} {v : V} {b : List Kw × List Kw} (hq : q ∈ R) (hb : q.bst b) (hv : Dp K H v (dB b)) (parts : Np q.1 q.2.1 q.2.2 → ∀ y, WyOk q.1 q.2.1 q.2.2 y → ∀ z ∈ y.parts q.1 q.2.1 q.2.2, (kvAt kvs (dPt z)).isSome = true) : Known K H R (kvPut kvs (dPt q) v) := by
  refine ⟨put_nodup k.nd, fun p hp => ?_⟩
  rcases put_mem hp with hp | ⟨rfl, ek, hp | ⟨p', hp', e'⟩⟩
  · obtain ⟨q', hq', b', h1, h2, h3, h4⟩ := k.ent p hp
    exact ⟨q', hq', b', h1, h2, h3, fun n y o z hz => put_keeps (h4 n y o z hz)⟩
  · exact ⟨q, hq, b, hp, hb, hv, fun n y o z hz => put_keeps (parts n y o z hz)⟩
  · obtain ⟨q', hq', b', h1, h2, h3, h4⟩ := k.ent p' hp'
    refine ⟨q', hq', b, e' ▸ h1, hb.same (side_le (ok.side q hq).2).1 ?_, hv, fun n y o z hz => put_keeps (h4 n y o z hz)⟩
    rw [← ek, ← e', h1]
end
/-! ### colours of a patch -/
theorem pg_has {w h : Nat} {f : Pf} {k : Co} : (∃ r ∈ pg w h f, some k ∈ r) ↔ ∃ r c, r < h ∧ c < w ∧ f r c = some k := by
  unfold pg
  constructor
  · rintro ⟨r, hr, hk⟩
    obtain ⟨i, hi, rfl⟩ := List.mem_map.mp hr
    obtain ⟨j, hj, e⟩ := List.mem_map.mp hk
    exact ⟨i, j, List.mem_range.mp hi, List.mem_range.mp hj, e⟩
  · rintro ⟨r, c, hr, hc, e⟩
    exact ⟨_, List.mem_map.mpr ⟨r, List.mem_range.mpr hr, rfl⟩, List.mem_map.mpr ⟨c, List.mem_range.mpr hc, e⟩⟩
theorem plain_best {w h : Nat} {f : Pf} {ks : List Co} (few : ks.length ≤ 1) (m : ∀ k, k ∈ ks ↔ ∃ r ∈ pg w h f, some k ∈ r) : Best w h f (plF ks) (plL ks) := by
  rcases ks with _ | ⟨k, _ | ⟨k2, ks⟩⟩
  · refine best_none fun r c hr hc => ?_
    cases e : f r c with
    | none => rfl
    | some k => exact nomatch (m k).mpr (pg_has.mpr ⟨r, c, hr, hc, e⟩)
  · refine best_one (pg_has.mp ((m k).mp List.mem_cons_self)) fun r c k' hr hc e => ?_
    exact List.mem_singleton.mp ((m k').mpr (pg_has.mpr ⟨r, c, hr, hc, e⟩))
  · simp at few
theorem np_of {w h : Nat} {f : Pf} {ks : List Co} (nd : ks.Nodup) (few : 1 < ks.length) (m : ∀ k, k ∈ ks ↔ ∃ r ∈ pg w h f, some k ∈ r) : Np w h f := by
  rcases ks with _ | ⟨k, _ | ⟨k2, ks⟩⟩
  · simp at few
  · simp at few
  · obtain ⟨r, c, h1, h2, e⟩ := pg_has.mp ((m k).mp List.mem_cons_self)
    obtain ⟨r', c', h3, h4, e'⟩ := pg_has.mp ((m k2).mp (List.mem_cons_of_mem _ List.mem_cons_self))
    exact ⟨r, c, k, r', c', k2, h1, h2, e, h3, h4, e', fun z => (List.nodup_cons.mp nd).1 (by rw [z]; exact List.mem_cons_self)⟩
theorem np_not {w h : Nat} {f : Pf} {ks : List Co} (few : ks.length ≤ 1) (m : ∀ k, k ∈ ks ↔ ∃ r ∈ pg w h f, some k ∈ r) : ¬ Np w h f := by
  rintro ⟨r, c, k, r', c', k', h1, h2, e, h3, h4, e', ne⟩
  have a := (m k).mpr (pg_has.mpr ⟨r, c, h1, h2, e⟩)
  have b := (m k').mpr (pg_has.mpr ⟨r', c', h3, h4, e'⟩)
  rcases ks with _ | ⟨z, _ | ⟨z2, ks⟩⟩
  · cases a
  · exact ne ((List.mem_singleton.mp a).trans (List.mem_singleton.mp b).symm)
  · simp at few
/-! ### calls without the heap, from where the heap is told -/
theorem callA {K : PySem.W.Frag} {asp : ASp} {vs : List V} {H : Hp} {Q : VK} {E : XK} (as : List AV) (pr : Paired (argOk K none H) vs as) (h : asp as (fun av => ∀ v H', Same H H' → Ret K H H' v av → Q v H') fun _ => False) : spA K ec0 asp vs H Q E :=
  ⟨none, as, _, _, pr, fun _ z => (nomatch z), h, fun v av H' q e _ r => q v H' e.same r, fun _ _ _ _ z => z.elim⟩
section
variable {K : PySem.W.Frag} {σ : L2.St} {H : Hp} {D : Ends}
theorem for_listH {a : Addr} {xs : List V} {g : TG} {tb : TS} (Pv : Nat → L2.St → Hp → Prop) (h0 : Pv 0 σ H) (hl : ∀ i σ H, i ≤ xs.length → Pv i σ H → SqL K H a xs)
    (hs : ∀ i x σ H, xs[i]? = some x → Pv i σ H → g x σ H fun σ2 H2 => tb { D with nx := Pv (i + 1), ct := Pv (i + 1), bk := D.nx } σ2 H2)
    (hd : ∀ σ H, Pv xs.length σ H → D.nx σ H) (few : xs.length ≤ sizeLine) : ∃ W : Nat → Nat → L2.St → Hp → Prop, (∃ m, W 0 m σ H) ∧ ∀ i m σ H, W i m σ H → (((Itl K a).stop i H ∧ D.nx σ H) ∨
      ((Itl K a).go i H ∧ ∃ N : L2.St → Hp → Prop, (∀ σ' H', N σ' H' → ∃ m', m' < m ∧ W (i + 1) m' σ' H') ∧ ∀ x H', (Itl K a).yld i H x H' → g x σ H' fun σ2 H2 => tb { D with nx := N, ct := N, bk := D.nx } σ2 H2)) := by
  refine ⟨fun i m σ H => m = xs.length - i ∧ i ≤ xs.length ∧ Pv i σ H, ⟨xs.length, by simp, Nat.zero_le _, h0⟩, ?_⟩
  rintro i m σ H ⟨rfl, hi, p⟩
  have q := hl i σ H hi p
  rcases Nat.lt_or_ge i xs.length with lt | ge
  · refine .inr ⟨⟨xs, xs[i], q, List.getElem?_eq_getElem lt⟩, Pv (i + 1), fun σ' H' p' => ⟨xs.length - (i + 1), by omega, rfl, lt, p'⟩, ?_⟩
    rintro v H' ⟨rfl, y⟩
    exact hs i v σ _ (y xs q) p
  · have e : i = xs.length := by omega
    subst e
    exact .inl ⟨⟨xs, q, Nat.le_refl _⟩, hd σ H p⟩
theorem lc_tupH {a : Addr} {xs : List V} {g : TG} {tt : TT} {te : TE} {vs : List Nat} {H1 : Hp} {D : Addr} {Qd : Hp → Prop} (Pv : Nat → Hp → Prop) (h0 : Pv 0 (upd H1 D (.lst []))) (hl : ∀ i H, i ≤ xs.length → Pv i H → SqT K H a xs)
    (hs : ∀ i x H, xs[i]? = some x → Pv i H → g x (wipe σ vs) H fun σ2 H2 => wipe σ2 vs = wipe σ vs ∧ tt σ2 H2 fun b H3 =>
      if b = true then te σ2 H3 fun y H4 => ∃ acc, H4 D = some (.lst acc) ∧ acc.length < sizeLine ∧ Pv (i + 1) (upd H4 D (.lst (acc ++ [y]))) else Pv (i + 1) H3) (hd : ∀ H, Pv xs.length H → Qd H) :
    ∃ W : Nat → Nat → Hp → Prop, (∃ m, W 0 m (upd H1 D (.lst []))) ∧ ∀ i m H, W i m H →
      ((Itt K a).stop i H ∧ Qd H) ∨ ((Itt K a).go i H ∧ ∃ Nx : Hp → Prop, (∀ H', Nx H' → ∃ m', m' < m ∧ W (i + 1) m' H') ∧ ∀ x H', (Itt K a).yld i H x H' → g x (wipe σ vs) H' fun σ2 H2 => wipe σ2 vs = wipe σ vs ∧ tt σ2 H2 fun b H3 =>
        if b = true then te σ2 H3 fun y H4 => ∃ acc, H4 D = some (.lst acc) ∧ acc.length < sizeLine ∧ Nx (upd H4 D (.lst (acc ++ [y]))) else Nx H3) := by
  refine ⟨fun i m H => m = xs.length - i ∧ i ≤ xs.length ∧ Pv i H, ⟨xs.length, by simp, Nat.zero_le _, h0⟩, ?_⟩
  rintro i m H ⟨rfl, hi, p⟩
  have q := hl i H hi p
  rcases Nat.lt_or_ge i xs.length with lt | ge
  · refine .inr ⟨⟨xs, xs[i], q, List.getElem?_eq_getElem lt⟩, Pv (i + 1), fun H' p' => ⟨xs.length - (i + 1), by omega, rfl, lt, p'⟩, ?_⟩
    rintro v H' ⟨rfl, y⟩
    exact hs i v _ (y xs q) p
  · have e : i = xs.length := by omega
    subst e
    exact .inl ⟨⟨xs, q, Nat.le_refl _⟩, hd H p⟩
end
theorem dp_pair {K : PySem.W.Frag} {H : Hp} {v : V} {x y : PyData} (d : Dp K H v (.tuple [x, y])) : ∃ a u z, v = .ref a ∧ SqT K H a [u, z] ∧ Dp K H u x ∧ Dp K H z y := by
  cases d with
  | tup h a =>
    cases a with | cons h1 a =>
    cases a with | cons h2 a =>
    cases a
    exact ⟨_, _, _, rfl, h, h1, h2⟩
theorem dp_tupH {K : PySem.W.Frag} {H : Hp} {v : V} {xs : List PyData} (d : Dp K H v (.tuple xs)) : ∃ a vs, v = .ref a ∧ SqT K H a vs ∧ DpAll K H vs xs := by
  cases d with
  | tup h a => exact ⟨_, _, rfl, h, a⟩
theorem rKeyNot_ {P : Program} {w : World} {K : PySem.W.Frag} {p d : Addr} {H : Hp} {Q : VK} {kvs : List (PyData × V)} {q : Pt} (hp : Dp K H (.ref p) (dPt q)) (hd : DN P w K H d kvs) (h : Q (.bl (!(kvAt kvs (dPt q)).isSome)) H) : rKeyNot P w K (.ref p) (.ref d) H Q :=
  ⟨d, kvs, dPt q, rfl, ⟨hp, imm_p _ _ _, Nat.le_trans (dat_pat.dep _) (by decide), p, rfl⟩, hd, h⟩
theorem rKeyGet_ {P : Program} {w : World} {K : PySem.W.Frag} {p d : Addr} {H : Hp} {Q : VK} {kvs : List (PyData × V)} {q : Pt} {v : V} (hp : Dp K H (.ref p) (dPt q)) (hd : DN P w K H d kvs) (e : kvAt kvs (dPt q) = some v) (h : Q v H) : rKeyGet P w K (.ref d) (.ref p) H Q :=
  ⟨d, kvs, dPt q, v, rfl, ⟨hp, imm_p _ _ _, Nat.le_trans (dat_pat.dep _) (by decide), p, rfl⟩, hd, e, h⟩
theorem rKeySet_ {P : Program} {w : World} {K : PySem.W.Frag} {p d : Addr} {H : Hp} {Q : Hp → Prop} {kvs : List (PyData × V)} {q : Pt} {v : V} (hp : Dp K H (.ref p) (dPt q)) (hd : DN P w K H d kvs) (l : kvs.length < sizeLine) (h : ∀ H', Chg d H H' → DN P w K H' d (kvPut kvs (dPt q) v) → Q H') : rKeySet P w K (.ref d) (.ref p) v H Q :=
  ⟨d, kvs, dPt q, rfl, ⟨hp, imm_p _ _ _, Nat.le_trans (dat_pat.dep _) (by decide), p, rfl⟩, hd, l, h⟩

/-! # what is said of a drawing -/
def fP (f : Nat → Nat → Co) : Pf := fun r c => some (f r c)
def isOp : Kw → Bool | .c _ => false | _ => true
def ops (l : List Kw) : Nat := l.countP isOp
theorem ops_app (a b : List Kw) : ops (a ++ b) = ops a + ops b := List.countP_append
theorem ops_cons (k : Kw) (l : List Kw) : ops (k :: l) = ops l + (if isOp k = true then 1 else 0) := List.countP_cons
theorem kws_ops : ∀ t : Tr, t.kws.length = 2 * ops t.kws + 1
  | .col _ => rfl
  | .two d a b => by
    have h1 := kws_ops a
    have h2 := kws_ops b
    rw [Tr.kws, List.length_cons, List.length_append, ops_cons, ops_app, if_pos (show isOp (.d d) = true from rfl)]
    omega
  | .pc p c b => by
    have h2 := kws_ops b
    rw [Tr.kws, List.length_cons, List.length_cons, ops_cons, ops_cons, if_pos (show isOp (.p p) = true from rfl), if_neg (show ¬ isOp (.c c) = true from Bool.false_ne_true)]
    omega
theorem ops_rep (n : Nat) : ops (List.replicate n Kw.w) = 0 := by
  unfold ops
  rw [List.countP_replicate, if_neg (by decide)]
theorem ops_le (l : List Kw) : ops l ≤ l.length := List.countP_le_length
theorem trimK_rep (l : List Kw) : ∃ n, l = trimK l ++ List.replicate n Kw.w := by
  obtain ⟨m, _, e, a, _⟩ := trimK_is l
  refine ⟨(l.drop m).length, ?_⟩
  rw [e, ← white_rep a, List.take_append_drop]
theorem kws_le (t : Tr) : t.kws.length ≤ 2 * (trimK t.kws).length + 1 := by
  obtain ⟨n, e⟩ := trimK_rep t.kws
  have h1 := kws_ops t
  have h2 : ops t.kws = ops (trimK t.kws) := by
    rw [e, ops_app, ops_rep, ← e]
    rfl
  have := ops_le (trimK t.kws)
  omega
theorem grid_eq {w h : Nat} {f g : Nat → Nat → Co} : grid w h f = grid w h g ↔ ∀ r c, r < h → c < w → f r c = g r c := by
  constructor
  · intro e r c hr hc
    have e1 := congrArg (fun l => l[r]?) e
    have e1 : (grid w h f)[r]? = (grid w h g)[r]? := e1
    rw [grid_get hr, grid_get hr] at e1
    have e2 := congrArg (fun l => l[c]?) (Option.some.inj e1)
    simpa [hc] using e2
  · intro e
    unfold grid
    exact List.map_congr_left fun r hr => List.map_congr_left fun c hc => e r c (List.mem_range.mp hr) (List.mem_range.mp hc)
theorem cov_grid {w h : Nat} {f : Nat → Nat → Co} {t : Tr} : Cov w h (fP f) t ↔ grid w h (t.cell w h) = grid w h f := by
  rw [grid_eq]
  exact ⟨fun c r x hr hx => c r x _ hr hx rfl, fun e r x k hr hx ek => by rw [e r x hr hx]; exact Option.some.inj ek⟩
/-- L is what is said of the drawing; t the full saying of it -/
structure Says (w h : Nat) (f : Nat → Nat → Co) (L : List Kw) (t : Tr) : Prop where
  ok : t.ok w h
  draws : grid w h (t.cell w h) = grid w h f
  trim : trimK t.kws = L
  short : Short t.wds (L.map Kw.s)
  few : t.wds.length ≤ 1000
  lfew : L.length ≤ 128
  least : ∀ t' : Tr, t'.ok w h → grid w h (t'.cell w h) = grid w h f → rle L (trimK t'.kws)
theorem Best.says {w h : Nat} {f : Nat → Nat → Co} {F L : List Kw} (sw : Side w) (sh : Side h) (b : Best w h (fP f) F L) : ∃ t, Says w h f L t := by
  obtain ⟨t, o, c, e⟩ := b.last
  have l := (b.few sw sh).2
  have k := kws_le t
  rw [e] at k
  obtain ⟨n, en⟩ := trimK_rep t.kws
  rw [e] at en
  exact ⟨t, o, cov_grid.mp c, e, short_kws en, by rw [kws_len]; omega, l, fun t' o' g => b.lmin t' o' (cov_grid.mpr g)⟩
theorem Says.only {w h : Nat} {f g : Nat → Nat → Co} {L L' : List Kw} {t t' : Tr} (a : Says w h f L t) (b : Says w h g L' t') (e : grid w h f = grid w h g) : L = L' :=
  rle_anti (b.trim ▸ a.least t' b.ok (b.draws.trans e.symm)) (a.trim ▸ b.least t a.ok (a.draws.trans e))
theorem Says.len {w h : Nat} {f : Nat → Nat → Co} {L : List Kw} {t : Tr} (s : Says w h f L t) (t' : Tr) (o : t'.ok w h) (g : grid w h (t'.cell w h) = grid w h f) : L.length ≤ (trimK t'.kws).length := rle_len (s.least t' o g)
/-- of a drawing in one colour -/
theorem says_one {w h : Nat} {f : Nat → Nat → Co} {L : List Kw} {t : Tr} (sw : Side w) (sh : Side h) (s : Says w h f L t) {k : Co} (e : ∀ r c, r < h → c < w → f r c = k) : L = if k = .white then [] else [.c k] := by
  have w1 := side_le sw
  have h1 := side_le sh
  have b := best_one (w := w) (h := h) (f := fP f) (k := k) ⟨0, 0, by omega, by omega, congrArg some (e 0 0 (by omega) (by omega))⟩ fun r c k' hr hc ek => by
    rw [← e r c hr hc]
    exact (Option.some.inj ek).symm
  obtain ⟨t', s'⟩ := b.says sw sh
  exact s.only s' rfl
theorem trim_two_len (d : Du) (a b : Tr) : (trimK (Tr.two d a b).kws).length ≤ 1 + a.kws.length + (trimK b.kws).length := by
  rw [trim_two, List.length_cons]
  by_cases e : trimK b.kws = []
  · rw [if_pos e, e]
    have := trimK_len a.kws
    simp
    omega
  · rw [if_neg e, List.length_append]
    omega

/-! # defs that may raise -/
/-- where nothing is raised, one that may raise is as the others -/
def calmS (sp : Sp) : Sp := fun vs H Q _ => sp vs H Q E0
theorem FnOk.calm {P : Program} {w : World} {K : PySem.W.Frag} {mg : Str → Option Value} {base : Heap} {k : Nat} {f : Addr} {fd : FuncData} {ps : List Str} {sp : Sp} (F : FnOk P w K mg base (L2.CX P w) k f fd ps sp) :
    FnOk P w K mg base CX0 k f fd ps (calmS sp) :=
  ⟨fun vs H Q E h => F.len vs H Q E0 h, fun A outer s H args us vs Q E hr he hb hv h => codeAny_mono (F.run A outer s H args us vs Q E0 hr he hb hv h) fun r s' c => by
    cases r with
    | ok fl => cases fl <;> exact c
    | error e =>
      obtain ⟨_, _, _, _, _, _, _, _, _, _, _, _, z⟩ := (show L2.CX P w outer H s E0 e s' from c)
      exact z⟩
/-- a class of errors without anything of its own -/
structure ErrC (K : PySem.W.Frag) (mg : Str → Option Value) (x : Str) (C : Addr) : Prop where
  g : mg x = some (.ref C)
  q : PySem.W.excIn K C [.type "ValueError", .type "Exception", .type "BaseException", .type "object"] "ValueError.__new__" = true
  k : PySem.W.keepIn K (.ref C) = true
  b : PySem.W.subIn K (.ref C) (.type "BaseException") = some true
  t : PySem.W.typeIn K (.ref C) = some (.type "type")
/-- how a refusal of a size looks -/
def ecS (C : Addr) : EC := fun x c d _ => x = .size ∧ c = .ref C ∧ d = none
/-- two numbers that are a size -/
def okS (a b : Int) : Bool := inV (.int a) [.int 1, .int 2, .int 4, .int 8] && inV (.int b) [.int 1, .int 2, .int 4, .int 8]
def dS2 (a b : Int) : PyData := .tuple [.int a, .int b]
theorem dp_s2 {K : PySem.W.Frag} {H : Hp} {v : V} {a b : Int} (d : Dp K H v (dS2 a b)) : ∃ p, v = .ref p ∧ SqT K H p [.int a, .int b] := by
  obtain ⟨p, u, z, rfl, h, d1, d2⟩ := dp_pair d
  have e1 := dp_int d1
  have e2 := dp_int d2
  subst e1 e2
  exact ⟨p, rfl, h⟩
section
variable {K : PySem.W.Frag} {ec : EC} {F : Fr K ec}
/-- a call of a def that tells its refusals in another way -/
theorem call_sndE {ec' : EC} {asp : ASp} {Z : Addr → Prop} {ρ : Rho} {σ : L2.St} {He H : Hp} {vs : List V} {avs : List AV} {Φ : AV → Prop} {Ψ : Exc → Prop} {Q : VK} {E : XK} (o : Ok F Z ρ σ H) (r : Paired (RV F Z He H) vs avs)
    (c : avs.all AV.isA = true ∨ (∃ r, avs = .row :: r ∧ r.all AV.isD = true)) (a : asp (avs.map AV.arg) Φ Ψ) (k : ∀ v av H' Z', Φ av → Step F Z H Z' H' → RV F Z' H H' v av → Q v H')
    (kE : ∀ e c d H', Ψ e → Step F Z H Z H' → ec' e c d H' → E c d H') : spA K ec' asp vs H Q E := by
  have st : ∀ {H' : Hp}, Eff F.ro H H' → RowOk K F.ro H' → Step F Z H Z H' := fun e r => ⟨e, r, fun _ h => h, fun _ h => .inl h, fun b h z => by
    cases q : H b with
    | none => exact o.zok b h q
    | some ob =>
      by_cases n : F.ro = some b
      · obtain ⟨xs, y⟩ := (r b n).lst
        rw [z] at y
        cases y
      · rw [e.2 b ob n q] at z
        cases z⟩
  rcases c with c | ⟨r', rfl, c⟩
  · refine ⟨none, _, Φ, Ψ, argsV o.row r c, (fun _ z => (nomatch z)), a, fun v av H' f e _ ret => ?_, fun e cl d H' f ef _ x => ?_⟩
    · have s := st (same_eff e) fun r hr => (o.row r hr).same e.same
      exact k v av H' Z f s (ret_rv o s ret)
    · exact kE e cl d H' f (st (same_eff ef) fun r hr => (o.row r hr).same ef.same) x
  · cases r with
    | cons h t =>
    obtain ⟨r, e1, e2⟩ := h
    refine ⟨F.ro, _, Φ, Ψ, .cons (show argOk K F.ro H _ AV.row from ⟨r, e1, e2⟩) (argsD t c), o.row, a, fun v av H' f e rr ret => ?_, fun e cl d H' f ef rr x => ?_⟩
    · have s := st e rr
      exact k v av H' Z f s (ret_rv o s ret)
    · exact kE e cl d H' f (st ef rr) x
instance (priority := low) {ec' : EC} {asp : ASp} {ta : TA} {a : AA} [SA F ta a] : SE F (tCall (spA K ec' asp) [] E0 ta) (aCall asp (fun _ => False) a) where
  snd := fun Z ρ σ H Φ Q o q k => by
    refine SA.snd (F := F) (te := ta) (ae := a) Z ρ σ H _ _ o q fun vs avs H1 Z1 ⟨c, q1⟩ s1 r1 => ?_
    rw [List.append_nil]
    have o1 := o.step s1
    exact call_sndE o1 r1 c q1 (fun v av H2 Z2 f s2 r2 => k v av H2 Z2 f (s1.trans o.row s2) (r2.back s1)) fun _ _ _ _ z => z.elim
end
section
variable {K : PySem.W.Frag} {ec : EC} {F : Fr K ec}
instance {ec' : EC} {asp : ASp} {E : XK} {ta : TA} {a : AA} [SA F ta a] : SE F (tCall (calmS (spA K ec' asp)) [] E ta) (aCall asp (fun _ => False) a) where
  snd := fun Z ρ σ H Φ Q o q k => by
    refine SA.snd (F := F) (te := ta) (ae := a) Z ρ σ H _ _ o q fun vs avs H1 Z1 ⟨c, q1⟩ s1 r1 => ?_
    rw [List.append_nil]
    have o1 := o.step s1
    exact call_sndE o1 r1 c q1 (fun v av H2 Z2 f s2 r2 => k v av H2 Z2 f (s1.trans o.row s2) (r2.back s1)) fun _ _ _ _ z => z.elim
end
/-- isinstance(e, c) in the suite that holds e -/
def rIsEx (K : PySem.W.Frag) (cls : Value) (d : Option Addr) (a : Addr) : List V → Hp → VK → Prop := fun xs H Q => ∃ D, cls = .ref D ∧ d = none ∧ ExcC K D ∧ rIsE K D a xs H Q
theorem call_isEx {X : Cx} {a : Addr} {oe : Obj} {cls : Value} {d : Option Addr} {pn : List (Addr × Obj)} (hz : Zc cls d oe) (hf : ∃ vs, oe.data = .fields vs) : CallR (X.suite a ((a, oe) :: pn)) (.builtin "isinstance") (rIsEx X.K cls d a) := by
  intro pins s σ H xs us Q I r ⟨D, e1, e2, C, h⟩
  subst e1 e2
  exact call_isE C hz hf pins s σ H xs us Q I r h
theorem kitCls_own {K : PySem.W.Frag} {C D : Addr} {b : Bool} (hi : PySem.W.isClsIn K D = true) (ht : PySem.W.typeIn K (.ref D) = some (.type "type")) (hs : PySem.W.subIn K (.ref C) (.ref D) = some b) : PySem.W.kitCls K (.ref C) (.ref D) = some b := by
  unfold PySem.W.kitCls
  unfold PySem.W.isClsIn at hi
  dsimp only
  rw [hi, ht, if_pos (by decide)]
  exact hs
theorem exm_own {K : PySem.W.Frag} {C D : Addr} {b : Bool} (hb : PySem.W.subIn K (.ref D) (.type "BaseException") = some true) (hi : PySem.W.isClsIn K D = true) (ht : PySem.W.typeIn K (.ref D) = some (.type "type")) (hs : PySem.W.subIn K (.ref C) (.ref D) = some b) : PySem.W.exmOne K (.ref C) (.ref D) = some b := by
  unfold PySem.W.exmOne
  rw [hb, if_pos (by decide)]
  exact kitCls_own hi ht hs
theorem kit_me {K : PySem.W.Frag} {C : Addr} : PySem.W.kitOne K (.ref C) (.ref C) = some true := if_pos (beq_self_eq_true _)
theorem kit_own {K : PySem.W.Frag} {C D : Addr} {b : Bool} (ne : (Value.ref C == Value.ref D) = false) (hi : PySem.W.isClsIn K D = true) (ht : PySem.W.typeIn K (.ref D) = some (.type "type")) (hs : PySem.W.subIn K (.ref C) (.ref D) = some b) : PySem.W.kitOne K (.ref C) (.ref D) = some b := by
  unfold PySem.W.kitOne
  rw [ne, if_neg (by decide)]
  exact kitCls_own hi ht hs
theorem kit_val {K : PySem.W.Frag} {C : Addr} {b : Bool} (hs : PySem.W.subIn K (.ref C) (.type "ValueError") = some b) : PySem.W.kitOne K (.ref C) (.type "ValueError") = some b := by
  unfold PySem.W.kitOne
  rw [if_neg (by intro z; cases (of_decide_eq_true z))]
  show (if PySem.W.kitMeta "ValueError" = true then PySem.W.subIn K (.ref C) (.type "ValueError") else none) = some b
  rw [if_pos (by decide +kernel)]
  exact hs
theorem isEx_ {K : PySem.W.Frag} {C xa X : Addr} {H : Hp} {Q : VK} {b : Bool} (x : ExcC K C) (i : PySem.W.kitOne K (.ref C) (.ref X) = some b) (q : Q (.bl b) H) : rIsEx K (.ref C) none xa [.ref xa, .ref X] H Q :=
  ⟨C, rfl, rfl, x, .ref X, .ref X, b, rfl, fun u h => h, i, q⟩
theorem isExT_ {K : PySem.W.Frag} {C xa : Addr} {t : String} {H : Hp} {Q : VK} {b : Bool} (x : ExcC K C) (i : PySem.W.kitOne K (.ref C) (.type t) = some b) (q : Q (.bl b) H) : rIsEx K (.ref C) none xa [.ref xa, .ty t] H Q :=
  ⟨C, rfl, rfl, x, .ty t, .type t, b, rfl, fun u h => h, i, q⟩
theorem share {W : WX} {σ : L2.St} {H : Hp} {c : Value} {G : Prop} (use : (∀ H', Same H H' → W c none σ H') → G) (hw : ∀ H', Same H H' → W c none σ H') : G := use hw
theorem s2_dp {K : PySem.W.Frag} {H : Hp} {p : Addr} {a b : Int} (q : SqT K H p [.int a, .int b]) : Dp K H (.ref p) (dS2 a b) := .tup q (.cons (.int _) (.cons (.int _) .nil))

/-! tuple(reversed(a tuple)) -/
open PySem PySem.Spec PyProof.Rows L2 RT

theorem nolen_rt : typeLookup (.type "reversed") "__len__" = pure none := by rw [typeLookup_type, builtinLookup_eq_fast]; kernel_rfl
theorem hint_rt : typeLookup (.type "reversed") "__length_hint__" = pure (some (.builtin "reversed.__length_hint__")) := by rw [typeLookup_type, builtinLookup_eq_fast]; kernel_rfl
theorem slot_rt_hint : Slot "reversed" "__length_hint__" "reversed.__length_hint__" :=
  .of (owner := "reversed") (n := "__length_hint__") (by rw [typeLookup_type, builtinLookup_eq_fast]; kernel_rfl) (by decide +kernel) (by decide +kernel) (by decide +kernel)
    (by first | exact .inl (by decide +kernel) | exact .inr (by decide +kernel)) (by rw [isSubtype_type]; kernel_rfl)
theorem entry_rt_hint : entryFor table "reversed.__length_hint__" = some Builtin.«reversed.__length_hint__» := entryFor_of_tree (by kernel_rfl)
theorem args_rt_hint (a : Value) : argsOk "reversed.__length_hint__" ⟨[a], []⟩ := by
  unfold argsOk; rw [signature?_of (id := "reversed.__length_hint__") (n := "__length_hint__".toList.reverse) (o := ['d', 'e', 's', 'r', 'e', 'v', 'e', 'r']) (by kernel_rfl) owner_rt]; kernel_rfl
section
variable {prog : Program} {w : World} {A : Around} {E : Value → Shared → Prop} {s : Shared}
theorem hint_rt_runs {it t : Addr} {items : Array Value} {Q : Value → Shared → Prop} (hit : IsRt s.heap it t ((items.size : Int) - 1)) 
    (hlen : ∀ (s : Shared) (A : Around) (E : Value → Shared → Prop) (Q : Value → Shared → Prop), IsTup s.heap t items → Q (.int items.size (s.toks + 1)) { s with toks := s.toks + 1 + 1 } → wpAny (model prog w) A (call (.builtin "len") [.ref t]) Q E s)
    (ht : IsTup s.heap t items) (h : ∀ tk tk', Q (.int items.size tk) { s with toks := tk' }) : wpAny (model prog w) A (call (.builtin "reversed.__length_hint__") [.ref it]) Q E s := by
  obtain ⟨o, ho, hc, hd⟩ := id hit
  refine wpAny_call_entry slot_rt_hint hit.typeIs entry_rt_hint ?_ (args_rt_hint _)
  unfold Builtin.«reversed.__length_hint__»
  refine wpAny_bind (wpAny_of_eq (a := Value.ref it) rfl ?_)
  try dsimp only
  refine wpAny_bind (wpAny_field ho hd (x := .ref t) rfl ?_)
  show wpAny _ _ (call (.builtin "len") [.ref t] >>= _) _ _ s
  refine wpAny_bind (hlen _ _ _ _ ht ?_)
  refine wpAny_bind (wpAny_of_eq (a := some ((items.size : Nat) : Int)) rfl ?_)
  try dsimp only
  refine wpAny_bind (wpAny_field (s := { s with toks := s.toks + 1 + 1 }) ho hd (x := rawInt ((items.size : Int) - 1)) rfl ?_)
  show wpAny _ _ (if (items.size : Int) < (items.size : Int) - 1 + 1 then _ else _) _ _ _
  rw [if_neg (by omega)]
  have e : (items.size : Int) - 1 + 1 = (items.size : Int) := by omega
  rw [e]
  refine wpAny_bind (wpAny_mkInt ?_)
  exact wpAny_pure ⟨_, rfl, h _ _⟩

theorem isTup_at {h h' : Heap} {t : Addr} {items : Array Value} (x : IsTup h t items) (e : ∀ o, h.get? t = some o → h'.get? t = some o) : IsTup h' t items := let ⟨o, ho, r⟩ := x; ⟨o, e _ ho, r⟩
/-- reversed(t), walked -/
theorem walks_rt (hh : A.handled = none) (I t : Addr) (hne : t ≠ I) (items : Array Value) (hsz : items.size ≤ sizeLine) :
    Walks prog w A I [I, t] [I] items.size (fun i v => items[items.size - 1 - i]? = some v) (fun i h => i ≤ items.size ∧ IsRt h I t ((items.size : Int) - 1 - (i : Int)) ∧ IsTup h t items) where
  sub := fun b hb => by simp at hb; simp [hb]
  frame := fun _ _ _ x hk => ⟨x.1, x.2.1.at fun o e => hk I (by simp) o e, isTup_at x.2.2 fun o e => hk t (by simp) o e⟩
  item := fun i s Q E hi x hQ => by
    have e : (items.size : Int) - 1 - (i : Int) = ((items.size - 1 - i : Nat) : Int) := by omega
    have hit := x.2.1
    rw [e] at hit
    have hx : items[items.size - 1 - i]? = some (items[items.size - 1 - i]'(by omega)) := Array.getElem?_eq_getElem (by omega)
    refine next_rt_item hit x.2.2 hx hsz fun h' hit' hs' => ?_
    have e2 : ((items.size - 1 - i : Nat) : Int) - 1 = (items.size : Int) - 1 - ((i + 1 : Nat) : Int) := by omega
    rw [e2] at hit'
    exact hQ _ h' (s.toks + 1) hx ⟨hi, hit', isTup_at x.2.2 fun o eo => (hs'.2 t hne).trans eo⟩ fun b o hb eo => hs'.extBut b o (fun h => hb (by simp [h])) eo
  done := fun s Q E x hQ => by
    have e : (items.size : Int) - 1 - (items.size : Int) = -1 := by omega
    have hit := x.2.1
    rw [e] at hit
    exact next_rt_end hh hit fun h' he' => hQ h' s.toks fun b o hb eo => he' b o (fun h => hb (by simp [h])) eo
  self := fun _ _ _ _ x hQ => iter_rt x.2.1 hQ

theorem collect_rt {it t : Addr} {items : Array Value} {Q : List Value → Shared → Prop} (hh : A.handled = none) (hit : IsRt s.heap it t ((items.size : Int) - 1)) (hl : IsTup s.heap t items) (hne : t ≠ it) (hn : items.size ≤ sizeLine) (h0 : 0 < items.size)
    (hlen : ∀ (s : Shared) (A : Around) (E : Value → Shared → Prop) (Q : Value → Shared → Prop), IsTup s.heap t items → Q (.int items.size (s.toks + 1)) { s with toks := s.toks + 1 + 1 } → wpAny (model prog w) A (call (.builtin "len") [.ref t]) Q E s)
    (hQ : ∀ (h' : Heap) (tk : Nat) (acc : Array Value), (∀ b o, b ≠ it → s.heap.get? b = some o → h'.get? b = some o) → ItemsOf (fun i v => items[items.size - 1 - i]? = some v) acc items.size → Q acc.toList { s with heap := h', toks := tk }) :
    wpAny (model prog w) A (collect (.ref it)) Q E s := by
  have W := (walks_rt (prog := prog) (w := w) (A := A.in1) hh it t hne items hn).toS
  obtain ⟨oi, hoi, _⟩ := id hit
  obtain ⟨ol, hol, _⟩ := id hl
  have hSi : s.heap.objs.size ≠ it := Nat.ne_of_gt (Heap.lt_size hoi)
  have hSl : s.heap.objs.size ≠ t := Nat.ne_of_gt (Heap.lt_size hol)
  have hSf : s.heap.objs.size ∉ [it, t] := by simp only [List.mem_cons, List.not_mem_nil, or_false, not_or]; exact ⟨hSi, hSl⟩
  unfold collect
  refine wpAny_bind (wpAny_runValue (codeAny_builtin F.entry_proto_collect ?_))
  rw [Around.under_plainId F.plain_proto_collect _]
  show wpAny _ A.in1 (newList [] >>= fun l' => again (.builtin "list.__iadd__" ⟨[l', .ref it], []⟩)) _ _ s
  refine wpAny_bind (wpAny_newObj_type ?_)
  refine wpAny_pure ⟨plainId_quiet F.plain_list_iadd _, codeAny_builtin F.entry_list_iadd ?_⟩
  rw [Around.under_plainId F.plain_list_iadd _]
  have hS₁ : (s.heap.push { cls := .type "list", data := .seq ([] : List Value).toArray }).get? s.heap.objs.size = some { cls := .type "list", data := .seq ([] : List Value).toArray } := Heap.get?_push_size _ rfl
  have hit1 : IsRt (s.heap.push { cls := .type "list", data := .seq ([] : List Value).toArray }) it t ((items.size : Int) - 1) := hit.at fun o e => Heap.get?_push_of_some _ e
  have hl1 : IsTup (s.heap.push { cls := .type "list", data := .seq ([] : List Value).toArray }) t items := isTup_at hl fun o e => Heap.get?_push_of_some _ e
  have hT : ({ s with heap := s.heap.push { cls := .type "list", data := .seq ([] : List Value).toArray } } : Shared).TypeIs (.ref it) "reversed" := IsRt.typeIs (s := { s with heap := s.heap.push { cls := .type "list", data := .seq ([] : List Value).toArray } }) hit1
  have h1 : Builtin.List.listSameRef (.ref s.heap.objs.size) (.ref it) = false := by simp [Builtin.List.listSameRef, hSi]
  show wpAny _ A.in1 (Builtin.List.listExtendWith (.ref s.heap.objs.size) (.ref it) (.ref s.heap.objs.size)) _ _ _
  unfold Builtin.List.listExtendWith
  refine wpAny_bind (wpAny_typeOf hT ?_)
  rw [if_neg (by rw [h1]; decide)]
  refine wpAny_bind (iter_rt (s := { s with heap := s.heap.push { cls := .type "list", data := .seq ([] : List Value).toArray } }) hit1 ?_)
  refine wpAny_bind (wpAny_holding ?_)
  unfold Builtin.List.listLengthHint
  refine wpAny_bind (wpAny_specialOf hT nolen_rt ?_)
  show wpAny _ A.in1 (specialOf (Value.ref it) (Str.ofString "__length_hint__") >>= _) _ _ _
  refine wpAny_bind (wpAny_specialOf hT hint_rt ?_)
  generalize hid : ("reversed.__length_hint__" : String) = id0
  wp_delta
  rw [show splitId id0 = some ("reversed", "__length_hint__") from by subst hid; decide +kernel]
  subst hid
  refine wpAny_bind (wpAny_isInstance (b := true) hT (by rw [isSubtype_type]; kernel_rfl) ?_)
  refine wpAny_bind (wpAny_rule ?_)
  refine wpAny_bind (wpAny_of_eq (slot_rt_hint.bind _) ?_)
  try dsimp only
  refine wpAny_bind (wpAny_attempt (hint_rt_runs hit1 hlen hl1 fun tk tk' => ?_))
  try dsimp only
  rw [sizeLine_eq] at hn
  have g1 : Builtin.List.listFitsIndex ((items.size : Nat) : Int) = true := by simp only [Builtin.List.listFitsIndex, Bool.and_eq_true, decide_eq_true_eq]; omega
  have g2 : Builtin.List.listTooLong (((items.size : Nat) : Int)).toNat = false := by simp only [Builtin.List.listTooLong, sizeLine_eq, decide_eq_false_iff_not]; omega
  have g3 : ((((items.size : Nat) : Int)) != 0) = true := by simp only [bne_iff_ne, ne_eq]; omega
  have g4 : ¬ (((items.size : Nat) : Int)) < 0 := by omega
  generalize Builtin.List.listFitsIndex = lf at g1 ⊢
  generalize Builtin.List.listTooLong = lt at g2 ⊢
  refine wpAny_bind (wpAny_of_eq (a := some ((items.size : Nat) : Int)) rfl ?_)
  try dsimp only
  simp only [g1, g2, g3, Bool.not_true, Bool.false_eq_true, if_false, if_neg g4]
  refine wpAny_pure ?_
  simp only [Bool.true_or, if_true]
  refine wpAny_bind (wpAny_rule ?_)
  refine wpAny_bind ?_
  show wpAny _ A.in1 (updateSeq s.heap.objs.size (·.push .none) >>= fun _ => updateSeq s.heap.objs.size (·.pop)) _ _ _
  refine wpAny_bind (wpAny_updateSeq (s := { s with heap := s.heap.push { cls := .type "list", data := .seq ([] : List Value).toArray }, toks := tk' }) hS₁ rfl ?_)
  have hS₂ := Heap.get?_update_self (Obj.mapSeq (·.push Value.none)) hS₁ rfl
  refine wpAny_updateSeq (s := { s with heap := (s.heap.push { cls := .type "list", data := .seq ([] : List Value).toArray }).update s.heap.objs.size (Obj.mapSeq (·.push Value.none)), toks := tk' }) hS₂ rfl ?_
  have hS₃ := Heap.get?_update_self (Obj.mapSeq (·.pop)) hS₂ rfl
  have oth : ∀ b o, b ≠ s.heap.objs.size → (s.heap.push { cls := .type "list", data := .seq ([] : List Value).toArray }).get? b = some o →
      (((s.heap.push { cls := .type "list", data := .seq ([] : List Value).toArray }).update s.heap.objs.size (Obj.mapSeq (·.push Value.none))).update s.heap.objs.size (Obj.mapSeq (·.pop))).get? b = some o :=
    fun b o hb e => (Heap.get?_update_other _ _ (Ne.symm hb)).trans ((Heap.get?_update_other _ _ (Ne.symm hb)).trans e)
  have e0 : ((items.size : Nat) : Int) - 1 - ((0 : Nat) : Int) = (items.size : Int) - 1 := by omega
  refine wpAny_pure ⟨plainId_quiet F.plain_extend_loop _, codeAny_extend_loopS W (by rw [sizeLine_eq]; exact hn) _ hSf _ items.size 0 _ _ _ rfl (Nat.zero_le _) ⟨Nat.zero_le _, ?_, ?_⟩ hS₃ (ItemsOf.nil _) fun s' acc' c' hm hS' hacc => ?_⟩
  · rw [e0]; exact hit1.at fun o e => oth it o (Ne.symm hSi) e
  · exact isTup_at hl1 fun o e => oth t o (Ne.symm hSl) e
  show wpAny _ A (load s.heap.objs.size >>= _) _ _ s'
  refine wpAny_bind (wpAny_load hS' ?_)
  refine wpAny_pure ?_
  rw [Moved.eq_with hm]
  refine hQ s'.heap s'.toks acc' (fun b o hb e => hm.heap b o (fun hmem => ?_) (oth b o (fun e' => absurd (Heap.lt_size e) (by rw [e']; exact Nat.lt_irrefl _)) (Heap.get?_push_of_some _ e))) hacc
  rcases List.mem_cons.mp hmem with e' | hmem
  · exact absurd (Heap.lt_size e) (by rw [e']; exact Nat.lt_irrefl _)
  · exact hb (List.mem_singleton.mp hmem)
theorem code_tuple_new_rt {it t : Addr} {items : Array Value} {Q₁ : Value → Shared → Prop} (hh : A.handled = none) (hit : IsRt s.heap it t ((items.size : Int) - 1)) (hl : IsTup s.heap t items) (hne : t ≠ it) (hn : items.size ≤ sizeLine) (h0 : 0 < items.size)
    (hlen : ∀ (s : Shared) (A : Around) (E : Value → Shared → Prop) (Q : Value → Shared → Prop), IsTup s.heap t items → Q (.int items.size (s.toks + 1)) { s with toks := s.toks + 1 + 1 } → wpAny (model prog w) A (call (.builtin "len") [.ref t]) Q E s)
    (h : ∀ (h' : Heap) (tk : Nat) (acc : Array Value), (∀ b o, b ≠ it → s.heap.get? b = some o → h'.get? b = some o) → ItemsOf (fun i v => items[items.size - 1 - i]? = some v) acc items.size →
      Q₁ (.ref h'.objs.size) { s with heap := h'.push { cls := .type "tuple", data := .seq acc }, toks := tk }) :
    codeAny (model prog w) A (.call (.builtin "tuple.__new__") ⟨[.type "tuple", .ref it], []⟩) (wants Q₁ E) s := by
  refine codeAny_of_tree ?_
  show wpAny _ A.in1 (do checkBuiltinCall "tuple.__new__" ⟨[.type "tuple", .ref it], []⟩; again (.builtin "tuple.__new__" ⟨[.type "tuple", .ref it], []⟩)) _ _ s
  refine wpAny_bind (wpAny_of_eq (F.newCall_tuple_1 _) (wpAny_pure ⟨plainId_quiet F.plain_tuple_new _, codeAny_builtin F.entry_tuple_new ?_⟩))
  rw [Around.under_plainId F.plain_tuple_new _]
  have hsub := sub_tuple_self
  have hinit := init_tuple_lookup
  have hmh := madeHere_tuple
  have hTI : s.TypeIs (.ref it) "reversed" := hit.typeIs
  have hh1 : A.in1.handled = none := hh
  wp_walk using wpAny_typeOf hTI, collect_rt (A := A.in1) hh1 hit hl hne hn h0 hlen
  intro h' tk acc hk hacc
  show wpAny _ _ (Builtin.Tuple.tupleExact acc.toList.toArray >>= fun v => ret v) _ _ _
  unfold Builtin.Tuple.tupleExact
  refine wpAny_bind (wpAny_newObj_type ?_ (by show acc.toList.toArray.size ≤ sizeLine; simp only [Array.toArray_toList]; rw [hacc.1]; exact hn))
  refine wpAny_pure ?_
  have e : acc.toList.toArray = acc := by simp
  rw [e]
  exact h h' tk acc hk hacc
theorem call_tuple_rt {it t : Addr} {items : Array Value} {Q : Value → Shared → Prop} (hh : A.handled = none) (hit : IsRt s.heap it t ((items.size : Int) - 1)) (hl : IsTup s.heap t items) (hne : t ≠ it) (hn : items.size ≤ sizeLine) (h0 : 0 < items.size)
    (hlen : ∀ (s : Shared) (A : Around) (E : Value → Shared → Prop) (Q : Value → Shared → Prop), IsTup s.heap t items → Q (.int items.size (s.toks + 1)) { s with toks := s.toks + 1 + 1 } → wpAny (model prog w) A (call (.builtin "len") [.ref t]) Q E s)
    (hQ : ∀ (h' : Heap) (tk : Nat) (acc : Array Value), (∀ b o, b ≠ it → s.heap.get? b = some o → h'.get? b = some o) → ItemsOf (fun i v => items[items.size - 1 - i]? = some v) acc items.size →
      Q (.ref h'.objs.size) { s with heap := h'.push { cls := .type "tuple", data := .seq acc }, toks := tk }) :
    wpAny (model prog w) A (call (.type "tuple") [.ref it]) Q E s := by
  refine callType_codes (Q₁ := fun obj s₁ => s₁.TypeIs obj "tuple" ∧ Q obj s₁) F.called_tuple (F.typeCall_tuple_1 _) F.entry_object_init
    (code_tuple_new_rt (A := A.in1) hh hit hl hne hn h0 hlen fun h' tk acc hk hacc => ⟨⟨_, Heap.get?_push_size _ rfl, rfl⟩, hQ h' tk acc hk hacc⟩) fun obj s₁ h₁ => ?_
  exact ⟨h₁.1, F.args_object_init_2 obj _, object_init_meets F.called_tuple.init.lookup F.called_tuple.made (by decide) prog w A.in1 _ s₁ ⟨h₁.1, rfl, h₁.2⟩⟩
end
section
variable {X : Cx}
/-- tuple(reversed(x)), x a tuple with an item: a new tuple -/
def tTupRt (K : PySem.W.Frag) (te : TE) : TE := fun σ H Q => te σ H fun v H1 => ∃ (a : Addr) (xs : List V), v = .ref a ∧ xs ≠ [] ∧ SqT K H1 a xs ∧ ∀ q, H1 q = none → Q (.ref q) (upd H1 q (.tup xs.reverse))
theorem pe_tupRt {e : Expr} {te : TE} {p p2 pos pos2 : Pos} (hc : X.calm = true) (hg : Gl X "tuple") (hm : X.mg "tuple" = none) (hg2 : Gl X "reversed") (hm2 : X.mg "reversed" = none) (he : PE X e te)
    (hs : starEach [e] X.env = (false, eval e X.env) :: starEach [] X.env := by rfl)
    (hs2 : starEach [.Call (.Name "reversed" p2) [e] [] pos2] X.env = (false, eval (.Call (.Name "reversed" p2) [e] [] pos2) X.env) :: starEach [] X.env := by rfl) :
    PE X (.Call (.Name "tuple" p) [.Call (.Name "reversed" p2) [e] [] pos2] [] pos) (tTupRt X.K te) := by
  refine ⟨fun pins s σ H Q I h => ?_⟩
  refine Call_ (ld_blt I hg hm boot_tuple (PyProof.Rows.callWith_type1 (args_cons (Call_ (ld_blt I hg2 hm2 PyProof.Rows.boot_reversed (PyProof.Rows.callWith_type1 (args_cons (thn (he.run pins s σ H _ I h) fun u s1 ⟨v, H1, I1, r1, q1⟩ => args_nil ?_) hs) hs rfl))) hs2) hs2 rfl))
  obtain ⟨a, xs, ev, hx0, hq, q⟩ := q1
  subst ev
  obtain rfl : u = Value.ref a := r1
  obtain ⟨its, rv, p', hz⟩ := I1.tuple hq
  have hl := rv.length
  have hn63 := line63
  have hn : its.toArray.size ≤ sizeLine := by rw [List.size_toArray, ← rv.length]; exact hz
  have hlen : ∀ (s : Shared) (A : Around) (E : Value → Shared → Prop) (Q : Value → Shared → Prop), IsTup s.heap a its.toArray → Q (.int its.toArray.size (s.toks + 1)) { s with toks := s.toks + 1 + 1 } → wpAny (model X.prog X.w) A (call (.builtin "len") [.ref a]) Q E s :=
    fun s A E Q pt k => len_tuple pt (by simp only [List.size_toArray] at hn ⊢ <;> omega) k
  refine call_reversed_tup p' (hlen s1 · · · p') (args_nil ?_)
  have k0 : ∀ b o, s1.heap.get? b = some o → (s1.heap.push (rtObj a ((its.toArray.size : Int) - 1))).get? b = some o := fun b o e => Heap.get?_push_of_some _ e
  have I2 : Inv X pins σ H1 { s1 with heap := s1.heap.push (rtObj a ((its.toArray.size : Int) - 1)), toks := s1.toks + 1 + 1 } := I1.kept (t' := s1.toks + 1 + 1) k0
  obtain ⟨f0, f1, f2, f3, f4, f5⟩ := I1.fpOk (H' := H1) (b := s1.heap.objs.size) (Nat.le_refl _) (I1.hok.fresh (Nat.le_refl _))
  obtain ⟨ol, hol, _⟩ := id p'
  have hne : a ≠ s1.heap.objs.size := Nat.ne_of_lt (Heap.lt_size hol)
  have h0 : 0 < its.toArray.size := by
    rw [List.size_toArray, ← rv.length]
    exact List.length_pos_iff.2 hx0
  refine call_tuple_rt (s := { s1 with heap := s1.heap.push (rtObj a ((its.toArray.size : Int) - 1)), toks := s1.toks + 1 + 1 }) (I1.ok.hd hc) ⟨_, Heap.get?_push_size _ rfl, rfl, rfl⟩ (isTup_at p' fun o e => k0 a o e) hne hn h0 hlen fun h' tk acc hk hi => ?_
  have I3 : Inv X pins σ H1 { s1 with heap := h', toks := tk } := I2.turned (t' := tk) (fun b o hb e => hk b o hb e) f0 f1 f3 f4 f5
  refine ⟨.ref h'.objs.size, upd H1 h'.objs.size (.tup xs.reverse), I3.laid (t' := tk) (fun c o e => Heap.get?_push_of_some _ e) (Nat.le_refl _) (show ObjOk X.prog X.w _ _ _ (.tup xs.reverse) from ⟨by rw [List.length_reverse]; exact hz, acc.toList, vals_rev rv hi, ?_⟩), rfl, q _ (I3.hok.fresh (Nat.le_refl _))⟩
  rw [Array.toArray_toList]
  exact IsTup.new _ _
theorem k_tupRt (K : PySem.W.Frag) {e : Expr} {te : TE} {p p2 pos pos2 : Pos} (hc : X.calm = true) (hg : Gl X "tuple") (hm : X.mg "tuple" = none) (hg2 : Gl X "reversed") (hm2 : X.mg "reversed" = none) (he : PE X e te) (hK : X.K = K := by rfl)
    (hs : starEach [e] X.env = (false, eval e X.env) :: starEach [] X.env := by rfl)
    (hs2 : starEach [.Call (.Name "reversed" p2) [e] [] pos2] X.env = (false, eval (.Call (.Name "reversed" p2) [e] [] pos2) X.env) :: starEach [] X.env := by rfl) :
    PE X (.Call (.Name "tuple" p) [.Call (.Name "reversed" p2) [e] [] pos2] [] pos) (tTupRt K te) := by
  subst hK
  exact pe_tupRt hc hg hm hg2 hm2 he hs hs2
end
section
variable {K : PySem.W.Frag} {ec : EC} {F : Fr K ec}
def aTupRt (ae : AE) : AE := fun ρ Φ => ae ρ fun v => ∃ xs, v = .d (.tuple xs) ∧ xs ≠ [] ∧ Φ (.d (.tuple xs.reverse))
theorem wTupRt {ae : AE} {ρ : Rho} {Φ : AV → Prop} (h : ae ρ fun v => ∃ xs, v = .d (.tuple xs) ∧ xs ≠ [] ∧ Φ (.d (.tuple xs.reverse))) : aTupRt ae ρ Φ := h
instance {te : TE} {ae : AE} [SE F te ae] : SE F (tTupRt K te) (aTupRt ae) where
  snd := fun Z ρ σ H Φ Q o q k => by
    refine SE.snd (F := F) (te := te) (ae := ae) Z ρ σ H _ _ o q fun x ax H1 Z1 q1 s1 r1 => ?_
    obtain ⟨xs, e, ne, q⟩ := q1
    subst e
    obtain ⟨i, d⟩ := r1
    cases d with
    | tup q1 a1 =>
    refine ⟨_, _, rfl, fun z => ?_, q1, fun p n => ?_⟩
    · subst z
      cases a1
      exact ne rfl
    · exact k _ _ _ Z1 q (s1.trans o.row (step_same (o.step s1) (same_new n))) ⟨tup_imm (immAll_sub (imm_tup i) fun y hy => List.mem_reverse.mp hy), L2.Dp.tup (SqT.of upd_same) (DpAll.imm (same_new n) (dpAll_rev a1))⟩
end

/-! set(a list of texts) -/
def dd (l : List Str) : List Str := l.foldl withX []
theorem withX_mem {xs : List Str} {x y : Str} : y ∈ withX xs x ↔ y ∈ xs ∨ y = x := by
  unfold withX
  split
  · rename_i h
    exact ⟨.inl, fun z => z.elim id fun e => e ▸ h⟩
  · rw [List.mem_append, List.mem_singleton]
theorem withX_len {xs : List Str} {x : Str} : (withX xs x).length ≤ xs.length + 1 := by
  unfold withX
  split
  · omega
  · rw [List.length_append]; exact Nat.le_refl _
theorem dd_snoc (l : List Str) (x : Str) : dd (l ++ [x]) = withX (dd l) x := by unfold dd; rw [List.foldl_append]; rfl
theorem dd_len : ∀ l : List Str, (dd l).length ≤ l.length := fun l => by
  have : ∀ (l : List Str) (a : List Str), (l.foldl withX a).length ≤ a.length + l.length := by
    intro l
    induction l with
    | nil => intro a; exact Nat.le_refl _
    | cons x l ih => intro a; have := ih (withX a x); have := withX_len (xs := a) (x := x); rw [List.foldl_cons, List.length_cons]; omega
  have := this l []
  simpa [dd] using this
theorem dd_mem {l : List Str} {y : Str} : y ∈ dd l ↔ y ∈ l := by
  have : ∀ (l : List Str) (a : List Str), y ∈ l.foldl withX a ↔ y ∈ a ∨ y ∈ l := by
    intro l
    induction l with
    | nil => intro a; simp
    | cons x l ih => intro a; rw [List.foldl_cons, ih, withX_mem, List.mem_cons, or_assoc]
  have := this l []
  simpa [dd] using this
section
variable {P : Program} {w : World} {A : Around} {R : Result → Shared → Prop} {E : Value → Shared → Prop} {s : Shared} {I : Addr} {fp wr : List Addr} {G : Array GenState → Array GenState → Prop} {n : Nat} {Pv : Nat → Value → Prop} {St : Nat → Shared → Prop}
theorem TxSet.at_ {h h' : Heap} {a : Addr} {xs : List Str} (R : TxSet P w h a xs) (k : ∀ o, h.get? a = some o → h'.get? a = some o) : TxSet P w h' a xs := let ⟨o, es, ep, t, ho, r⟩ := R; ⟨o, es, ep, t, k _ ho, r⟩
theorem tx_loop (W : WalksS P w A.in1 I fp wr G n Pv St) (S : Addr) (hSf : S ∉ fp) (xs : List Str) (hsz : xs.length = n) (few : n + 1 < scanBound) (hval : ∀ i v, Pv i v → ∃ x t, xs[i]? = some x ∧ v = .str x t) :
    ∀ (k i : Nat) (s : Shared), n - i = k → i ≤ n → St i s → TxSet P w s.heap S (dd (xs.take i)) → (∀ s', Moved (S :: wr) G s s' → TxSet P w s'.heap S (dd xs) → R (.ok (.ret .none)) s') →
      codeAny (model P w) A (.builtin "set.update.loop" ⟨[.ref S, .ref I], []⟩) R s := by
  have hSw : S ∉ wr := fun h => hSf (W.sub _ h)
  have hsub : ∀ b ∈ wr, b ∈ S :: wr := fun b hb => List.mem_cons_of_mem _ hb
  intro k
  induction k with
  | zero =>
    intro i s hk hi hst hS hR
    have hin : i = n := by omega
    subst hin
    refine codeAny_builtin PyProof.Rows.F.entry_set_update_loop ?_
    rw [Around.under_plainId PyProof.Rows.F.plain_set_update_loop _]
    show wpAny _ A.in1 (pyNext (.ref I) >>= _) _ _ s
    refine wpAny_bind (W.done s _ _ hst fun s' hm => ?_)
    show wpAny _ A.in1 (ret Value.none) _ _ s'
    rw [List.take_of_length_le (by omega)] at hS
    exact wpAny_pure (hR s' (hm.mono hsub) (hS.at_ fun o e => hm.heap S o hSw e))
  | succ k ih =>
    intro i s hk hi hst hS hR
    have hlt : i < n := by omega
    refine codeAny_builtin PyProof.Rows.F.entry_set_update_loop ?_
    rw [Around.under_plainId PyProof.Rows.F.plain_set_update_loop _]
    show wpAny _ A.in1 (pyNext (.ref I) >>= _) _ _ s
    refine wpAny_bind (W.item i s _ _ hlt hst fun v s' hP hst' hm => ?_)
    obtain ⟨x, t, hx, rfl⟩ := hval i v hP
    have hS' := hS.at_ fun o e => hm.heap S o hSw e
    show wpAny _ A.in1 (holding [Value.str x t] (setAdd S (.str x t)) >>= _) _ _ s'
    refine wpAny_bind (wpAny_holding ?_)
    unfold setAdd
    refine wpAny_holding ?_
    refine wpAny_bind ((PySem.strKind P w).pyHash (k := x) (strKind_is _ _ _ _) ?_)
    have l1 := dd_len (xs.take i)
    rw [List.length_take] at l1
    refine tx_hashed (s := { s' with toks := s'.toks + 1 }) hS' (by omega) fun b h' hsb hS2 => ?_
    have e1 : withX (dd (xs.take i)) x = dd (xs.take (i + 1)) := by
      rw [← dd_snoc, List.take_add_one, hx]
      rfl
    rw [e1] at hS2
    refine wpAny_pure ⟨plainId_quiet PyProof.Rows.F.plain_set_update_loop _, ih (i + 1) _ (by omega) hlt (W.frame _ s' _ _ hst' (Nat.le_succ _) fun b hb o e => ?_) hS2 fun s'' hm'' hS'' => ?_⟩
    · rw [hsb.2 b (fun h : b = S => hSf (by rw [← h]; exact hb))]; exact e
    · refine hR s'' (Moved.trans W.gtrans ((hm.mono hsub).then_heap (Nat.le_succ _) fun b o hb e => ?_) hm'') hS''
      rw [hsb.2 b (fun h : b = S => hb (by rw [h]; exact List.mem_cons_self))]; exact e
theorem txSet_new {h : Heap} {a : Addr} (w : World) (e : h.get? a = some (noneYet w)) : TxSet P w h a [] :=
  ⟨_, #[], 0, _, e, ⟨rfl, rfl, rfl⟩, rfl, ⟨fun e he => by simp at he, by simp, List.nodup_nil, by decide, by rfl, by
    show Ris ([] : List Nat)
    exact List.Pairwise.nil, by
    cases w.params.followText "set-order" with
    | true => exact .inl rfl
    | false => exact .inr rfl⟩⟩
set_option maxHeartbeats 3200000 in
theorem call_setX {l : Addr} {items : Array Value} {xs : List Str} {Q : Value → Shared → Prop} (hh : A.handled = none) (hl : s.heap.IsList l items) (hi : PyProof.Rows.StrsAre items.toList xs) (few : xs.length + 1 < scanBound)
    (h : ∀ (h' : Heap) (tk : Nat), TxSet P w h' s.heap.objs.size (dd xs) → (∀ b o, s.heap.get? b = some o → h'.get? b = some o) → Q (.ref s.heap.objs.size) { s with heap := h', toks := tk }) :
    wpAny (model P w) A (call (.type "set") [.ref l]) Q E s := by
  have hsz : xs.length = items.size := by rw [← StrsAre.len_eq hi, Array.length_toList]
  obtain ⟨c, tl, hmro⟩ := F.called_set.mro
  have hmade := F.called_set.made
  have hsub := F.called_set.sub
  refine wpAny_call (codeAny_of_tree ?_)
  show wpAny _ _ (callAny (.type "set") _) _ _ _
  refine wpAny_pure ⟨Code.quiet_builtin _ (by decide +kernel), codeAny_builtin F.entry_type_call ?_⟩
  rw [Around.under_plain (weight_type_call_type "set" [.ref l] []) rfl]
  have h1 := F.called_set.notType
  have h2 := F.called_set.canCreate
  have hct := F.typeCall_set_1 (.ref l)
  repeat (any_goals (first | assumption | wp_step))
  refine codeAny_mono (code_set_led1 (.ref l) (E := E) (Q₁ := fun obj s₁ => obj = .ref s.heap.objs.size ∧ s₁ = { s with heap := s.heap.push (noneYet w) }) ⟨rfl, rfl⟩) fun r s₁ hr => ?_
  cases r with
  | error e => exact hr
  | ok fl =>
    cases fl with
    | ret obj =>
      obtain ⟨rfl, rfl⟩ := hr
      have hS : (s.heap.push (noneYet w)).get? s.heap.objs.size = some (noneYet w) := Heap.get?_push_size _ rfl
      have hT : Shared.TypeIs { s with heap := s.heap.push (noneYet w) } (.ref s.heap.objs.size) "set" := ⟨_, hS, rfl⟩
      have hli := F.called_set.init.lookup
      have hbi := F.called_set.init.bind (.ref s.heap.objs.size)
      unfold noneYet at hS hT ⊢
      repeat (any_goals (first | assumption | wp_step))
      refine codeAny_mono (codeAny_call_builtin (R := wants (fun r s₂ => r = .none ∧ ∃ h' tk, s₂ = { s with heap := h', toks := tk } ∧ TxSet P w h' s.heap.objs.size (dd xs) ∧ (∀ b o, s.heap.get? b = some o → h'.get? b = some o)) E) F.called_set.init.plain F.entry_set_init (check_set_init_1 hT ?_)) fun r₂ s₂ hr₂ => ?_
      · obtain ⟨ol, hol, hcl, nl, hdl⟩ := hl
        obtain ⟨ocls, odict, odata, oslots⟩ := ol
        simp only at hcl hdl
        subst hcl; subst hdl
        have hol' : (s.heap.push { cls := .type "set", dict := none, data := .set #[] 0 (.fresh 0 0 (!w.params.followText "set-order")) }).get? l = some { cls := .type "list", dict := odict, data := .seq items nl, slots := oslots } := Heap.get?_push_of_some _ hol
        have hsls := F.sub_list_set
        have hslf := F.sub_list_frozenset
        have hne : (Value.type "list" == Value.type "dict") = false := by decide
        have hl1 : (s.heap.push { cls := .type "set", dict := none, data := .set #[] 0 (.fresh 0 0 (!w.params.followText "set-order")) }).IsList l items := ⟨_, hol', rfl, nl, rfl⟩
        unfold Builtin.«set.__init__» noKeywords Builtin.Frozenset.updateFrom
        generalize hPI : pyIter = PI
        wp_walk
        subst hPI
        refine wpAny_pyIter_list hl1 ?_
        refine wpAny_bind (wpAny_runValue ?_)
        have hlS : l < s.heap.objs.size := Heap.lt_size hol
        have hh3 : A.in1.in1.in1.handled = none := by simp [hh]
        have hneI : l ≠ (s.heap.push { cls := .type "set", dict := none, data := .set #[] 0 (.fresh 0 0 (!w.params.followText "set-order")) }).objs.size := by
          rw [Heap.size_push]; exact Nat.ne_of_lt (Nat.lt_succ_of_lt hlS)
        have hSf : s.heap.objs.size ∉ [(s.heap.push { cls := .type "set", dict := none, data := .set #[] 0 (.fresh 0 0 (!w.params.followText "set-order")) }).objs.size, l] := by
          rw [Heap.size_push]; simp only [List.mem_cons, List.mem_singleton, List.not_mem_nil, or_false, not_or]
          exact ⟨Nat.ne_of_lt (Nat.lt_succ_self _), Nat.ne_of_gt hlS⟩
        have hval : ∀ (i : Nat) (v : Value), items[i]? = some v → ∃ x t, xs[i]? = some x ∧ v = .str x t := fun i v hv => by
          have hi2 : i < xs.length := by rw [hsz]; exact (Array.getElem?_eq_some_iff.mp hv).1
          obtain ⟨t, e⟩ := SS.strs_at hi i v (by rw [Array.getElem?_toList]; exact hv)
          refine ⟨xs[i], t, List.getElem?_eq_getElem hi2, ?_⟩
          rw [e, List.getD_eq_getElem?_getD, List.getElem?_eq_getElem hi2] <;> rfl
        refine tx_loop ((Walks.list hh3 _ l hneI items).toS) s.heap.objs.size hSf xs hsz (by omega) hval (items.size - 0) 0 _ (by omega) (Nat.zero_le _) ⟨⟨_, Heap.get?_push_size _ rfl, rfl, rfl⟩, (hl1.push _)⟩ ?hS0 ?hR
        case hS0 => exact txSet_new w (Heap.get?_push_of_some _ hS)
        case hR =>
          intro s' hm hS'
          obtain ⟨h', g2, d', tk', os'⟩ := s'
          have eg : g2 = s.gens := hm.gens
          have ed : d' = s.drawn := hm.drawn
          have eo : os' = s.os := hm.os
          subst eg; subst ed; subst eo
          show wpAny _ _ _ _ _ _
          refine wpAny_pure ?_
          show wpAny _ _ (ret Value.none) _ _ _
          refine wpAny_pure ⟨rfl, h', tk', rfl, hS', fun b o e => ?_⟩
          have hb0 : b < s.heap.objs.size := Heap.lt_size e
          have hb2 : b ≠ (s.heap.push { cls := .type "set", dict := none, data := .set #[] 0 (.fresh 0 0 (!w.params.followText "set-order")) }).objs.size := by
            rw [Heap.size_push]; exact Nat.ne_of_lt (Nat.lt_succ_of_lt hb0)
          exact hm.heap b o (by simp only [List.mem_cons, List.mem_singleton, List.not_mem_nil, or_false, not_or]; exact ⟨Nat.ne_of_lt hb0, hb2⟩) (Heap.get?_push_of_some _ (Heap.get?_push_of_some _ e))
      · cases r₂ with
        | error e => exact hr₂
        | ok fl₂ =>
          cases fl₂ with
          | ret r =>
            obtain ⟨rfl, h', tk, rfl, hS', hk'⟩ := hr₂
            repeat (any_goals (first | assumption | wp_step))
            exact h _ _ hS' hk'
          | _ => exact hr₂.elim
    | _ => exact hr.elim
end
/-- set(a list of texts) -/
def rSetX (P : Program) (w : World) (K : PySem.W.Frag) : List V → Hp → VK → Prop := fun vs H Q => ∃ a xs, vs = [.ref a] ∧ SqL K H a (ws xs) ∧ xs.length + 1 < scanBound ∧ ∀ p, H p = none → Q (.ref p) (upd H p (TxO P w p (dd xs)))
section
variable {X : Cx}
theorem cr_setX (hc : X.calm = true) : CallR X (.type "set") (rSetX X.prog X.w X.K) := by
  intro pins s σ H vs us Q I r h
  obtain ⟨a, xs, rfl, ha, few, q⟩ := h
  rw [Vals.ref1 r]
  obtain ⟨its, rv, p', hz⟩ := I.list ha
  refine call_setX (I.ok.hd hc) p'.isList (xs := xs) (by simpa using strs_of_vals rv) few fun h' tk R keep => ?_
  exact ⟨.ref s.heap.objs.size, upd H s.heap.objs.size (TxO X.prog X.w s.heap.objs.size (dd xs)), I.laid (t' := tk) keep (Nat.le_refl _) (txO_ok R), rfl, q _ (I.hok.fresh (Nat.le_refl _))⟩
theorem k_setX (P : Program) (w : World) (K : PySem.W.Frag) (calm : X.calm = true) (hP : X.prog = P := by rfl) (hw : X.w = w := by rfl) (hK : X.K = K := by rfl) : CallR X (.type "set") (rSetX P w K) := by
  subst hP hw hK
  exact cr_setX calm
end
theorem dd_nodup (l : List Str) : (dd l).Nodup := by
  have : ∀ (l : List Str) (a : List Str), a.Nodup → (l.foldl withX a).Nodup := by
    intro l
    induction l with
    | nil => intro a h; exact h
    | cons x l ih =>
      intro a h
      refine ih _ ?_
      unfold withX
      split
      · exact h
      · rename_i n
        exact List.nodup_append.mpr ⟨h, by simp, fun y hy z hz e => n (by rw [List.mem_singleton.mp hz] at e; rw [← e]; exact hy)⟩
  exact this l [] List.nodup_nil
/-! ### sorted(set(..)) without the heap -/
def aSortSet (ae : AE) : AE := fun ρ Φ => ae ρ fun x => ∃ xs : List Str, x.dat = .list (xs.map PyData.str) ∧ xs.length < 4000 ∧ ∀ ys : List Str, ys.Nodup → (∀ y, y ∈ ys ↔ y ∈ xs) → PyProof.Rows.sortedS ys = true → Φ (.l true (ys.map PyData.str))
def QSS (Φ : AV → Prop) : AV → Prop := fun x => ∃ xs : List Str, x.dat = .list (xs.map PyData.str) ∧ xs.length < 4000 ∧ ∀ ys : List Str, ys.Nodup → (∀ y, y ∈ ys ↔ y ∈ xs) → PyProof.Rows.sortedS ys = true → Φ (.l true (ys.map PyData.str))
theorem wSortSet {ae : AE} {ρ : Rho} {Φ : AV → Prop} (h : ae ρ (QSS Φ)) : aSortSet ae ρ Φ := h
section
variable {K : PySem.W.Frag} {ec : EC} {F : Fr K ec} {P : Program} {w : World}
instance {te : TE} {ae : AE} [SE F te ae] : SE F (tCB (rSortTx P w) (tCons (tCB (rSetX P w K) (tCons te tNil)) tNil)) (aSortSet ae) where
  snd := fun Z ρ σ H Φ Q o q k => by
    refine SE.snd (F := F) (te := te) (ae := ae) Z ρ σ H _ _ o q fun x ax H1 Z1 q1 s1 r1 => ?_
    obtain ⟨xs, e, few, q⟩ := q1
    have o1 := o.step s1
    obtain ⟨a, vs, rfl, hq, _, d⟩ := r1.listP o1.row e
    rw [strs_inv d] at hq
    refine ⟨a, xs, rfl, hq, by show xs.length + 1 < 4096; omega, fun p np => ?_⟩
    have o2 := o1.step (Step.new_ o1 (u := TxO P w p (dd xs)) np)
    refine ⟨p, dd xs, rfl, upd_same, fun ys p2 pm srt np2 => ?_⟩
    exact k _ _ _ Z1 (q ys (pm.nodup_iff.mpr (dd_nodup _)) (fun y => pm.mem_iff.trans dd_mem) srt) (s1.trans o.row ((Step.new_ o1 np).trans o1.row (Step.new_ o2 np2))) ((rv_newL o2 np2 (strs_dp ys)).back (s1.trans o.row (Step.new_ o1 np)))
end

/-! pop of one's own list where nothing is kept of it, or where it is handed to a def -/
def aPopS (i : Nat) : AS := fun D ρ => ∃ xs y, ρ[i]? = some (some (.l false (xs ++ [y]))) ∧ D.nx (ρ.set i (some (.l false xs)))
def aPopCall (asp : ASp) (i : Nat) (b : AE) (g : AG) : AS := fun D ρ => ∃ xs y, ρ[i]? = some (some (.l false (xs ++ [y]))) ∧ imm y = true ∧
  b (ρ.set i (some (.l false xs))) fun z => ∃ z', z = .d z' ∧ asp [.d y, .d z'] (fun v => g v (ρ.set i (some (.l false xs))) D.nx) fun _ => False
section
variable {K : PySem.W.Frag} {ec : EC} {F : Fr K ec}
instance {i : Nat} : SS F (tDrop (tBM0 K "list" rPop (tVar i))) (aPopS i) where
  snd := fun Z ρ σ H aD D o q w => by
    obtain ⟨xs, y, e, q⟩ := q
    obtain ⟨p, vs, es, hq, d⟩ := o.mine e
    obtain ⟨us, u, rfl, d1, dy⟩ := dpAll_snoc d
    refine ⟨_, es, rTyL (SqL.of hq) ?_⟩
    obtain ⟨ow, vw⟩ := o.write e es hq d1
    refine ⟨p, us ++ [u], u, rfl, rfl, hq, by simp, ?_⟩
    rw [List.dropLast_concat]
    exact w.nx Z _ σ _ q ow (by rw [vw]; exact Same.refl _)
instance {i : Nat} {asp : ASp} {tb : TE} {b : AE} {g : TG} {ag : AG} {sl : List Nat} [SE F tb b] [SG F g ag sl] : SS F (tAsg (tCall (spA K ec asp) [] E0 (tCons (tBM0 K "list" rPop (tVar i)) (tCons tb tNil))) g) (aPopCall asp i b ag) where
  snd := fun Z ρ σ H aD D o q w => by
    obtain ⟨xs, y, e, im, q⟩ := q
    obtain ⟨p, vs, es, hq, d⟩ := o.mine e
    obtain ⟨us, u, rfl, d1, dy⟩ := dpAll_snoc d
    refine ⟨_, es, rTyL (SqL.of hq) ?_⟩
    obtain ⟨ow, vw⟩ := o.write e es hq d1
    refine ⟨p, us ++ [u], u, rfl, rfl, hq, by simp, ?_⟩
    rw [List.dropLast_concat]
    refine SE.snd (F := F) (te := tb) (ae := b) Z _ σ _ _ _ ow q fun x ax H1 Z1 q1 s1 r1 => ?_
    obtain ⟨z', ez, q1⟩ := q1
    subst ez
    have o1 := ow.step s1
    have ry : RV F Z1 (upd H p (.lst us)) H1 u (.d y) := ⟨im, s1.eff.1.dp im ((chg_lst hq).1.dp im ((imm_of_same vw_same).dp im dy))⟩
    show spA K ec asp ([u, x] ++ []) H1 _ E0
    rw [List.append_nil]
    refine call_snd o1 (avs := [.d y, .d z']) (.cons ry (.cons r1 .nil)) (.inl rfl) q1 (fun v av H2 Z2 f s2 r2 => ?_) fun _ _ _ _ z => z.elim
    have o2 := o1.step s2
    exact SG.snd (F := F) (g := g) (ag := ag) (sl := sl) Z2 _ σ H1 H2 v av _ _ o2 r2 o1.old f fun ρ2 σ2 q2 o3 _ _ _ => w.nx Z2 ρ2 σ2 H2 q2 o3 (by
      rw [← vw]
      exact s1.vw.trans s2.vw)
end
theorem wPopS {i : Nat} {D : AEnds} {ρ : Rho} (h : ∃ xs y, ρ[i]? = some (some (.l false (xs ++ [y]))) ∧ D.nx (ρ.set i (some (.l false xs)))) : aPopS i D ρ := h

/-! # words that are looked at, and the sayings that they begin -/
inductive Nw | d (d : Du) | p (p : Pi)
  deriving DecidableEq
def Nw.s : Nw → Str
  | .d x => x.s | .p x => x.s
def Nw.fits (w h : Nat) : Nw → Bool
  | .d x => x.fits w h | .p x => x.fits w h
def Nw.k : Nw → Kw
  | .d x => .d x | .p x => .p x
theorem Nw.ks (x : Nw) : x.k.s = x.s := by cases x <;> rfl
theorem nw_kws (l : List Nw) : (l.map fun x => V.str x.s) = (l.map Nw.k).map fun k => V.str k.s := by
  rw [List.map_map]
  exact List.map_congr_left fun x _ => by show V.str x.s = V.str x.k.s; rw [Nw.ks]
def nws : List Nw := [.d .party, .d .cut, .d .quartered, .p .pillar, .p .band, .p .head, .p .edge]
def dSzL (p : Nat × Nat) : PyData := dSz p.1 p.2
/-- what is met in words: the first place at which none can stand so, or how many white ones are missing -/
def isCoW (s : Str) : Bool := inV (.str s) [.str "black", .str "blue", .str "green", .str "red", .str "white", .str "yellow"]
def nwOf (s : Str) : Option Nw := nws.find? fun x => decide (x.s = s)
def look : List (Nat × Nat) → Bool → Nat → List Str → Nat ⊕ Nat
  | st, want, _, [] => .inr (st.length + want.toNat)
  | st, true, n, w :: l => if isCoW w then look st false (n + 1) l else .inl n
  | [], false, n, _ :: _ => .inl n
  | (a, b) :: r, false, n, w :: l => if isCoW w then look r false (n + 1) l else match nwOf w with
    | none => .inl n
    | some x => if x.fits a b then (match x with
      | .d d => look ((d.pw a, d.ph b) :: (d.pw a, d.ph b) :: r) false (n + 1) l
      | .p _ => look ((a, b) :: r) true (n + 1) l) else .inl n
def plusR (k : Nat) : Nat ⊕ Nat → Nat ⊕ Nat | .inl n => .inl n | .inr m => .inr (m + k)
theorem inV_strs (w : Str) : ∀ l : List Str, inV (.str w) (l.map V.str) = decide (w ∈ l)
  | [] => rfl
  | x :: l => by
    have ih := inV_strs w l
    unfold inV at ih ⊢
    rw [List.map_cons, List.any_cons, ih]
    show (x == w || decide (w ∈ l)) = decide (w ∈ x :: l)
    rw [Bool.eq_iff_iff, Bool.or_eq_true, beq_iff_eq, decide_eq_true_iff, decide_eq_true_iff, List.mem_cons]
    exact ⟨fun h => h.imp Eq.symm id, fun h => h.imp Eq.symm id⟩
theorem nwOf_some {w : Str} {x : Nw} (h : nwOf w = some x) : x.s = w := by
  unfold nwOf at h
  exact of_decide_eq_true (by simpa using List.find?_some h)
theorem nwOf_s (x : Nw) : nwOf x.s = some x := by rcases x with x | x <;> cases x <;> decide +kernel
theorem inV_seven (w : Str) : inV (.str w) [.str "party", .str "cut", .str "quartered", .str "pillar", .str "band", .str "head", .str "edge"] = (nwOf w).isSome := by
  have e : inV (.str w) ((nws.map Nw.s).map V.str) = _ := inV_strs w _
  refine e.trans ?_
  unfold nwOf
  rw [Bool.eq_iff_iff, decide_eq_true_iff, List.find?_isSome, List.mem_map]
  simp only [decide_eq_true_eq]

theorem isCoW_co (c : Co) : isCoW c.s = true := by cases c <;> decide +kernel
theorem isCoW_nw (x : Nw) : isCoW x.s = false := by rcases x with x | x <;> cases x <;> decide +kernel
theorem isCoW_some {s : Str} (h : isCoW s = true) : ∃ c : Co, s = c.s := by
  have e : isCoW s = inV (.str s) ((["black", "blue", "green", "red", "white", "yellow"] : List Str).map V.str) := rfl
  rw [e, inV_strs, decide_eq_true_iff] at h
  simp only [List.mem_cons, List.not_mem_nil, or_false] at h
  rcases h with h | h | h | h | h | h <;> subst h
  · exact ⟨.black, rfl⟩
  · exact ⟨.blue, rfl⟩
  · exact ⟨.green, rfl⟩
  · exact ⟨.red, rfl⟩
  · exact ⟨.white, rfl⟩
  · exact ⟨.yellow, rfl⟩
def wW (want : Bool) (c : Co) : List Str := if want then [c.s] else []
abbrev Fld (p : Nat × Nat) (t : Tr) : Prop := t.ok p.1 p.2
theorem look_tr : ∀ (l : List Str) (st : List (Nat × Nat)) (want : Bool) (n m : Nat), look st want n l = .inr m → ∃ (c : Co) (ts : List Tr), Paired Fld st ts ∧ l ++ List.replicate m Co.white.s = wW want c ++ ts.flatMap Tr.wds
  | [], st, want, n, m, h => by
    have e : st.length + want.toNat = m := by cases want <;> exact Sum.inr.inj (by rw [← h, look])
    subst e
    refine ⟨.white, st.map fun _ => .col .white, ?_, ?_⟩
    · clear h
      induction st with
      | nil => exact .nil
      | cons p st ih => exact .cons trivial ih
    · have e2 : (st.map fun _ => Tr.col .white).flatMap Tr.wds = List.replicate st.length Co.white.s := by
        clear h
        induction st with
        | nil => rfl
        | cons p st ih =>
          rw [List.map_cons, List.flatMap_cons, ih, List.length_cons, List.replicate_succ]
          rfl
      rw [e2]
      cases want with
      | false => simp [wW]
      | true =>
        show [] ++ List.replicate (st.length + 1) _ = [Co.white.s] ++ _
        rw [List.replicate_succ]
        rfl
  | w :: l, st, true, n, m, h => by
    rw [look] at h
    by_cases co : isCoW w = true
    · rw [if_pos co] at h
      obtain ⟨c, ts, p, e⟩ := look_tr l st false _ m h
      obtain ⟨k, rfl⟩ := isCoW_some co
      refine ⟨k, ts, p, ?_⟩
      rw [List.cons_append, e]
      rfl
    · rw [if_neg co] at h; cases h
  | w :: l, [], false, n, m, h => by rw [look] at h; cases h
  | w :: l, (a, b) :: r, false, n, m, h => by
    rw [look] at h
    by_cases co : isCoW w = true
    · rw [if_pos co] at h
      obtain ⟨c, ts, p, e⟩ := look_tr l r false _ m h
      obtain ⟨k, rfl⟩ := isCoW_some co
      refine ⟨k, .col k :: ts, .cons trivial p, ?_⟩
      rw [List.cons_append, e]
      rfl
    · rw [if_neg co] at h
      cases ex : nwOf w with
      | none => rw [ex] at h; cases h
      | some x =>
        rw [ex] at h
        have ew := nwOf_some ex
        by_cases f : x.fits a b = true
        · cases x with
          | d d =>
            have h : (if (Nw.d d).fits a b = true then look ((d.pw a, d.ph b) :: (d.pw a, d.ph b) :: r) false (n + 1) l else .inl n) = .inr m := h
            rw [if_pos f] at h
            obtain ⟨c, ts, p, e⟩ := look_tr l _ false _ m h
            cases p with | cons o1 p =>
            cases p with | cons o2 p =>
            rename_i t1 t2 ts
            refine ⟨c, .two d t1 t2 :: ts, .cons ⟨f, o1, o2⟩ p, ?_⟩
            rw [List.cons_append, e, ← ew]
            show d.s :: (t1.wds ++ (t2.wds ++ ts.flatMap Tr.wds)) = (d.s :: (t1.wds ++ t2.wds)) ++ ts.flatMap Tr.wds
            rw [List.cons_append, List.append_assoc]
          | p x =>
            have h : (if (Nw.p x).fits a b = true then look ((a, b) :: r) true (n + 1) l else .inl n) = .inr m := h
            rw [if_pos f] at h
            obtain ⟨c, ts, p, e⟩ := look_tr l _ true _ m h
            cases p with | cons o1 p =>
            rename_i t1 ts
            refine ⟨c, .pc x c t1 :: ts, .cons ⟨f, o1⟩ p, ?_⟩
            rw [List.cons_append, e, ← ew]
            rfl
        · have h : (if x.fits a b = true then _ else (Sum.inl n : Nat ⊕ Nat)) = .inr m := h
          rw [if_neg f] at h
          cases h
theorem paired_lenF {st : List (Nat × Nat)} {ts : List Tr} (p : Paired Fld st ts) : st.length = ts.length := paired_len p
theorem wds_white {t : Tr} (h : ∀ s ∈ t.wds, s = Co.white.s) : t = .col .white := by
  cases t with
  | col c => rw [Co.inj (h c.s List.mem_cons_self)]
  | two d a b => have := h d.s List.mem_cons_self; cases d <;> exact absurd this (by decide)
  | pc p c b => have := h p.s List.mem_cons_self; cases p <;> exact absurd this (by decide)
theorem look_of : ∀ (l : List Str) (st : List (Nat × Nat)) (want : Bool) (n : Nat) (c : Co) (ts : List Tr) (m : Nat), Paired Fld st ts → l ++ List.replicate m Co.white.s = wW want c ++ ts.flatMap Tr.wds → look st want n l = .inr m
  | [], st, want, n, c, ts, m, p, e => by
    have le := paired_lenF p
    have aw : ∀ t ∈ ts, t = Tr.col .white := fun t ht => wds_white fun s hs => by
      have : s ∈ [] ++ List.replicate m Co.white.s := by
        rw [e]
        exact List.mem_append_right _ (List.mem_flatMap.mpr ⟨t, ht, hs⟩)
      exact List.eq_of_mem_replicate this
    have e2 : ts.flatMap Tr.wds = List.replicate ts.length Co.white.s := by
      clear e p le
      induction ts with
      | nil => rfl
      | cons t ts ih =>
        rw [List.flatMap_cons, ih fun t ht => aw t (List.mem_cons_of_mem _ ht), aw t List.mem_cons_self, List.length_cons, List.replicate_succ]
        rfl
    have e3 := congrArg List.length e
    rw [e2, List.nil_append, List.length_replicate, List.length_append, List.length_replicate] at e3
    have e4 : (wW want c).length = want.toNat := by cases want <;> rfl
    have : look st want n [] = .inr (st.length + want.toNat) := by cases want <;> rw [look]
    rw [this]
    exact congrArg Sum.inr (by omega)
  | w :: l, st, true, n, c, ts, m, p, e => by
    have e : w :: (l ++ List.replicate m Co.white.s) = c.s :: ts.flatMap Tr.wds := e
    obtain ⟨e1, e2⟩ := List.cons.inj e
    subst e1
    rw [look, if_pos (isCoW_co c)]
    exact look_of l st false _ c ts m p e2
  | w :: l, [], false, n, c, ts, m, p, e => by
    cases p
    cases e
  | w :: l, (a, b) :: r, false, n, c, ts0, m, p0, e => by
    cases p0 with | @cons _ t _ ts o p =>
    have e : w :: (l ++ List.replicate m Co.white.s) = t.wds ++ ts.flatMap Tr.wds := e
    cases t with
    | col k =>
      obtain ⟨e1, e2⟩ := List.cons.inj e
      have e1 : w = k.s := e1
      subst e1
      rw [look, if_pos (isCoW_co k)]
      exact look_of l r false _ c ts m p e2
    | two d t1 t2 =>
      obtain ⟨f, o1, o2⟩ := o
      have f : (Nw.d d).fits a b = true := f
      have e : w :: (l ++ List.replicate m Co.white.s) = d.s :: (t1.wds ++ t2.wds ++ ts.flatMap Tr.wds) := e
      obtain ⟨e1, e2⟩ := List.cons.inj e
      have e1 : w = (Nw.d d).s := e1
      subst e1
      rw [look, isCoW_nw, if_neg (by decide), nwOf_s]
      show (if (Nw.d d).fits a b = true then look ((d.pw a, d.ph b) :: (d.pw a, d.ph b) :: r) false (n + 1) l else .inl n) = .inr m
      rw [if_pos f]
      exact look_of l _ false _ c (t1 :: t2 :: ts) m (.cons o1 (.cons o2 p)) (by rw [e2, List.append_assoc]; rfl)
    | pc x k t1 =>
      obtain ⟨f, o1⟩ := o
      have f : (Nw.p x).fits a b = true := f
      have e : w :: (l ++ List.replicate m Co.white.s) = x.s :: k.s :: (t1.wds ++ ts.flatMap Tr.wds) := e
      obtain ⟨e1, e2⟩ := List.cons.inj e
      have e1 : w = (Nw.p x).s := e1
      subst e1
      rw [look, isCoW_nw, if_neg (by decide), nwOf_s]
      show (if (Nw.p x).fits a b = true then look ((a, b) :: r) true (n + 1) l else .inl n) = .inr m
      rw [if_pos f]
      exact look_of l _ true _ k (t1 :: ts) m (.cons o1 p) (by rw [e2]; rfl)
/-- what is said of a whole size -/
theorem look_saying {w h : Nat} {l : List Str} {m : Nat} (e : look [(w, h)] false 0 l = .inr m) : ∃ t : Tr, t.ok w h ∧ t.wds = l ++ List.replicate m Co.white.s := by
  obtain ⟨c, ts, p, e⟩ := look_tr l _ _ _ _ e
  cases p with | cons o p =>
  cases p
  rename_i t
  refine ⟨t, o, ?_⟩
  rw [e]
  show t.wds = [] ++ (t.wds ++ [])
  rw [List.append_nil, List.nil_append]
theorem look_ok {w h : Nat} {l : List Str} {m : Nat} {t : Tr} (o : t.ok w h) (e : t.wds = l ++ List.replicate m Co.white.s) : look [(w, h)] false 0 l = .inr m :=
  look_of l [(w, h)] false 0 .white [t] m (.cons o .nil) (by rw [← e]; show t.wds = [] ++ (t.wds ++ []); rw [List.append_nil, List.nil_append])
theorem short_app {F l : List Str} {m : Nat} (e : F = l ++ List.replicate m Co.white.s) : Short F l := by
  refine ⟨l.length, by rw [e]; simp, by rw [e]; simp, fun i h1 h2 => ?_⟩
  rw [e, List.getElem?_append_right h1]
  rw [e, List.length_append, List.length_replicate] at h2
  rw [List.getElem?_replicate, if_pos (by omega)]
theorem kws_only : ∀ (t t' : Tr) (a b : List Kw), t.kws ++ a = t'.kws ++ b → t = t' ∧ a = b
  | .col c, t', a, b, e => by
    cases t' with
    | col c' =>
      obtain ⟨e1, e2⟩ := List.cons.inj (show Kw.c c :: a = Kw.c c' :: b from e)
      exact ⟨by rw [Kw.c.inj e1], e2⟩
    | two d t1 t2 => cases e
    | pc x k t1 => cases e
  | .two d t1 t2, t', a, b, e => by
    cases t' with
    | col c' => cases e
    | two d' u1 u2 =>
      obtain ⟨e1, e2⟩ := List.cons.inj (show Kw.d d :: (t1.kws ++ t2.kws ++ a) = Kw.d d' :: (u1.kws ++ u2.kws ++ b) from e)
      rw [List.append_assoc, List.append_assoc] at e2
      obtain ⟨e3, e4⟩ := kws_only t1 u1 _ _ e2
      obtain ⟨e5, e6⟩ := kws_only t2 u2 _ _ e4
      exact ⟨by rw [Kw.d.inj e1, e3, e5], e6⟩
    | pc x k u => cases e
  | .pc x k t1, t', a, b, e => by
    cases t' with
    | col c' => cases e
    | two d' u1 u2 => cases e
    | pc x' k' u1 =>
      obtain ⟨e1, e2⟩ := List.cons.inj (show Kw.p x :: Kw.c k :: (t1.kws ++ a) = Kw.p x' :: Kw.c k' :: (u1.kws ++ b) from e)
      obtain ⟨e3, e4⟩ := List.cons.inj e2
      obtain ⟨e5, e6⟩ := kws_only t1 u1 _ _ e4
      exact ⟨by rw [Kw.p.inj e1, Kw.c.inj e3, e5], e6⟩
theorem kws_short_only {t t' : Tr} {l : List Kw} {m m' : Nat} (e : t.kws = l ++ List.replicate m Kw.w) (e' : t'.kws = l ++ List.replicate m' Kw.w) : t = t' := by
  rcases Nat.le_total m m' with le | le
  · refine (kws_only t t' (List.replicate (m' - m) Kw.w) [] ?_).1
    rw [e, e', List.append_nil, List.append_assoc, List.replicate_append_replicate, show m + (m' - m) = m' by omega]
  · refine (kws_only t t' [] (List.replicate (m - m') Kw.w) ?_).1
    rw [e, e', List.append_nil, List.append_assoc, List.replicate_append_replicate, show m' + (m - m') = m by omega]
theorem kws_of_short {t : Tr} {l : List Kw} (h : Short t.wds (l.map Kw.s)) : ∃ n, t.kws = l ++ List.replicate n Kw.w := by
  obtain ⟨m, n, hm, e1, e2⟩ := h.kws
  have : t.kws.take m = l := by
    have inj : ∀ {a b : List Kw}, a.map Kw.s = b.map Kw.s → a = b := by
      intro a
      induction a with
      | nil => intro b e; cases b with
        | nil => rfl
        | cons _ _ => cases e
      | cons x a ih => intro b e; cases b with
        | nil => cases e
        | cons y b =>
          obtain ⟨z1, z2⟩ := List.cons.inj e
          rw [Kw.inj z1, ih z2]
    exact (inj e1).symm
  rw [this] at e2
  exact ⟨n, e2⟩
theorem short_only {t t' : Tr} {l : List Kw} (h : Short t.wds (l.map Kw.s)) (h' : Short t'.wds (l.map Kw.s)) : t = t' := by
  obtain ⟨n, e⟩ := kws_of_short h
  obtain ⟨n', e'⟩ := kws_of_short h'
  exact kws_short_only e e'

/-! # a list of one's own gets another name -/
section
variable {K : PySem.W.Frag} {ec : EC} {F : Fr K ec} {Z : Addr → Prop} {ρ : Rho} {σ : L2.St} {H : Hp}
theorem Ok.move {i j : Nat} {xs : List PyData} {v : V} (o : Ok F Z ρ σ H) (ne : i ≠ j) (e : ρ[i]? = some (some (.l false xs))) (hv : σ[i]? = some (some v)) :
    Ok F Z ((ρ.set i none).set j (some (.l false xs))) (σ.set j (some v)) H := by
  have back : ∀ {k : Nat} {a : AV}, ((ρ.set i none).set j (some (.l false xs)))[k]? = some (some a) → (j = k ∧ a = .l false xs ∧ j < ρ.length) ∨ (j ≠ k ∧ i ≠ k ∧ ρ[k]? = some (some a)) := by
    intro k a h
    rcases get_set h with ⟨e1, l, z⟩ | ⟨n, z⟩
    · rw [List.length_set] at l
      exact .inl ⟨e1, (Option.some.inj z).symm, l⟩
    · rcases get_set z with ⟨_, _, z⟩ | ⟨n2, z⟩
      · cases z
      · exact .inr ⟨n, n2, z⟩
  refine ⟨by rw [List.length_set, List.length_set, List.length_set, o.len], o.eff, o.row, o.zok, fun k x h => ?_, fun k a h => ?_, fun k l ys zs n h1 h2 => ?_⟩
  · rcases back h with ⟨_, z, _⟩ | ⟨_, _, z⟩
    · cases z
    · exact o.nt k x z
  · rcases back h with ⟨rfl, rfl, l⟩ | ⟨n, _, z⟩
    · obtain ⟨u, h1, h2⟩ := o.at_ i _ e
      rw [hv] at h1
      cases h1
      exact ⟨v, by rw [List.getElem?_set_self (by rw [o.len]; exact l)], h2⟩
    · obtain ⟨u, h1, h2⟩ := o.at_ k a z
      exact ⟨u, by rw [List.getElem?_set_ne n]; exact h1, h2⟩
  · rcases back h1 with ⟨rfl, _, l1⟩ | ⟨n1, m1, z1⟩
    · rcases back h2 with ⟨e2, _, _⟩ | ⟨n2, m2, z2⟩
      · exact absurd e2 n
      · rw [List.getElem?_set_self (by rw [o.len]; exact l1), List.getElem?_set_ne n2, ← hv]
        exact o.sep i l xs zs m2 e z2
    · rcases back h2 with ⟨rfl, _, l2⟩ | ⟨n2, m2, z2⟩
      · rw [List.getElem?_set_self (by rw [o.len]; exact l2), List.getElem?_set_ne n1, ← hv]
        exact fun z => o.sep i k xs ys m1 e z1 z.symm
      · rw [List.getElem?_set_ne n1, List.getElem?_set_ne n2]
        exact o.sep k l ys zs n z1 z2
/-- x = y, y a list of one's own whose name is not read any more; or anything else -/
def aMove (i j : Nat) : AS := fun D ρ => aAsg (aVar i) (aName j) D ρ ∨ (i ≠ j ∧ ∃ xs, ρ[i]? = some (some (.l false xs)) ∧ D.nx ((ρ.set i none).set j (some (.l false xs))))
instance {i j : Nat} : SS F (tAsg (tVar i) (gName j)) (aMove i j) where
  snd := fun Z ρ σ H aD D o q w => by
    rcases q with q | ⟨ne, xs, e, q⟩
    · exact SS.snd (F := F) (ts := tAsg (tVar i) (gName j)) (as := aAsg (aVar i) (aName j)) Z ρ σ H aD D o q w
    · obtain ⟨v, h1, r⟩ := o.at_ i _ e
      refine ⟨v, h1, ?_⟩
      exact w.nx Z _ _ H q (o.move ne e h1) (Same.refl _)
end
theorem wMvD {i j : Nat} {D : AEnds} {ρ : Rho} {av w : AV} (e : ρ[i]? = some (some av)) (ow : av.own = some w) (h : D.nx (ρ.set j (some w))) : aMove i j D ρ := .inl ⟨av, e, w, ow, h⟩
theorem pdv_im {e : PyData} (h : imm e = true) : pdv e = .d e := if_pos h
theorem wMvL {i j : Nat} {D : AEnds} {ρ : Rho} {xs : List PyData} (ne : i ≠ j) (e : ρ[i]? = some (some (.l false xs))) (h : D.nx ((ρ.set i none).set j (some (.l false xs)))) : aMove i j D ρ := .inr ⟨ne, xs, e, h⟩
theorem k_sortL {X : Cx} (K : PySem.W.Frag) (hK : X.K = K := by rfl) : CallR X (.builtin "sorted") (rSortedS K) := hK ▸ cr_sortedS
theorem wSortS {x : AV} {xs : List Str} {Φ : AV → Prop} (e : x.dat = .list (xs.map PyData.str)) (few : xs.length < 64) (h : ∀ ys : List Str, ys.Perm xs → PyProof.Rows.sortedS ys = true → Φ (.l true (ys.map PyData.str))) : aSortedS [x] Φ := ⟨x, xs, rfl, e, few, h⟩
theorem wExt {i : Nat} {a : AE} {D : AEnds} {ρ : Rho} {xs : List PyData} (e : ρ[i]? = some (some (.l false xs))) (h : a ρ fun y => ∃ f ys, y = .l f ys ∧ xs.length + ys.length ≤ 100000 ∧ D.nx (ρ.set i (some (.l false (xs ++ ys))))) : aExt i a D ρ := ⟨xs, e, h⟩
/-! # all short sayings, in their order -/
def kws13 : List Kw := [.c .black, .c .blue, .d .cut, .p .edge, .p .band, .c .green, .p .head, .d .party, .p .pillar, .d .quartered, .c .red, .c .white, .c .yellow]
def kwsS : List Kw := [.p .band, .c .black, .c .blue, .d .cut, .p .edge, .c .green, .p .head, .d .party, .p .pillar, .d .quartered, .c .red, .c .white, .c .yellow]
theorem kwsS_all (k : Kw) : k ∈ kwsS := by rcases k with k | k | k <;> cases k <;> decide
theorem kwsS_up : kwsS.Pairwise fun a b => ltK a b = true := by decide +kernel
theorem kwsS_sorted {ys : List Str} (p : ys.Perm (kws13.map Kw.s)) (s : PyProof.Rows.sortedS ys = true) : ys = kwsS.map Kw.s :=
  sorted_same (p.trans ((by decide : kws13.Perm kwsS).map Kw.s)) s (by decide +kernel)
def lkOk (w h : Nat) (l : List Kw) : Bool := match look [(w, h)] false 0 (l.map Kw.s) with | .inl _ => false | .inr _ => true
theorem map_wl (l : List Kw) (m : Nat) : l.map Kw.s ++ List.replicate m Co.white.s = (l ++ List.replicate m Kw.w).map Kw.s := by
  rw [List.map_append, List.map_replicate]
  rfl
theorem map_s_inj {a b : List Kw} (e : a.map Kw.s = b.map Kw.s) : a = b := by
  induction a generalizing b with
  | nil => cases b with
    | nil => rfl
    | cons _ _ => cases e
  | cons x a ih => cases b with
    | nil => cases e
    | cons y b =>
      obtain ⟨z1, z2⟩ := List.cons.inj e
      rw [Kw.inj z1, ih z2]
theorem lkOk_iff {w h : Nat} {l : List Kw} : lkOk w h l = true ↔ ∃ t : Tr, t.ok w h ∧ ∃ m, t.kws = l ++ List.replicate m Kw.w := by
  unfold lkOk
  constructor
  · intro e
    cases z : look [(w, h)] false 0 (l.map Kw.s) with
    | inl n => rw [z] at e; cases e
    | inr m =>
      obtain ⟨t, o, e⟩ := look_saying z
      refine ⟨t, o, m, ?_⟩
      rw [map_wl, t.kws_wds] at e
      exact map_s_inj e
  · rintro ⟨t, o, m, e⟩
    rw [look_ok o (m := m) (by rw [t.kws_wds, e, map_wl])]
theorem lkOk_pre {w h : Nat} {l r : List Kw} (e : lkOk w h (l ++ r) = true) : lkOk w h l = true := by
  rw [lkOk_iff] at e ⊢
  obtain ⟨t, o, m, e⟩ := e
  obtain ⟨n, e2⟩ := t.cutK_kws l.length
  refine ⟨t.cutK l.length, t.cutK_ok _ _ _ o, n, ?_⟩
  rw [e2, e, List.append_assoc, List.take_left]
/-- those of n words, rising -/
def lev (w h : Nat) : Nat → List (List Kw)
  | 0 => [[]]
  | n + 1 => (lev w h n).flatMap fun x => (kwsS.filter fun k => lkOk w h (x ++ [k])).map fun k => x ++ [k]
theorem lev_len {w h : Nat} : ∀ {n : Nat} {x : List Kw}, x ∈ lev w h n → x.length = n
  | 0, x, m => by rw [List.mem_singleton.mp m]; rfl
  | n + 1, x, m => by
    obtain ⟨y, hy, hx⟩ := List.mem_flatMap.mp m
    obtain ⟨k, _, rfl⟩ := List.mem_map.mp hx
    rw [List.length_append, lev_len hy]
    rfl
theorem lev_ok {w h : Nat} : ∀ {n : Nat} {x : List Kw}, x ∈ lev w h n → lkOk w h x = true
  | 0, x, m => by
    rw [List.mem_singleton.mp m]
    exact lkOk_iff.mpr ⟨.col .white, trivial, 1, rfl⟩
  | n + 1, x, m => by
    obtain ⟨y, hy, hx⟩ := List.mem_flatMap.mp m
    obtain ⟨k, hk, rfl⟩ := List.mem_map.mp hx
    exact (List.mem_filter.mp hk).2
theorem lev_all {w h : Nat} : ∀ {n : Nat} {x : List Kw}, x.length = n → lkOk w h x = true → x ∈ lev w h n
  | 0, x, l, _ => by rw [List.length_eq_zero_iff.mp l]; exact List.mem_singleton.mpr rfl
  | n + 1, x, l, o => by
    have ne : x ≠ [] := by intro e; rw [e] at l; cases l
    have e := List.dropLast_concat_getLast ne
    have l2 : x.dropLast.length = n := by rw [List.length_dropLast, l]; rfl
    refine List.mem_flatMap.mpr ⟨x.dropLast, lev_all l2 (lkOk_pre (r := [x.getLast ne]) (by rw [e]; exact o)), List.mem_map.mpr ⟨x.getLast ne, List.mem_filter.mpr ⟨kwsS_all _, by rw [e]; exact o⟩, e⟩⟩
theorem lexL_snoc {a b : Kw} {x : List Kw} (h : ltK a b = true) : lexL ltK (x ++ [a]) (x ++ [b]) = true := by
  rw [lexL_app]
  show (if a = b then lexL ltK [] [] else ltK a b) = true
  rw [if_neg (fun e => by rw [e, sto_kw.irr] at h; cases h)]
  exact h
theorem lexL_more {x y : List Kw} (l : x.length = y.length) (h : lexL ltK x y = true) (u v : List Kw) : lexL ltK (x ++ u) (y ++ v) = true := by
  rw [lexL_part u v l (fun e => by rw [e, sto_kw.lex.irr] at h; cases h)]
  exact h
theorem pairwise_flat {α β : Type} {R : α → α → Prop} {S : β → β → Prop} {f : α → List β} : ∀ {l : List α}, l.Pairwise R → (∀ x ∈ l, (f x).Pairwise S) → (∀ x ∈ l, ∀ y ∈ l, R x y → ∀ a ∈ f x, ∀ b ∈ f y, S a b) → (l.flatMap f).Pairwise S
  | [], _, _, _ => .nil
  | x :: l, p, q, r => by
    rw [List.flatMap_cons, List.pairwise_append]
    obtain ⟨p1, p2⟩ := List.pairwise_cons.mp p
    refine ⟨q x List.mem_cons_self, pairwise_flat p2 (fun y hy => q y (List.mem_cons_of_mem _ hy)) fun y hy z hz => r y (List.mem_cons_of_mem _ hy) z (List.mem_cons_of_mem _ hz), fun a ha b hb => ?_⟩
    obtain ⟨y, hy, hb⟩ := List.mem_flatMap.mp hb
    exact r x List.mem_cons_self y (List.mem_cons_of_mem _ hy) (p1 y hy) a ha b hb
theorem lev_up {w h : Nat} : ∀ n : Nat, (lev w h n).Pairwise fun a b => lexL ltK a b = true
  | 0 => List.pairwise_singleton _ _
  | n + 1 => by
    refine pairwise_flat (lev_up n) (fun x hx => ?_) fun x hx y hy r a ha b hb => ?_
    · rw [List.pairwise_map]
      exact (kwsS_up.filter _).imp fun r => lexL_snoc r
    · obtain ⟨k, _, rfl⟩ := List.mem_map.mp ha
      obtain ⟨k', _, rfl⟩ := List.mem_map.mp hb
      exact lexL_more ((lev_len hx).trans (lev_len hy).symm) r _ _
def notW (x : List Kw) : Bool := decide (x.getLast? ≠ some Kw.w)
def levT (w h n : Nat) : List (List Kw) := (lev w h n).filter notW
/-- of at most n words -/
def allK (w h : Nat) : Nat → List (List Kw)
  | 0 => [[]]
  | n + 1 => allK w h n ++ levT w h (n + 1)
theorem levT_len {w h n : Nat} {x : List Kw} (m : x ∈ levT w h n) : x.length = n := lev_len (List.mem_filter.mp m).1
theorem allK_len {w h : Nat} : ∀ {n : Nat} {x : List Kw}, x ∈ allK w h n → x.length ≤ n
  | 0, x, m => by rw [List.mem_singleton.mp m]; exact Nat.le_refl _
  | n + 1, x, m => by
    rcases List.mem_append.mp m with m | m
    · exact Nat.le_succ_of_le (allK_len m)
    · exact Nat.le_of_eq (levT_len m)
theorem allK_ok {w h : Nat} : ∀ {n : Nat} {x : List Kw}, x ∈ allK w h n → lkOk w h x = true ∧ notW x = true
  | 0, x, m => by
    rw [List.mem_singleton.mp m]
    exact ⟨lkOk_iff.mpr ⟨.col .white, trivial, 1, rfl⟩, by decide⟩
  | n + 1, x, m => by
    rcases List.mem_append.mp m with m | m
    · exact allK_ok m
    · obtain ⟨m1, m2⟩ := List.mem_filter.mp m
      exact ⟨lev_ok m1, m2⟩
theorem allK_all {w h : Nat} : ∀ {n : Nat} {x : List Kw}, x.length ≤ n → lkOk w h x = true → notW x = true → x ∈ allK w h n
  | 0, x, l, _, _ => by rw [List.length_eq_zero_iff.mp (Nat.le_zero.mp l)]; exact List.mem_singleton.mpr rfl
  | n + 1, x, l, o, z => by
    rcases Nat.lt_or_ge n x.length with g | g
    · exact List.mem_append_right _ (List.mem_filter.mpr ⟨lev_all (by omega) o, z⟩)
    · exact List.mem_append_left _ (allK_all g o z)
theorem allK_up {w h : Nat} : ∀ n : Nat, (allK w h n).Pairwise fun a b => rlt a b = true
  | 0 => List.pairwise_singleton _ _
  | n + 1 => by
    refine List.pairwise_append.mpr ⟨allK_up n, ?_, fun a ha b hb => rlt_len (by have := allK_len ha; have := levT_len hb; omega)⟩
    have := (lev_up (w := w) (h := h) (n + 1)).filter notW
    refine List.Pairwise.imp_of_mem (fun {a b} ha hb r => ?_) this
    rw [rlt_same ((levT_len ha).trans (levT_len hb).symm)]
    exact r
theorem trimK_notW {x : List Kw} (h : notW x = true) (m : Nat) : trimK (x ++ List.replicate m Kw.w) = x := by
  rw [trimK_app, if_pos (trimK_all fun k hk => List.eq_of_mem_replicate hk)]
  rcases List.eq_nil_or_concat x with e | ⟨y, k, e⟩
  · rw [e]; rfl
  · have e : x = y ++ [k] := by rw [e, List.concat_eq_append]
    subst e
    refine trimK_last fun ek => ?_
    unfold notW at h
    rw [List.getLast?_append] at h
    simp [ek] at h
theorem notW_trim (l : List Kw) : notW (trimK l) = true := by
  obtain ⟨m, hm, e, _, b⟩ := trimK_is l
  unfold notW
  refine decide_eq_true fun z => ?_
  rw [e] at z
  cases m with
  | zero => rw [List.take_zero] at z; cases z
  | succ j =>
    rw [List.getLast?_take, if_neg (by omega), Nat.succ_sub_one, List.getElem?_eq_getElem (by omega)] at z
    exact b j _ rfl (List.getElem?_eq_getElem (by omega)) (Option.some.inj z)
/-- the first one that is as asked -/
theorem first_of {l : List (List Kw)} {P : List Kw → Bool} {y : List Kw} (up : l.Pairwise fun a b => rlt a b = true) (hy : y ∈ l) (py : P y = true) (le : ∀ x ∈ l, P x = true → rle y x) : ∃ r, l.filter P = y :: r := by
  have up2 := up.filter P
  have m : y ∈ l.filter P := List.mem_filter.mpr ⟨hy, py⟩
  cases e : l.filter P with
  | nil => rw [e] at m; cases m
  | cons z r =>
    rw [e] at up2 m
    rcases List.mem_cons.mp m with rfl | m
    · exact ⟨r, rfl⟩
    · have h1 := (List.pairwise_cons.mp up2).1 y m
      have hz : z ∈ l.filter P := by rw [e]; exact List.mem_cons_self
      obtain ⟨z1, z2⟩ := List.mem_filter.mp hz
      have := le z z1 z2
      unfold rle at this
      rw [h1] at this
      cases this

/-! drawings told as texts, spoilt ones; orders that are asked -/
def isCoS (s : Str) : Bool := inV (.str s) [.str "white", .str "yellow", .str "black", .str "blue", .str "green", .str "red"]
def rowB (n : Int) (r : List Str) : Bool := decide ((r.length : Int) = n) && r.all isCoS
def dTr (r : List Str) : PyData := .tuple (r.map PyData.str)
def dTx (rows : List (List Str)) : PyData := .tuple (rows.map dTr)
def drawB (a b : Int) (rows : List (List Str)) : Bool := decide ((rows.length : Int) = b) && rows.all (rowB a)
/-- rows of a size, each cell a colour's text -/
structure GoodT (w h : Nat) (rs : List (List Str)) : Prop where
  len : rs.length = h
  row : ∀ r ∈ rs, r.length = w ∧ r.all isCoS = true
theorem cut3 {α : Type} (f : α → PyData) (l : List α) (k : Nat) (y : PyData) : cutP (l.map f) none (some (k : Int)) ++ [y] ++ cutP (l.map f) (some ((k : Int) + 1)) none = (l.take k).map f ++ [y] ++ (l.drop (k + 1)).map f := by
  rw [cutP_to, show (k : Int) + 1 = ((k + 1 : Nat) : Int) from rfl, cutP_from, ← List.map_take, ← List.map_drop]
theorem cut2 {α : Type} (f : α → PyData) (l : List α) (k : Nat) : cutP (l.map f) none (some (k : Int)) ++ cutP (l.map f) (some ((k : Int) + 1)) none = (l.take k ++ l.drop (k + 1)).map f := by
  rw [cutP_to, show (k : Int) + 1 = ((k + 1 : Nat) : Int) from rfl, cutP_from, ← List.map_take, ← List.map_drop, List.map_append]
theorem tx3 (rs : List (List Str)) (k : Nat) (x : List Str) : PyData.tuple (cutP (rs.map dTr) none (some (k : Int)) ++ [dTr x] ++ cutP (rs.map dTr) (some ((k : Int) + 1)) none) = dTx (rs.take k ++ [x] ++ rs.drop (k + 1)) := by
  rw [cut3]
  unfold dTx
  rw [List.map_append, List.map_append]
  rfl
theorem tr3 (r : List Str) (k : Nat) (x : Str) : PyData.tuple (cutP (r.map PyData.str) none (some (k : Int)) ++ [.str x] ++ cutP (r.map PyData.str) (some ((k : Int) + 1)) none) = dTr (r.take k ++ [x] ++ r.drop (k + 1)) := by
  rw [cut3]
  unfold dTr
  rw [List.map_append, List.map_append]
  rfl
theorem draw_len {a b : Int} {rs : List (List Str)} (n : (rs.length : Int) ≠ b) : drawB a b rs = false := by
  unfold drawB
  rw [decide_eq_false n, Bool.false_and]
theorem draw_row {a b : Int} {rs : List (List Str)} {r : List Str} (m : r ∈ rs) (n : rowB a r = false) : drawB a b rs = false := by
  unfold drawB
  rw [Bool.and_eq_false_iff]
  exact .inr (List.all_eq_false.mpr ⟨r, m, by rw [n]; exact Bool.false_ne_true⟩)
theorem cutP_le (xs : List PyData) (lo hi : Option Int) : (cutP xs lo hi).length ≤ xs.length := by
  unfold cutP
  rw [List.length_take, List.length_drop]
  omega
theorem imm_tr (r : List Str) : imm (dTr r) = true := tup_imm (immAll_map (fun _ => rfl) r)
theorem imm_tx (rows : List (List Str)) : imm (dTx rows) = true := tup_imm (immAll_map imm_tr rows)
theorem fewDs_map {α : Type} {f : α → PyData} (h : ∀ x, fewD (f x)) : ∀ l : List α, fewDs (l.map f)
  | [] => trivial
  | x :: l => ⟨h x, fewDs_map h l⟩
theorem fewD_ws {l : List Str} (h : l.length ≤ 1000) : fewD (dWs l) := by
  unfold dWs
  rw [fewD, List.length_map]
  exact ⟨by omega, fewDs_map (fun x => by simp [fewD]) l⟩
theorem dep_ws (l : List Kw) : (dWs (l.map Kw.s)).depth < 9 := Nat.lt_of_le_of_lt (dat_kws.dep l) (by decide)

def gridS (w h : Nat) (f : Nat → Nat → Co) : List (List Str) := (grid w h f).map fun r => r.map Co.s
theorem rows_tx (w h : Nat) (f : Nat → Nat → Co) : dRows (grid w h f) = dTx (gridS w h f) := by
  unfold dRows dTx gridS
  rw [List.map_map]
  refine congrArg PyData.tuple (List.map_congr_left fun r _ => ?_)
  show dRow r = dTr (r.map Co.s)
  unfold dRow dTr
  rw [List.map_map]
  rfl
theorem isCoS_co (c : Co) : isCoS c.s = true := by cases c <;> decide +kernel
theorem gridS_good (w h : Nat) (f : Nat → Nat → Co) : GoodT w h (gridS w h f) := by
  refine ⟨by unfold gridS; rw [List.length_map, grid_len], fun r hr => ?_⟩
  obtain ⟨l, hl, rfl⟩ := List.mem_map.mp hr
  refine ⟨by rw [List.length_map]; exact grid_row hl, List.all_eq_true.mpr fun s hs => ?_⟩
  obtain ⟨c, _, rfl⟩ := List.mem_map.mp hs
  exact isCoS_co c
theorem good_draw {w h : Nat} {rs : List (List Str)} (g : GoodT w h rs) : drawB w h rs = true := by
  unfold drawB
  rw [g.len, decide_eq_true rfl, Bool.true_and, List.all_eq_true]
  intro r hr
  obtain ⟨l, a⟩ := g.row r hr
  unfold rowB
  rw [l, decide_eq_true rfl, Bool.true_and]
  exact a
section
variable {α : Type} [DecidableEq α] {f : α → PyData} {n : Nat} {lt : α → α → Bool}
theorem Orr.cmp (o : Orr f n lt) (h : n ≤ 64) (ne : ∀ x, f x ≠ .none) (x y : α) : CmpOk (f x) (f y) := ⟨o.al x y, ne x, Nat.le_trans (o.dat.dep x) h⟩
theorem wGtX {Φ : AV → Prop} (o : Orr f n lt) {ax ay : AV} {x y : α} (h : n ≤ 64) (ne : ∀ x, f x ≠ .none) (e1 : ax.dat = f x) (e2 : ay.dat = f y) (v1 : ax.isV = true) (v2 : ay.isV = true) (q : Φ (.d (.bool (lt y x)))) : aGtX ax ay Φ :=
  ⟨v1, v2, by rw [e1, e2]; exact o.cmp h ne x y, by rw [e1, e2, o.lt_eq]; exact q⟩
theorem wLtX {Φ : AV → Prop} (o : Orr f n lt) {ax ay : AV} {x y : α} (h : n ≤ 64) (ne : ∀ x, f x ≠ .none) (e1 : ax.dat = f x) (e2 : ay.dat = f y) (v1 : ax.isV = true) (v2 : ay.isV = true) (q : Φ (.d (.bool (lt x y)))) : aLtX ax ay Φ :=
  ⟨v1, v2, by rw [e1, e2]; exact o.cmp h ne x y, by rw [e1, e2, o.lt_eq]; exact q⟩
end
/-- how a refusal of a drawing looks -/
def ecD (C : Addr) : EC := fun x c d _ => x = .drawing ∧ c = .ref C ∧ d = none

/-! isinstance of data -/
def tyP : PyData → String
  | .none => "NoneType" | .bool _ => "bool" | .int _ => "int" | .str _ => "str" | .tuple _ => "tuple" | .list _ => "list" | .dict _ => "dict"
theorem dp_ty {K : PySem.W.Frag} {H : Hp} : ∀ {v : V} {x : PyData}, Dp K H v x → TyX K H v (.type (tyP x))
  | _, _, .non => .base .non
  | _, _, .bl b => .base (.bl b)
  | _, _, .int i => .base (.int i)
  | _, _, .str s => .base (.str s)
  | _, _, .lst h _ => tyL h
  | _, _, .tup h _ => tyT h
def aIsi (n : String) (ae : AE) : AE := fun ρ Φ => ae ρ fun x => x.isV = true ∧ ∃ b, kitB (tyP x.dat) n = some b ∧ Φ (.d (.bool b))
def QIsi (n : String) (Φ : AV → Prop) : AV → Prop := fun x => x.isV = true ∧ ∃ b, kitB (tyP x.dat) n = some b ∧ Φ (.d (.bool b))
theorem wIsi {n : String} {ae : AE} {ρ : Rho} {Φ : AV → Prop} (h : ae ρ (QIsi n Φ)) : aIsi n ae ρ Φ := h
theorem wIsiD {n : String} {x : AV} {b : Bool} {Φ : AV → Prop} (v : x.isV = true) (e : kitB (tyP x.dat) n = some b) (h : Φ (.d (.bool b))) : QIsi n Φ x := ⟨v, b, e, h⟩
instance {K : PySem.W.Frag} {ec : EC} {F : Fr K ec} {n : String} {te : TE} {ae : AE} [SE F te ae] : SE F (tCB (rIsi K) (tCons te (tCons (tC (.ty n)) tNil))) (aIsi n ae) where
  snd := fun Z ρ σ H Φ Q o q k => by
    refine SE.snd (F := F) (te := te) (ae := ae) Z ρ σ H _ _ o q fun x ax H1 Z1 q1 s1 r1 => ?_
    obtain ⟨v, b, e, q1⟩ := q1
    exact rIsi_ (dp_ty (r1.dp (o.step s1).row (row_not v))) e (k _ _ H1 Z1 q1 s1 (rv_bl b))

/-! dicts of texts, read without the heap -/
def dS (kvs : List (Str × Str)) : List (Key × V) := kvs.map fun p => (.inr p.1, .str p.2)
/-- a dict of texts that nobody writes -/
def isDct (kvs : List (Str × Str)) : Hp → V → Prop := fun H v => ∃ d, v = .ref d ∧ H d = some (.dK (dS kvs))
theorem isDct_on {kvs : List (Str × Str)} : ∀ H H' v, Same H H' → isDct kvs H v → isDct kvs H' v := fun H H' v s ⟨d, e, h⟩ => ⟨d, e, s _ _ h⟩
/-- what a text is called -/
def nmd (kvs : List (Str × Str)) (s : Str) : Str := (kvs.lookup s).getD s
theorem val_dS (kvs : List (Str × Str)) (s : Str) : valV (dS kvs) (.inr s) = (kvs.lookup s).map V.str := by
  induction kvs with
  | nil => rfl
  | cons p r ih =>
    obtain ⟨k, v⟩ := p
    by_cases e : k = s
    · subst e
      rw [dS, List.map_cons, valV_pos rfl]
      simp [List.lookup]
    · rw [dS, List.map_cons, valV_neg (fun z => e (Sum.inr.inj z))]
      have : (s == k) = false := by simpa using fun z : s = k => e z.symm
      rw [List.lookup, this]
      exact ih
section
variable {K : PySem.W.Frag} {ec : EC} {F : Fr K ec} {Z : Addr → Prop} {ρ : Rho} {σ : L2.St} {H : Hp}
def aDGet2 (i : Nat) (ay ax : AE) : AE := fun ρ Φ => ∃ kvs, ρ[i]? = some (some (.m (isDct kvs))) ∧ ay ρ fun y => ∃ s, y.dat = .str s ∧ ax ρ fun z => match kvs.lookup s with
  | none => Φ z
  | some t => Φ (.d (.str t))
instance {i : Nat} {ty tx : TE} {ay ax : AE} [SE F ty ay] [SE F tx ax] : SE F (tDGet2 (tVar i) ty tx) (aDGet2 i ay ax) where
  snd := fun Z ρ σ H Φ Q o q k => by
    obtain ⟨kvs, e, q⟩ := q
    obtain ⟨v, h1, st, d, rfl, hd⟩ := o.at_ i _ e
    refine ⟨.ref d, h1, d, rfl, .inl ⟨_, .inl (vw_same _ _ hd)⟩, ?_⟩
    refine SE.snd (F := F) (te := ty) (ae := ay) Z ρ σ H _ _ o q fun y vy H1 Z1 ⟨s, es, q1⟩ s1 r1 => ?_
    have o1 := o.step s1
    have ey := r1.str o1.row es
    subst ey
    refine SE.snd (F := F) (te := tx) (ae := ax) Z1 ρ σ H1 _ _ o1 q1 fun z vz H2 Z2 q2 s2 r2 => ?_
    have hd2 := vw_same _ _ (s2.vw _ _ (s1.vw _ _ hd))
    refine ⟨_, DGet.k (k := .inr s) hd2, ?_⟩
    rw [val_dS]
    cases el : kvs.lookup s with
    | none =>
      rw [el] at q2
      exact k z vz H2 Z2 q2 (s1.trans o.row s2) (r2.back s1)
    | some t =>
      rw [el] at q2
      exact k _ _ H2 Z2 q2 (s1.trans o.row s2) (rv_str t)
theorem wDGet2 {i : Nat} {ay ax : AE} {Φ : AV → Prop} {kvs : List (Str × Str)} (e : ρ[i]? = some (some (.m (isDct kvs)))) (h : ay ρ fun y => ∃ s, y.dat = .str s ∧ ax ρ fun z => match kvs.lookup s with
  | none => Φ z
  | some t => Φ (.d (.str t))) : aDGet2 i ay ax ρ Φ := ⟨kvs, e, h⟩
theorem wAM {asp : ASp} {Φ : AV → Prop} {X : Exc → Prop} {a : PyData} {P : Hp → V → Prop} (h : asp [.d a, .m P] Φ X) : QCall asp Φ X [.d a, .m P] := ⟨.inl rfl, h⟩
/-- what is known of a value is put into a slot -/
theorem Ok.putM {v : V} {P : Hp → V → Prop} (o : Ok F Z ρ σ H) (st : ∀ H H' v, Same H H' → P H v → P H' v) (h : P (Vw F Z H) v) (i : Nat) : Ok F Z (ρ.set i (some (.m P))) (σ.set i (some v)) H := by
  refine ⟨by rw [List.length_set, List.length_set, o.len], o.eff, o.row, o.zok, fun j x e => ?_, fun j a e => ?_, fun j k xs ys n e1 e2 => ?_⟩
  · rcases get_set e with ⟨_, _, z⟩ | ⟨_, z⟩
    · cases z
    · exact o.nt j x z
  · rcases get_set e with ⟨rfl, l, z⟩ | ⟨n, z⟩
    · cases z
      exact ⟨v, by rw [List.getElem?_set_self (by rw [o.len]; exact l)], st, h⟩
    · obtain ⟨u, h1, h2⟩ := o.at_ j a z
      exact ⟨u, by rw [List.getElem?_set_ne n]; exact h1, h2⟩
  · rcases get_set e1 with ⟨_, _, z1⟩ | ⟨n1, z1⟩
    · cases z1
    · rcases get_set e2 with ⟨_, _, z2⟩ | ⟨n2, z2⟩
      · cases z2
      · rw [List.getElem?_set_ne n1, List.getElem?_set_ne n2]
        exact o.sep j k xs ys n z1 z2
/-- a slot of which nothing is known -/
theorem Ok.putN (o : Ok F Z ρ σ H) (i : Nat) (v : V) : Ok F Z (ρ.set i none) (σ.set i (some v)) H := by
  refine ⟨by rw [List.length_set, List.length_set, o.len], o.eff, o.row, o.zok, fun j x e => ?_, fun j a e => ?_, fun j k xs ys n e1 e2 => ?_⟩
  · rcases get_set e with ⟨_, _, z⟩ | ⟨_, z⟩
    · cases z
    · exact o.nt j x z
  · rcases get_set e with ⟨rfl, l, z⟩ | ⟨n, z⟩
    · cases z
    · obtain ⟨u, h1, h2⟩ := o.at_ j a z
      exact ⟨u, by rw [List.getElem?_set_ne n]; exact h1, h2⟩
  · rcases get_set e1 with ⟨_, _, z1⟩ | ⟨n1, z1⟩
    · cases z1
    · rcases get_set e2 with ⟨_, _, z2⟩ | ⟨n2, z2⟩
      · cases z2
      · rw [List.getElem?_set_ne n1, List.getElem?_set_ne n2]
        exact o.sep j k xs ys n z1 z2
/-- what is known of a slot is let go -/
theorem Ok.forget (o : Ok F Z ρ σ H) (i : Nat) : Ok F Z (ρ.set i none) σ H := by
  have back : ∀ {k : Nat} {a : AV}, (ρ.set i none)[k]? = some (some a) → ρ[k]? = some (some a) := fun h => by
    rcases get_set h with ⟨_, _, z⟩ | ⟨_, z⟩
    · cases z
    · exact z
  exact ⟨by rw [List.length_set]; exact o.len, o.eff, o.row, o.zok, fun j x e => o.nt j x (back e), fun j a e => o.at_ j a (back e), fun j k xs ys n e1 e2 => o.sep j k xs ys n (back e1) (back e2)⟩
/-- a slot is emptied of which nothing is known -/
theorem Ok.putO (o : Ok F Z ρ σ H) (i : Nat) (e : ∀ a, ρ[i]? ≠ some (some a)) : Ok F Z ρ (σ.set i none) H := by
  have ne : ∀ {j : Nat} {a : AV}, ρ[j]? = some (some a) → i ≠ j := fun h z => e _ (by rw [z]; exact h)
  refine ⟨by rw [List.length_set]; exact o.len, o.eff, o.row, o.zok, o.nt, fun j a h => ?_, fun j k xs ys n h1 h2 => ?_⟩
  · obtain ⟨v, g1, g2⟩ := o.at_ j a h
    exact ⟨v, by rw [List.getElem?_set_ne (ne h)]; exact g1, g2⟩
  · rw [List.getElem?_set_ne (ne h1), List.getElem?_set_ne (ne h2)]
    exact o.sep j k xs ys n h1 h2
/-- what is known of a slot's value is told -/
theorem Ok.knowM {v : V} {P : Hp → V → Prop} (o : Ok F Z ρ σ H) (st : ∀ H H' v, Same H H' → P H v → P H' v) (h : P (Vw F Z H) v) {i : Nat} (e : σ[i]? = some (some v)) : Ok F Z (ρ.set i (some (.m P))) σ H := by
  have := o.putM st h i
  have lt := (List.getElem?_eq_some_iff.mp e).1
  have e2 : σ.set i (some v) = σ := by
    refine List.ext_getElem? fun k => ?_
    rw [List.getElem?_set]
    by_cases c : i = k
    · subst c
      rw [if_pos rfl, if_pos lt, e]
    · rw [if_neg c]
  rw [e2] at this
  exact this
/-- a new object that is no list stands from now on -/
theorem Ok.hold {d : Addr} {ob : HO} (o : Ok F Z ρ σ H) (n : F.ro ≠ some d) (h : H d = some ob) (nl : ∀ xs, ob ≠ .lst xs) : Ok F (fun b => Z b ∨ b = d) ρ σ H ∧ Same (Vw F Z H) (Vw F (fun b => Z b ∨ b = d) H) ∧ Vw F (fun b => Z b ∨ b = d) H d = some ob := by
  have kp : ∀ b, keepP F Z H b → keepP F (fun b => Z b ∨ b = d) H b := fun b ⟨k1, k2⟩ => ⟨k1, k2.elim (fun z => .inl (.inl z)) .inr⟩
  have vw : Same (Vw F Z H) (Vw F (fun b => Z b ∨ b = d) H) := fun b ob h => vw_of (kp b (vw_some h).1) (vw_some h).2
  refine ⟨⟨o.len, o.eff, o.row, fun b hb => ?_, o.nt, fun j av ej => ?_, o.sep⟩, vw, vw_of ⟨n, .inl (.inr rfl)⟩ h⟩
  · rcases hb with hb | hb
    · exact o.zok b hb
    · rw [hb, h]; simp
  · obtain ⟨u, g1, g2⟩ := o.at_ j av ej
    refine ⟨u, g1, ?_⟩
    cases av with
    | d x => exact g2
    | p x => exact Dp.imm vw g2
    | t x => exact absurd ej (o.nt j x)
    | row => exact g2
    | m P => exact ⟨g2.1, g2.1 _ _ _ vw g2.2⟩
    | l f ys =>
      obtain ⟨q2, us2, rfl, n2, h02, z2, fr2, hq2, a2⟩ := g2
      refine ⟨q2, us2, rfl, n2, h02, fun z => z.elim z2 fun e => ?_, fr2, hq2, DpAll.imm vw a2⟩
      rw [e, h] at hq2
      exact nl _ (Option.some.inj hq2)
/-- {a: b, c: e}, kept under a name -/
def aDisp2 (a b c e : Str) (j : Nat) : AS := fun D ρ => a ≠ c ∧ D.nx (ρ.set j (some (.m (isDct [(a, b), (c, e)]))))
theorem wDisp2 {a b c e : Str} {j : Nat} {D : AEnds} (n : a ≠ c) (h : D.nx (ρ.set j (some (.m (isDct [(a, b), (c, e)]))))) : aDisp2 a b c e j D ρ := ⟨n, h⟩
instance {a b c e : Str} {j : Nat} : SS F (tAsg (tDisp [(tC (.str a), tC (.str b)), (tC (.str c), tC (.str e))]) (gName j)) (aDisp2 a b c e j) where
  snd := fun Z ρ σ H aD D o q w => by
    obtain ⟨ne, q⟩ := q
    refine rAsg (rDisp fun p H1 np s1 e1 => ?_)
    refine rPairsS (rC (rC (rPairsS (rC (rC (rPairs0 ?_))))))
    refine rDispEnd [(.inr a, .str b), (.inr c, .str e)] e1 rfl (by show 2 ≤ 15; decide) fun H2 c2 e2 => ?_
    have h0 := h0_free o np
    have sm : Same H H2 := same_chg s1 c2 np
    have st : Step F Z H Z H2 := ⟨Eff.of sm, fun r hr => (o.row r hr).same sm, fun _ h => h, fun _ h => .inl h, fun b hb z => by
      cases e3 : H b with
      | none => exact o.zok b hb e3
      | some ob => rw [sm _ _ e3] at z; cases z⟩
    have o2 := o.step st
    have nr : F.ro ≠ some p := row_ne o np
    obtain ⟨o3, vw, hp⟩ := o2.hold nr e2 (by intro _ z; cases z)
    have e4 : mergeK [] [((.inr a : Key), V.str b), (.inr c, .str e)] = dS [(a, b), (c, e)] := by
      unfold mergeK dS
      simp only [List.foldl_cons, List.foldl_nil, List.map_cons, List.map_nil]
      unfold putK
      simp [ne]
    rw [e4] at hp
    exact w.nx _ _ _ H2 q (o3.putM isDct_on ⟨p, rfl, hp⟩ j) (st.vw.trans vw)
end

/-! the greater one of a pair -/
def rMaxT (K : PySem.W.Frag) : List V → Hp → VK → Prop := fun vs H Q => ∃ (p : Addr) (a b : Int), vs = [.ref p] ∧ SqT K H p [.int a, .int b] ∧ Q (.int (if a < b then b else a)) H
theorem cr_maxT {X : Cx} (hc : X.calm = true) : CallR X (.builtin "max") (rMaxT X.K) := by
  intro pins s σ H vs us Q I r h
  obtain ⟨p, a, b, rfl, hq, q⟩ := h
  obtain rfl := Vals.ref1 r
  obtain ⟨its, rv, tup, _⟩ := I.tuple hq
  obtain ⟨t1, t2, rfl⟩ : ∃ t1 t2, its = [.int a t1, .int b t2] := by
    cases rv with | cons r1 rv =>
    cases rv with | cons r2 rv =>
    cases rv
    obtain ⟨t1, rfl⟩ := r1
    obtain ⟨t2, rfl⟩ := r2
    exact ⟨t1, t2, rfl⟩
  have tup : s.heap.IsTuple p #[.int a t1, .int b t2] := tup
  have fresh : p ≠ s.heap.objs.size := by
    obtain ⟨o, e, _⟩ := tup
    exact Nat.ne_of_lt (Heap.lt_size e)
  refine call_max_walk (wpAny_pyIter_tuple tup ?_)
  refine ⟨s.heap.objs.size, _, _, 2, _, _, _, rfl, Walks.tuple (prog := X.prog) (w := X.w) (A := X.A.in1) (I.ok.hd hc) s.heap.objs.size p fresh #[.int a t1, .int b t2], ?_, ?_, by decide,
    CmpOf.ints_gt (fun i => if i = 0 then a else b) (fun i v e => ?_), fun v h' tk hv old => ?_⟩
  · exact ⟨⟨_, Heap.get?_push_size _ rfl, rfl, rfl⟩, tup.push _⟩
  · intro c hc'
    rw [Heap.size_push]
    rcases List.mem_cons.mp hc' with z | z
    · rw [z]; exact Nat.lt_succ_self _
    · rw [List.mem_singleton.mp z]
      obtain ⟨o, e, _⟩ := tup
      exact Nat.lt_succ_of_lt (Heap.lt_size e)
  · match i, e with
    | 0, e => cases Option.some.inj e; exact ⟨_, rfl⟩
    | 1, e => cases Option.some.inj e; exact ⟨_, rfl⟩
  · have kept : ∀ c o, s.heap.get? c = some o → h'.get? c = some o := fun c o e => by
      refine old c o (fun z => ?_) (Heap.get?_push_of_some _ e)
      have := Heap.lt_size e
      rw [List.mem_singleton.mp z] at this
      exact Nat.lt_irrefl _ this
    have pick : ∃ t, v = .int (if a < b then b else a) t := by
      by_cases g : a < b
      · have e : argBest (fun i j => decide ((if i = 0 then a else b) > (if j = 0 then a else b))) (2 - 1) = 1 := by simp [argBest, g]
        rw [e] at hv
        rw [if_pos g]
        cases Option.some.inj hv
        exact ⟨_, rfl⟩
      · have e : argBest (fun i j => decide ((if i = 0 then a else b) > (if j = 0 then a else b))) (2 - 1) = 0 := by simp [argBest, g]
        rw [e] at hv
        rw [if_neg g]
        cases Option.some.inj hv
        exact ⟨_, rfl⟩
    exact ⟨.int _, H, I.kept kept, pick, q⟩
theorem k_maxT {X : Cx} (K : PySem.W.Frag) (calm : X.calm = true) (hK : X.K = K := by rfl) : CallR X (.builtin "max") (rMaxT K) := hK ▸ cr_maxT calm
def aMaxT : ABl := fun vs Φ => ∃ (x : AV) (a b : Int), vs = [x] ∧ x.dat = .tuple [.int a, .int b] ∧ Φ (.d (.int (if a < b then b else a)))
theorem wMaxT {x : AV} {a b : Int} {Φ : AV → Prop} (e : x.dat = .tuple [.int a, .int b]) (h : Φ (.d (.int (if a < b then b else a)))) : aMaxT [x] Φ := ⟨x, a, b, rfl, e, h⟩
instance {K : PySem.W.Frag} {ec : EC} {F : Fr K ec} : SB F (rMaxT K) aMaxT where
  snd := fun Z ρ σ He H xs axs Φ Q o rx ⟨x, a, b, e, ex, q⟩ k => by
    subst e
    cases rx with | cons r t =>
    cases t
    obtain ⟨p, vs, rfl, hq, _, d⟩ := r.tupP o.row ex
    have : vs = [.int a, .int b] := by
      cases d with | cons d1 d =>
      cases d with | cons d2 d =>
      cases d
      rw [dp_int d1, dp_int d2]
    subst this
    exact ⟨p, a, b, rfl, hq, k _ _ H Z q o.refl (rv_int _)⟩

/-! the refusal that tells a place -/
/-- a def in a class -/
def clsDef (s : Stmt) (j : Nat) : Stmt := match s with
  | .ClassDef _ _ _ b _ _ _ _ _ _ _ => b.getD j (.Pass ⟨0, 0, 0, 0⟩)
  | _ => .Pass ⟨0, 0, 0, 0⟩
section
variable {X : Cx} {e : Expr} {es : List Expr} {ta : TA} {p1 p2 pos : Pos} {D : Addr} {x : Str}
/-- B.__init__(self, ..), B an own class of errors that has none of its own -/
theorem pe_ceinit {pl : Sem Bool} (hg : Gl X x) (hm : X.mg x = some (.ref D)) (rd : PySem.W.readsIn X.K D (.type "type") = true) (ga : PySem.W.specialIn X.K (.ref D) "__getattribute__" = some (some (.builtin "type.__getattribute__")))
    (vV : PySem.W.findCls X.K (.ref D) (.type "type") "__init__" = some (.val (.builtin "ValueError.__init__"))) (ha : PA X (e :: es) ta) (hdb : (x == ("__debug__" : Str)) = false := by decide)
    (hc : eval (.Call (.Attribute (.Name x p1) "__init__" p2) (e :: es) [] pos) X.env = (do
      let ov ← eval (.Name x p1) X.env
      standAt p2.atName
      let (f, first) ← holding [ov] (getMethod ov "__init__" pl)
      callWith pos f first (backTo pos (starEach (e :: es) X.env)) (backToKw pos (keywordEach [] X.env))) := by rfl)
    (he : starEach (e :: es) X.env = (false, eval e X.env) :: starEach es X.env := by rfl) (hpl : (backTo pos (starEach es X.env)).any (·.1) = false := by rfl) :
    PE X (.Call (.Attribute (.Name x p1) "__init__" p2) (e :: es) [] pos) (tVeI X.K ta) := by
  refine ⟨fun pins s σ H Q I h => ?_⟩
  refine PySem.W.methodCall_KW (pl := pl) (ld_glob I hg hm ?_ hdb) hc
  refine PySem.W.method_cls I.kIn ga ?_
  refine PySem.W.cls_value I.kIn rd vV (by decide) ?_
  show wpAny _ _ (callWith pos (Value.builtin "ValueError.__init__") [] (backTo pos (starEach (e :: es) X.env)) []) _ _ _
  refine PyProof.Rows.callWith_method1 (thn (ha.run pos pins _ σ H _ (I.tok _) h) fun us s1 ⟨vs, H1, I1, r1, a, C, ws, ev, hl, T, ea, q⟩ => ?_) he hpl
  subst ev
  cases r1 with
  | @cons _ u0 _ ur ra rw' =>
    obtain rfl : u0 = Value.ref a := ra
    have hlen : ur.length ≤ sizeLine := by
      rw [← Paired.length rw', sizeLine_eq]
      omega
    exact oinit_ok T I1 ea hlen fun s' J => ⟨.non, H1, J, rfl, q⟩
end
/-- what the written part says of the class that tells a place -/
structure SayC (K : PySem.W.Frag) (mg : Str → Option Value) (C fI : Addr) : Prop where
  g : mg "BadSaying" = some (.ref C)
  o : OexC K C
  i : PySem.W.findIn K (.ref C) "__init__" = some (some (.ref fI))
  t : PySem.W.typeIn K (.ref fI) = some (.type "function")
/-- the promise of its __init__ -/
def spInit (K : PySem.W.Frag) (C : Addr) : Sp := fun vs H Q _ => ∃ (a : Addr) (m : Nat), vs = [.ref a, .int m] ∧ m < 100000 ∧ H a = some (exo a C none) ∧
  ∀ dx, H dx = none → dx ≠ a → Q .non (upd (upd H dx (exd dx [("place", .int m)])) a (exo a C (some dx)))
/-- raise BadSaying(e) -/
def tRaiseP (K : PySem.W.Frag) (C : Addr) (W : WX) (te : TE) : TS := fun _ σ H => tMkO C (spInit K C) [] (tCons te tNil) σ H fun cls d H' => W cls d σ H'
def QRp (K : PySem.W.Frag) (C : Addr) (W : WX) (σ : L2.St) : VK := fun x H1 => tNil σ H1 fun xs H2 => ([x] ++ xs).length ≤ 1000 ∧ ∀ a, H2 a = none → spInit K C (.ref a :: (([x] ++ xs) ++ [])) (upd H2 a (exo a C none))
  (fun v H3 => v = .non ∧ ∃ (d : Addr) (fs : List (Str × V)), H3 a = some (exo a C (some d)) ∧ H3 d = some (exd d fs) ∧ H2 d = none ∧ W (.ref C) (some d) σ (upd (del H3 a) d (.xd fs))) (fun _ _ _ => False)
theorem rRaiseP {K : PySem.W.Frag} {C : Addr} {W : WX} {te : TE} {D : Ends} {σ : L2.St} {H : Hp} (h : te σ H (QRp K C W σ)) : tRaiseP K C W te D σ H := h
theorem upd_end {H : Hp} {a d : Addr} {C : Addr} {fs : List (Str × V)} (ha : H a = none) (hda : d ≠ a) : upd (del (upd (upd (upd H a (exo a C none)) d (exd d fs)) a (exo a C (some d))) a) d (.xd fs) = upd H d (.xd fs) := by
  funext b
  by_cases hd : b = d
  · subst hd
    rw [upd_same, upd_same]
  · rw [upd_ne hd, upd_ne hd]
    by_cases hb : b = a
    · subst hb
      rw [del_same, ha]
    · rw [del_ne hb, upd_ne hb, upd_ne hd, upd_ne hb]
theorem qRaiseP {K : PySem.W.Frag} {C : Addr} {W : WX} {σ : L2.St} {H1 : Hp} {m : Nat} (hm : m < 100000) (h : ∀ d, H1 d = none → W (.ref C) (some d) σ (upd H1 d (.xd [("place", .int m)]))) : QRp K C W σ (.int m) H1 := by
  refine ⟨(by simp), fun a ha => ⟨a, m, rfl, hm, upd_same, fun d hd hda => ⟨rfl, d, [("place", .int m)], upd_same, ?_, ?_, ?_⟩⟩⟩
  · rw [upd_ne hda, upd_same]
  · rw [upd_ne hda] at hd
    exact hd
  · rw [upd_end ha hda]
    rw [upd_ne hda] at hd
    exact h d hd
section
variable {X : Cx} {CX : CXT} {e : Expr} {te : TE} {p pos pos2 : Pos} {C fI : Addr} {k : Nat} {fd : FuncData} {W : WX}
theorem ps_raiseP (hc : X.calm = true) (T : SayC X.K X.mg C fI) (F1 : FnOk X.prog X.w X.K X.mg X.base CX k fI fd ["self", "place"] (spInit X.K C)) (hr : Room (k + 1) X.A) (hb : Binds X.K fd ["self", "place"] []) (hx : Passes CX X (fun _ _ _ => False)) (tk : Takes X W)
    (hg : Gl X "BadSaying") (ha : PE X e te)
    (he : starEach (e :: []) X.env = (false, eval e X.env) :: starEach [] X.env := by rfl) (hpl : (backTo pos (starEach [] X.env)).any (·.1) = false := by rfl) :
    PS X (.Raise (some (.Call (.Name "BadSaying" p) [e] [] pos)) none pos2) (tRaiseP X.K C W te) :=
  ps_raise (pos := pos2) hc tk (pmk_oex (p := p) (pos := pos) T.o T.i T.t F1 hr hb .nil hx hg T.g (pa_cons ha pa_nil he) (by decide) he hpl)
end
/-- how the refusals look of what takes a size and words -/
def ecP (CS C : Addr) : EC := fun x c d H => (x = .size ∧ c = .ref CS ∧ d = none) ∨ ∃ (m : Nat) (dd : Addr), x = .saying m ∧ c = .ref C ∧ d = some dd ∧ H dd = some (.xd [("place", .int m)])
/-! words that are none -/
theorem nsIn_none {K : PySem.W.Frag} {d : Addr} {ws : List Str} {s : Str} (q : KKeys K d ws) (h : s ∉ ws) : PySem.W.nsIn K d s = some none := by
  obtain ⟨es, n, l, v, o⟩ := q
  have key : es.toList.find? (fun e => e.key.isStr s) = none ∧ es.toList.any (fun e => e.refKey) = false := by
    clear l
    generalize es.toList = r at o
    induction o with
    | nil => exact ⟨rfl, rfl⟩
    | @cons e x r ws ex o ih =>
      obtain ⟨t, ex⟩ := ex
      obtain ⟨i1, i2⟩ := ih fun m => h (List.mem_cons_of_mem _ m)
      have ne : x ≠ s := fun z => h (z ▸ List.mem_cons_self)
      have k1 : e.key.isStr s = false := by
        rw [ex]
        exact decide_eq_false ne
      have k2 : e.refKey = false := by unfold DictEntry.refKey; rw [ex]
      exact ⟨by rw [List.find?_cons, k1]; exact i1, by rw [List.any_cons, k2, i2]; rfl⟩
  unfold PySem.W.nsIn
  rw [l]
  show (match es.toList.find? (fun e => e.key.isStr s) with | some e => some (some e.val) | none => if es.toList.any (fun e => e.refKey) then none else some none) = some none
  rw [key.1, key.2]
  rfl
theorem not_cols {s : Str} (h : isCoW s = false) : inV (.str s) [.str "white", .str "yellow", .str "black", .str "blue", .str "green", .str "red"] = false := by
  have e1 : isCoW s = inV (.str s) ((["black", "blue", "green", "red", "white", "yellow"] : List Str).map V.str) := rfl
  have e2 : inV (.str s) [.str "white", .str "yellow", .str "black", .str "blue", .str "green", .str "red"] = inV (.str s) ((["white", "yellow", "black", "blue", "green", "red"] : List Str).map V.str) := rfl
  rw [e1, inV_strs, decide_eq_false_iff_not] at h
  rw [e2, inV_strs, decide_eq_false_iff_not]
  intro m
  refine h ?_
  simp only [List.mem_cons, List.not_mem_nil, or_false] at m ⊢
  rcases m with m | m | m | m | m | m <;> simp [m]
theorem not_least {s : Str} (h : nwOf s = none) : s ∉ (["party", "cut", "quartered", "pillar", "band", "head", "edge"] : List Str) := by
  have e := inV_seven s
  rw [h] at e
  have e2 : inV (.str s) ((["party", "cut", "quartered", "pillar", "band", "head", "edge"] : List Str).map V.str) = false := e
  rw [inV_strs, decide_eq_false_iff_not] at e2
  exact e2
theorem okS_side {w h : Nat} (sw : Side w) (sh : Side h) : okS w h = true := by
  unfold Side at sw sh
  rcases sw with rfl | rfl | rfl | rfl <;> rcases sh with rfl | rfl | rfl | rfl <;> decide
/-- the sizes of the sayings that are awaited -/
def aw (want : Bool) (st : List (Nat × Nat)) : List (Nat × Nat) := (if want then [(1, 1)] else []) ++ st
def Pos2 (l : List (Nat × Nat)) : Prop := ∀ p ∈ l, 1 ≤ p.1 ∧ 1 ≤ p.2
theorem nw_one (x : Nw) : x.fits 1 1 = false := by rcases x with x | x <;> cases x <;> decide
theorem part_pos {d : Du} {w h : Nat} (f : d.fits w h = true) (p : 1 ≤ w ∧ 1 ≤ h) : 1 ≤ d.pw w ∧ 1 ≤ d.ph h := by
  cases d
  · have f : 2 ≤ w := of_decide_eq_true f
    show 1 ≤ w / 2 ∧ 1 ≤ h
    omega
  · have f : 2 ≤ h := of_decide_eq_true f
    show 1 ≤ w ∧ 1 ≤ h / 2
    omega
  · have f : 2 ≤ w ∧ 2 ≤ h := by simpa [Du.fits] using f
    show 1 ≤ w / 2 ∧ 1 ≤ h / 2
    omega
theorem look_step {want : Bool} {st r : List (Nat × Nat)} {a b i n : Nat} {x : Str} {l : List Str} (e : aw want st = (a, b) :: r) (h : look st want i (x :: l) = .inl n) (pos : Pos2 (aw want st)) :
    (∃ kw : Kw, x = kw.s ∧ kw.fits a b = true ∧ ∃ (st' : List (Nat × Nat)) (want' : Bool), look st' want' (i + 1) l = .inl n ∧ aw want' st' = kw.behind a b ++ r ∧ Pos2 (aw want' st')) ∨
    (n = i ∧ ((∃ kw : Kw, x = kw.s ∧ kw.fits a b = false) ∨ (isCoW x = false ∧ nwOf x = none))) := by
  rw [e] at pos
  have pa := pos _ List.mem_cons_self
  have pr : Pos2 r := fun p hp => pos p (List.mem_cons_of_mem _ hp)
  by_cases co : isCoW x = true
  · obtain ⟨c, ec⟩ := isCoW_some co
    refine .inl ⟨.c c, ec, rfl, r, false, ?_, rfl, pr⟩
    cases want with
    | true =>
      obtain ⟨_, e2⟩ := List.cons.inj (show (1, 1) :: st = (a, b) :: r from e)
      rw [look, if_pos co, e2] at h
      exact h
    | false =>
      have e : st = (a, b) :: r := e
      subst e
      rw [look, if_pos co] at h
      exact h
  · have co' : isCoW x = false := by simpa using co
    cases want with
    | true =>
      obtain ⟨e1, e2⟩ := List.cons.inj (show (1, 1) :: st = (a, b) :: r from e)
      cases e1
      rw [look, if_neg co] at h
      refine .inr ⟨(Sum.inl.inj h).symm, ?_⟩
      cases ex : nwOf x with
      | none => exact .inr ⟨co', rfl⟩
      | some y => exact .inl ⟨y.k, by rw [Nw.ks, nwOf_some ex], by
        rcases y with y | y
        · exact nw_one (.d y)
        · exact nw_one (.p y)⟩
    | false =>
      have e : st = (a, b) :: r := e
      subst e
      rw [look, if_neg co] at h
      cases ex : nwOf x with
      | none =>
        rw [ex] at h
        exact .inr ⟨(Sum.inl.inj h).symm, .inr ⟨co', rfl⟩⟩
      | some y =>
        rw [ex] at h
        have ew := nwOf_some ex
        cases f : y.fits a b with
        | false =>
          have h : (if y.fits a b = true then _ else (Sum.inl i : Nat ⊕ Nat)) = .inl n := h
          rw [if_neg (by rw [f]; decide)] at h
          exact .inr ⟨(Sum.inl.inj h).symm, .inl ⟨y.k, by rw [Nw.ks, ew], by rcases y with y | y <;> exact f⟩⟩
        | true =>
          cases y with
          | d d =>
            have h : (if (Nw.d d).fits a b = true then look ((d.pw a, d.ph b) :: (d.pw a, d.ph b) :: r) false (i + 1) l else .inl i) = .inl n := h
            rw [if_pos f] at h
            have pp := part_pos f pa
            refine .inl ⟨.d d, ew.symm, f, _, false, h, rfl, fun p hp => ?_⟩
            rcases List.mem_cons.mp hp with z | hp
            · rw [z]; exact pp
            · rcases List.mem_cons.mp hp with z | hp
              · rw [z]; exact pp
              · exact pr p hp
          | p y =>
            have h : (if (Nw.p y).fits a b = true then look ((a, b) :: r) true (i + 1) l else .inl i) = .inl n := h
            rw [if_pos f] at h
            refine .inl ⟨.p y, ew.symm, f, _, true, h, rfl, fun p hp => ?_⟩
            rcases List.mem_cons.mp hp with z | hp
            · rw [z]; exact ⟨by decide, by decide⟩
            · exact pos p hp
theorem same_add {H : Hp} {d : Addr} {o : HO} (h : H d = none) : Same H (upd H d o) := fun b u e => by
  rw [upd_ne (ne_of_none e h)]
  exact e

/-! texts: put together, cut, one sign, counted -/
def rCatSt : R2 := fun x y H Q => ∃ i j, x = .str i ∧ y = .str j ∧ i.length + j.length ≤ sizeLine ∧ Q (.str (i ++ j)) H
theorem k_catSt {X : Cx} : OpR X (binaryOp .Add) rCatSt := op_add_str
def rJoinL (K : PySem.W.Frag) : V → List V → Hp → VK → Prop := fun x xs H Q => ∃ a p, ∃ ys : List Str, x = .str a ∧ xs = [.ref p] ∧ SqL K H p (ys.map V.str) ∧
    (ys.map (·.length)).sum + ys.length * a.length ≤ 16777216 ∧ Q (.str (Txt.join a ys)) H
theorem k_joinL (K : PySem.W.Frag) {X : Cx} (hK : X.K = K := by rfl) : MtR X "str.join" (rJoinL K) := by
  subst hK
  intro pins s σ H x xs v us Q I rx rs ⟨a, p, ys, e1, e2, h1, h2, q⟩
  exact mt_join pins s σ H x xs v us Q I rx rs ⟨a, p, ys, e1, e2, .inl h1, h2, q⟩
def rLenSt : List V → Hp → VK → Prop := fun xs H Q => ∃ z, xs = [.str z] ∧ z.length ≤ sizeLine ∧ Q (.int z.length) H
theorem k_lenSt {X : Cx} : CallR X (.builtin "len") rLenSt := call_len_str
def aCatSt : AR2 := fun x y Φ => ∃ s t, x.dat = .str s ∧ y.dat = .str t ∧ s.length + t.length ≤ 1000000 ∧ Φ (.d (.str (s ++ t)))
def aIxSt : AR2 := fun x y Φ => ∃ z i c, x.dat = .str z ∧ y.dat = .int i ∧ z.length ≤ 1000000 ∧ atI z.cps.toList i = some c ∧ Φ (.d (.str ⟨#[c]⟩))
def aSlSt : ASl := fun x lo hi Φ => ∃ z, x = .d (.str z) ∧ z.length ≤ 1000000 ∧ Φ (.d (.str (cutS z lo hi)))
def aLenSt : ABl := fun vs Φ => ∃ x z, vs = [x] ∧ x.dat = .str z ∧ z.length ≤ 1000000 ∧ Φ (.d (.int (z.length : Nat)))
def aJoinL : Str → AV → (AV → Prop) → Prop := fun s y Φ => ∃ (f : Bool) (ys : List Str), y = .l f (ys.map PyData.str) ∧ (ys.map (·.length)).sum + ys.length * s.length ≤ 16777216 ∧ Φ (.d (.str (Txt.join s ys)))
theorem line_mil : (1000000 : Nat) ≤ sizeLine := by rw [sizeLine_eq]; decide
section
variable {K : PySem.W.Frag} {ec : EC} {F : Fr K ec}
instance : SR F rCatSt aCatSt where
  snd := fun Z ρ σ He H x y ax ay Φ Q o rx ry ⟨s, t, e1, e2, few, q⟩ k => by
    have h1 := rx.str o.row e1
    have h2 := ry.str o.row e2
    subst h1 h2
    exact ⟨s, t, rfl, rfl, Nat.le_trans few line_mil, k _ _ H Z q o.refl (rv_str _)⟩
instance : SR F rIxS aIxSt where
  snd := fun Z ρ σ He H x y ax ay Φ Q o rx ry ⟨z, i, c, e1, e2, few, e3, q⟩ k => by
    have h1 := rx.str o.row e1
    have h2 := ry.int o.row e2
    subst h1 h2
    exact ⟨z, i, c, rfl, rfl, Nat.le_trans few line_mil, e3, k _ _ H Z q o.refl (rv_str _)⟩
instance : SL F rSlS aSlSt where
  snd := fun Z ρ σ He H x lo hi ax Φ Q o rx ⟨z, e, few, q⟩ k => by
    subst e
    have h1 := rx.str o.row rfl
    subst h1
    exact ⟨z, rfl, Nat.le_trans few line_mil, k _ _ H Z q o.refl (rv_str _)⟩
instance : SB F rLenSt aLenSt where
  snd := fun Z ρ σ He H xs axs Φ Q o rx ⟨x, z, e, ex, few, q⟩ k => by
    subst e
    cases rx with
    | cons r t =>
    cases t
    have h1 := r.str o.row ex
    subst h1
    exact ⟨z, rfl, Nat.le_trans few line_mil, k _ _ H Z q o.refl (rv_int _)⟩
instance {te tf : TE} {a b : AE} [SE F te a] [SE F tf b] : SE F (tBM K "str" (rJoinL K) te (tCons tf tNil)) (aMt aJoinL a b) where
  snd := fun Z ρ σ H Φ Q o q k => by
    refine SE.snd (F := F) (te := te) (ae := a) Z ρ σ H _ _ o q fun x ax H1 Z1 ⟨s, es, q1⟩ s1 r1 => ?_
    have h1 := r1.str (o.step s1).row es
    subst h1
    refine ⟨rfl, ?_⟩
    refine SE.snd (F := F) (te := tf) (ae := b) Z1 ρ σ H1 _ _ (o.step s1) q1 fun y ay H2 Z2 ⟨f, ys, e2, hz, q2⟩ s2 r2 => ?_
    have o2 := (o.step s1).step s2
    subst e2
    obtain ⟨p, vs, rfl, _, _, _, _, hp, d⟩ := r2
    rw [strs_inv d] at hp
    exact ⟨s, p, ys, rfl, rfl, SqL.of hp, hz, k _ _ H2 Z2 q2 (s1.trans o.row s2) (rv_str _)⟩
end
section
variable {Φ : AV → Prop} {s t : Str}
theorem wCatSt (few : s.length + t.length ≤ 1000000) (h : Φ (.d (.str (s ++ t)))) : aCatSt (.d (.str s)) (.d (.str t)) Φ := ⟨s, t, rfl, rfl, few, h⟩
theorem wIxSt {i : Int} {c : Nat} (few : s.length ≤ 1000000) (e : atI s.cps.toList i = some c) (h : Φ (.d (.str ⟨#[c]⟩))) : aIxSt (.d (.str s)) (.d (.int i)) Φ := ⟨s, i, c, rfl, rfl, few, e, h⟩
theorem wSlSt {lo hi : Option Int} (few : s.length ≤ 1000000) (h : Φ (.d (.str (cutS s lo hi)))) : aSlSt (.d (.str s)) lo hi Φ := ⟨s, rfl, few, h⟩
theorem wLenSt (few : s.length ≤ 1000000) (h : Φ (.d (.int (s.length : Nat)))) : aLenSt [.d (.str s)] Φ := ⟨_, s, rfl, rfl, few, h⟩
theorem wJoinL {f : Bool} {ys : List Str} (hz : (ys.map (·.length)).sum + ys.length * s.length ≤ 16777216) (h : Φ (.d (.str (Txt.join s ys)))) : aJoinL s (.l f (ys.map PyData.str)) Φ := ⟨f, ys, rfl, hz, h⟩
end
/-! ### signs counted -/
def ctP (p : Nat → Bool) (s : Str) : Nat := s.cps.toList.countP p
theorem ctP_all (s : Str) : ctP (fun _ => true) s = s.length := by
  show s.cps.toList.countP (fun _ => true) = s.cps.size
  rw [List.countP_true, Array.length_toList]
theorem ctP_app (p : Nat → Bool) (a b : Str) : ctP p (a ++ b) = ctP p a + ctP p b := by
  show (a.cps ++ b.cps).toList.countP p = _
  rw [Array.toList_append, List.countP_append]
  rfl
theorem ctP_cut (p : Nat → Bool) (z : Str) (lo hi : Option Int) : ctP p (cutS z lo hi) ≤ ctP p z := by
  show (((z.cps.toList.drop (HT.sIx z.length 0 lo)).take (HT.sIx z.length z.length hi - HT.sIx z.length 0 lo)).toArray).toList.countP p ≤ _
  exact List.Sublist.countP_le ((List.take_sublist _ _).trans (List.drop_sublist _ _))
theorem jl_app (p : Nat → Bool) (c : Nat) : ∀ a b : List (List Nat), (jl c (a ++ b)).countP p ≤ (jl c a).countP p + 1 + (jl c b).countP p
  | [], b => by show (jl c b).countP p ≤ 0 + 1 + _; omega
  | [x], [] => by show x.countP p ≤ x.countP p + 1 + 0; omega
  | [x], y :: b => by
    show (x ++ c :: jl c (y :: b)).countP p ≤ x.countP p + 1 + _
    rw [List.countP_append, List.countP_cons]
    split <;> omega
  | x :: y :: a, b => by
    have ih := jl_app p c (y :: a) b
    show (x ++ c :: jl c (y :: a ++ b)).countP p ≤ (x ++ c :: jl c (y :: a)).countP p + 1 + _
    rw [List.countP_append, List.countP_cons, List.countP_append, List.countP_cons]
    omega
theorem jl_take (p : Nat → Bool) (c : Nat) : ∀ (a : List (List Nat)) (k : Nat), (jl c (a.take k)).countP p ≤ (jl c a).countP p
  | _, 0 => by rw [List.take_zero]; exact Nat.zero_le _
  | [], k + 1 => by rw [List.take_nil]; exact Nat.le_refl _
  | [x], k + 1 => by show (jl c (x :: ([] : List (List Nat)).take k)).countP p ≤ _; rw [List.take_nil]; exact Nat.le_refl _
  | x :: y :: a, 1 => by
    show x.countP p ≤ (x ++ c :: jl c (y :: a)).countP p
    rw [List.countP_append]
    omega
  | x :: y :: a, k + 2 => by
    have ih := jl_take p c (y :: a) (k + 1)
    show (x ++ c :: jl c ((y :: a).take (k + 1))).countP p ≤ (x ++ c :: jl c (y :: a)).countP p
    rw [List.countP_append, List.countP_append, List.countP_cons, List.countP_cons]
    omega
theorem jl_drop (p : Nat → Bool) (c : Nat) : ∀ (a : List (List Nat)) (k : Nat), (jl c (a.drop k)).countP p ≤ (jl c a).countP p
  | _, 0 => Nat.le_refl _
  | [], k + 1 => by rw [List.drop_nil]; exact Nat.le_refl _
  | [x], k + 1 => by show (jl c (([] : List (List Nat)).drop k)).countP p ≤ _; rw [List.drop_nil]; exact Nat.zero_le _
  | x :: y :: a, k + 1 => by
    have ih := jl_drop p c (y :: a) k
    show (jl c ((y :: a).drop k)).countP p ≤ (x ++ c :: jl c (y :: a)).countP p
    rw [List.countP_append, List.countP_cons]
    omega
theorem jl_parts (c : Nat) : ∀ a : List (List Nat), a.length ≤ (jl c a).countP (fun z => z == c) + 1
  | [] => Nat.zero_le _
  | [x] => by show 1 ≤ _ + 1; omega
  | x :: y :: a => by
    have ih := jl_parts c (y :: a)
    show (y :: a).length + 1 ≤ (x ++ c :: jl c (y :: a)).countP (fun z => z == c) + 1
    rw [List.countP_append, List.countP_cons, if_pos (beq_self_eq_true c)]
    omega
theorem jl_free (p : Nat → Bool) (c : Nat) : ∀ a : List (List Nat), (∀ x ∈ a, x.countP p = 0) → (jl c a).countP p ≤ a.length
  | [], _ => Nat.le_refl _
  | [x], h => by show x.countP p ≤ 1; rw [h x List.mem_cons_self]; omega
  | x :: y :: a, h => by
    have ih := jl_free p c (y :: a) fun z m => h z (List.mem_cons_of_mem _ m)
    show (x ++ c :: jl c (y :: a)).countP p ≤ (y :: a).length + 1
    rw [List.countP_append, List.countP_cons, h x List.mem_cons_self]
    split <;> omega
theorem ctP_join (p : Nat → Bool) (l : List Str) : ctP p (Txt.join (" " : Str) l) = (jl 32 (l.map fun s => s.cps.toList)).countP p := by
  rw [blank_eq, show Txt.join ⟨#[32]⟩ l = Str.join ⟨#[32]⟩ l from StrLaws.glued_eq_join _ _]
  show (Str.join ⟨#[32]⟩ l).cps.toList.countP p = _
  rw [join_list]
theorem join_split_ (T : Str) : Txt.join (" " : Str) (Txt.split T (" " : Str)) = T := by
  rw [blank_eq, show ∀ l, Txt.join ⟨#[32]⟩ l = Str.join ⟨#[32]⟩ l from fun l => StrLaws.glued_eq_join _ _]
  exact StrLaws.join_split T _
theorem ctP_two (p : Nat → Bool) (T : Str) (i j : Nat) : ctP p (Txt.join (" " : Str) ((Txt.split T (" " : Str)).take i ++ (Txt.split T (" " : Str)).drop j)) ≤ 2 * ctP p T + 1 := by
  have e : ctP p T = (jl 32 ((Txt.split T (" " : Str)).map fun s => s.cps.toList)).countP p := by rw [← ctP_join, join_split_]
  rw [ctP_join, List.map_append, List.map_take, List.map_drop, e]
  have h1 := jl_app p 32 (((Txt.split T (" " : Str)).map fun s => s.cps.toList).take i) (((Txt.split T (" " : Str)).map fun s => s.cps.toList).drop j)
  have h2 := jl_take p 32 ((Txt.split T (" " : Str)).map fun s => s.cps.toList) i
  have h3 := jl_drop p 32 ((Txt.split T (" " : Str)).map fun s => s.cps.toList) j
  omega
/-- the blanks in a text -/
abbrev nb (s : Str) : Nat := ctP (fun z => z == 32) s
theorem split_parts (T : Str) : (Txt.split T (" " : Str)).length ≤ nb T + 1 := by
  have h := jl_parts 32 ((Txt.split T (" " : Str)).map fun s => s.cps.toList)
  rw [List.length_map, ← ctP_join, join_split_] at h
  exact h
theorem nb_kws (l : List Kw) : nb (Txt.join (" " : Str) (l.map Kw.s)) ≤ l.length := by
  have h := jl_free (fun z => z == 32) 32 ((l.map Kw.s).map fun s => s.cps.toList) fun x m => by
    obtain ⟨s, ms, rfl⟩ := List.mem_map.mp m
    obtain ⟨k, _, rfl⟩ := List.mem_map.mp ms
    refine List.countP_eq_zero.mpr fun z hz e => ?_
    have e : z = 32 := by simpa using e
    exact kw_blank k (e ▸ hz)
  rw [List.length_map, List.length_map, ← ctP_join] at h
  exact h
theorem ctP_le (p : Nat → Bool) (s : Str) : ctP p s ≤ s.length := by
  have := List.countP_le_length (p := p) (l := s.cps.toList)
  rw [Array.length_toList] at this
  exact this
theorem wIxStrs {Φ : AV → Prop} {g : Bool} {xs : List PyData} {l : List Str} {i : Int} (e : xs = l.map PyData.str) (i0 : 0 ≤ i) (i1 : i < (l.length : Nat)) (h : ∀ s ∈ l, Φ (.d (.str s))) : aIxL (.l g xs) (.d (.int i)) Φ := by
  subst e
  obtain ⟨n, rfl⟩ := Int.eq_ofNat_of_zero_le i0
  have hn : n < l.length := by omega
  have h2 : (l.map PyData.str)[n]? = some (.str l[n]) := by rw [List.getElem?_map, List.getElem?_eq_getElem hn]; rfl
  refine wIxL rfl (atI_nat h2) ?_
  rw [subl_im rfl]
  exact h _ (List.getElem_mem hn)
theorem wIxInts {Φ : AV → Prop} {g : Bool} {xs : List PyData} {l : List Int} {i : Int} (e : xs = l.map PyData.int) (i0 : 0 ≤ i) (i1 : i < (l.length : Nat)) (h : ∀ s ∈ l, Φ (.d (.int s))) : aIxL (.l g xs) (.d (.int i)) Φ := by
  subst e
  obtain ⟨n, rfl⟩ := Int.eq_ofNat_of_zero_le i0
  have hn : n < l.length := by omega
  have h2 : (l.map PyData.int)[n]? = some (.int l[n]) := by rw [List.getElem?_map, List.getElem?_eq_getElem hn]; rfl
  refine wIxL rfl (atI_nat h2) ?_
  rw [subl_im rfl]
  exact h _ (List.getElem_mem hn)
theorem wSlL {Φ : AV → Prop} {f : Bool} {xs : List PyData} {lo hi : Option Int} (h : Φ (.l true (cutP xs lo hi))) : aSlL (.l f xs) lo hi Φ := .inl ⟨f, xs, rfl, h⟩
theorem sum_take (f : Str → Nat) : ∀ (l : List Str) (k : Nat), ((l.take k).map f).sum ≤ (l.map f).sum
  | _, 0 => by rw [List.take_zero]; exact Nat.zero_le _
  | [], k + 1 => by rw [List.take_nil]; exact Nat.le_refl _
  | x :: l, k + 1 => by
    have := sum_take f l k
    rw [List.take_succ_cons, List.map_cons, List.map_cons, List.sum_cons, List.sum_cons]
    omega
theorem sum_drop (f : Str → Nat) : ∀ (l : List Str) (k : Nat), ((l.drop k).map f).sum ≤ (l.map f).sum
  | _, 0 => Nat.le_refl _
  | [], k + 1 => by rw [List.drop_nil]; exact Nat.le_refl _
  | x :: l, k + 1 => by
    have := sum_drop f l k
    rw [List.drop_succ_cons, List.map_cons, List.sum_cons]
    omega
theorem jl_sum (c : Nat) : ∀ a : List (List Nat), (a.map List.length).sum ≤ (jl c a).length
  | [] => Nat.le_refl _
  | [x] => by show x.length + 0 ≤ x.length; omega
  | x :: y :: a => by
    have ih := jl_sum c (y :: a)
    show x.length + ((y :: a).map List.length).sum ≤ (x ++ c :: jl c (y :: a)).length
    rw [List.length_append, List.length_cons]
    omega
theorem split_sum (T : Str) : ((Txt.split T (" " : Str)).map (·.length)).sum ≤ T.length := by
  have h := jl_sum 32 ((Txt.split T (" " : Str)).map fun s => s.cps.toList)
  have e : (jl 32 ((Txt.split T (" " : Str)).map fun s => s.cps.toList)).length = T.length := by
    rw [← ctP_all T]
    have := ctP_join (fun _ => true) (Txt.split T (" " : Str))
    rw [join_split_, List.countP_true] at this
    exact this.symm
  rw [e, List.map_map] at h
  refine Nat.le_trans (Nat.le_of_eq ?_) h
  refine congrArg List.sum (List.map_congr_left fun s _ => ?_)
  show s.cps.size = s.cps.toList.length
  rw [Array.length_toList]
/-- two stretches of a text's words put together fit -/
theorem two_fit {T : Str} (few : T.length ≤ 3000) (i j : Nat) : (((Txt.split T (" " : Str)).take i ++ (Txt.split T (" " : Str)).drop j).map (·.length)).sum + ((Txt.split T (" " : Str)).take i ++ (Txt.split T (" " : Str)).drop j).length * Str.length (" " : Str) ≤ 16777216 := by
  have h1 := sum_take (·.length) (Txt.split T (" " : Str)) i
  have h2 := sum_drop (·.length) (Txt.split T (" " : Str)) j
  have h3 := split_sum T
  have h4 := split_parts T
  have h5 : nb T ≤ T.length := ctP_le _ T
  rw [show Str.length (" " : Str) = 1 from by decide +kernel, List.map_append, List.sum_append, List.length_append, List.length_take, List.length_drop]
  omega
/-! ### what is asked of any words -/
theorem okS_true {a b : Int} (h : okS a b = true) : ∃ w h : Nat, a = w ∧ b = h ∧ Side w ∧ Side h := by
  have e : okS a b = (inV (.int a) [.int 1, .int 2, .int 4, .int 8] && inV (.int b) [.int 1, .int 2, .int 4, .int 8]) := rfl
  rw [e, Bool.and_eq_true] at h
  have one : ∀ z : Int, inV (.int z) [.int 1, .int 2, .int 4, .int 8] = true → ∃ n : Nat, z = n ∧ Side n := fun z hz => by
    have hz : ((1 : Int) == z || ((2 : Int) == z || ((4 : Int) == z || ((8 : Int) == z || false)))) = true := hz
    simp only [Bool.or_false, Bool.or_eq_true, beq_iff_eq] at hz
    rcases hz with rfl | rfl | rfl | rfl
    · exact ⟨1, rfl, .inl rfl⟩
    · exact ⟨2, rfl, .inr (.inl rfl)⟩
    · exact ⟨4, rfl, .inr (.inr (.inl rfl))⟩
    · exact ⟨8, rfl, .inr (.inr (.inr rfl))⟩
  obtain ⟨w, e1, s1⟩ := one a h.1
  obtain ⟨h', e2, s2⟩ := one b h.2
  exact ⟨w, h', e1, e2, s1, s2⟩
theorem look_few : ∀ (l : List Str) (st : List (Nat × Nat)) (want : Bool) (n m : Nat), look st want n l = .inr m → m ≤ st.length + want.toNat + l.length
  | [], st, want, n, m, h => by
    have e : st.length + want.toNat = m := by cases want <;> exact Sum.inr.inj (by rw [← h, look])
    show m ≤ st.length + want.toNat + 0
    omega
  | w :: l, st, true, n, m, h => by
    rw [look] at h
    by_cases co : isCoW w = true
    · rw [if_pos co] at h
      have := look_few l st false _ m h
      show m ≤ st.length + 1 + (l.length + 1)
      have e : (false : Bool).toNat = 0 := rfl
      omega
    · rw [if_neg co] at h; cases h
  | w :: l, [], false, n, m, h => by rw [look] at h; cases h
  | w :: l, (a, b) :: r, false, n, m, h => by
    rw [look] at h
    show m ≤ (r.length + 1) + 0 + (l.length + 1)
    by_cases co : isCoW w = true
    · rw [if_pos co] at h
      have := look_few l r false _ m h
      have e : (false : Bool).toNat = 0 := rfl
      omega
    · rw [if_neg co] at h
      cases ex : nwOf w with
      | none => rw [ex] at h; cases h
      | some x =>
        rw [ex] at h
        by_cases f : x.fits a b = true
        · cases x with
          | d d =>
            have h : (if (Nw.d d).fits a b = true then look ((d.pw a, d.ph b) :: (d.pw a, d.ph b) :: r) false (n + 1) l else .inl n) = .inr m := h
            rw [if_pos f] at h
            have := look_few l _ false _ m h
            have e : (false : Bool).toNat = 0 := rfl
            simp only [List.length_cons] at this
            omega
          | p x =>
            have h : (if (Nw.p x).fits a b = true then look ((a, b) :: r) true (n + 1) l else .inl n) = .inr m := h
            rw [if_pos f] at h
            have := look_few l _ true _ m h
            have e : (true : Bool).toNat = 1 := rfl
            simp only [List.length_cons] at this
            omega
        · have h : (if x.fits a b = true then _ else (Sum.inl n : Nat ⊕ Nat)) = .inr m := h
          rw [if_neg f] at h
          cases h
/-- what is told of words: refused for the size, refused for a word, or not -/
def Asks (a b : Int) (l : List Str) (Ψ : Exc → Prop) (G : Nat → Nat → Nat → Prop) : Prop := (okS a b = false → Ψ .size) ∧ ∀ w h : Nat, a = w → b = h → Side w → Side h → (∀ n, look [(w, h)] false 0 l = .inl n → Ψ (.saying n)) ∧ ∀ m, look [(w, h)] false 0 l = .inr m → G w h m
/-- the words of a text -/
def prt (T : Str) : List Str := if T.length = 0 then [] else Txt.split T (" " : Str)
theorem prt_len (T : Str) : (prt T).length ≤ nb T + 1 := by
  unfold prt
  split
  · exact Nat.zero_le _
  · exact split_parts T
theorem asks_ok {w h m : Nat} {l : List Str} {Ψ : Exc → Prop} {G : Nat → Nat → Nat → Prop} (sw : Side w) (sh : Side h) (lk : look [(w, h)] false 0 l = .inr m) (g : G w h m) : Asks w h l Ψ G :=
  ⟨fun z => absurd z (by rw [okS_side sw sh]; decide), fun w' h' e1 e2 _ _ => by
    cases Int.ofNat.inj e1
    cases Int.ofNat.inj e2
    refine ⟨fun n e => ?_, fun m' e => ?_⟩
    · rw [lk] at e; cases e
    · rw [lk] at e
      have := Sum.inr.inj e
      subst this
      exact g⟩
theorem prt_kws (l : List Kw) : prt (Txt.join (" " : Str) (l.map Kw.s)) = l.map Kw.s := by
  cases l with
  | nil => exact if_pos (by decide +kernel)
  | cons k l =>
    have := join_pos (k := k) (l := l)
    unfold prt
    rw [if_neg (by omega)]
    exact kws_split (by simp)
theorem kws_textlen {l : List Kw} (h : l.length ≤ 32) : (Txt.join (" " : Str) (l.map Kw.s)).length ≤ 320 := by
  have e := StrLaws.join_length_le (" " : Str) (l.map Kw.s)
  rw [← show Txt.join (" " : Str) (l.map Kw.s) = Str.join (" " : Str) (l.map Kw.s) from StrLaws.glued_eq_join _ _] at e
  have h1 := kws_sum l
  rw [List.length_map, show Str.length (" " : Str) = 1 from by decide +kernel] at e
  omega
theorem str_none {T : Str} (h : T.length = 0) : T = "" := by
  obtain ⟨⟨l⟩⟩ := T
  cases l with
  | nil => decide +kernel
  | cons a l => cases h
theorem few_str (T : Str) : fewD (.str T) := by simp [fewD]
theorem few_int (i : Int) : fewD (.int i) := by simp [fewD]
theorem dep_str (T : Str) : (PyData.str T).depth < 9 := by simp [PyData.depth]
theorem dep_int (i : Int) : (PyData.int i).depth < 9 := by simp [PyData.depth]
theorem dep_wsS (l : List Str) : (dWs l).depth < 9 := by
  have := depth_map (f := PyData.str) (n := 0) (fun x => by rw [PyData.depth]; exact Nat.le_refl _) l
  show (PyData.tuple (l.map PyData.str)).depth < 9
  rw [PyData.depth]
  omega

def topS (i : Nat) : Stmt := PySem.Challenge.pw_blazonry_k12_texts.main.body.getD i (.Pass ⟨0, 0, 0, 0⟩)
local macro_rules | `(tactic| walk_at "ty") => `(tactic| first
  | exact tyT (by walk_at "lk")
  | exact tyL (by walk_at "lk")
  | exact TyX.base (TyOf.str _)
  | exact TyX.base (TyOf.int _)
  | exact TyX.base (TyOf.bl _)
  | exact TyX.base TyOf.non)
local macro_rules | `(tactic| walk_at "lk") => `(tactic| first
  | assumption
  | exact SqT.of (by assumption)
  | exact SqL.of (by assumption)
  | exact KT.sq _ (by assumption)
  | (refine' Imm.sqT (imm_of_same (by assumption)) ?gk; (case gk => walk_at "lk"))
  | (refine' Imm.sqT (Chg.imm (by assumption)) ?gk; (case gk => walk_at "lk"))
  | (refine' L2.Same.seq (by assumption) ?gk; (case gk => walk_at "lk"))
  | (refine' same_at (by assumption) ?gk; (case gk => walk_at "lk"))
  | (refine' Row.same (by assumption) ?gk; (case gk => walk_at "lk")))
local macro_rules | `(tactic| walk_at "cond") => `(tactic| first
  | assumption
  | decide
  | (show (0 : Int) < _; first | assumption | decide | omega)
  | (refine (⟨?_, ?_⟩ : CDiv _ _) <;> first | assumption | decide | omega)
  | exact Or.inr ⟨by decide, by decide⟩
  | exact Or.inl ⟨by omega, by omega⟩
  | exact ⟨by decide, by decide, by decide⟩)
local macro_rules | `(tactic| walk_at "rd1") => `(tactic| first
  | ((with_reducible refine' rVar ?hv ?_); (case hv => exact rfl))
  | with_reducible refine rC ?_
  | with_reducible refine rOp ?_
  | with_reducible refine rCons ?_
  | with_reducible refine rNil ?_
  | with_reducible refine rSeq ?_
  | with_reducible refine rAsg ?_
  | with_reducible refine rName ?_
  | with_reducible refine rSub ?_
  | with_reducible refine rRet ?_
  | with_reducible refine rDrop ?_
  | with_reducible refine rIfS ?_
  | with_reducible refine rNext ?_
  | with_reducible refine rTest ?_
  | with_reducible refine rB ?_
  | with_reducible refine rBl ?_
  | with_reducible refine rCall ?_
  | with_reducible refine rCB ?_
  | with_reducible refine rTup ?_
  | with_reducible refine rLst ?_
  | with_reducible refine rUn ?_
  | with_reducible refine rI0_ ?_
  | ((with_reducible refine' rEq_ ?hs ?_); (case hs => rfl))
  | ((with_reducible refine' rNe_ ?hs ?_); (case hs => rfl))
  | ((with_reducible refine' rIxL_ ?hl ?he ?_); (case hl => walk_at "lk"); (case he => first | exact rfl | exact atI_zero))
  | ((with_reducible refine' rIxT_ ?hl ?he ?_); (case hl => walk_at "lk"); (case he => first | exact rfl | exact atI_zero))
  | ((with_reducible refine' rInT ?hl ?h1 ?h2 ?_); (case hl => walk_at "lk"); (case h1 => exact rfl); (case h2 => exact rfl))
  | ((with_reducible refine' rNotInT ?hl ?h1 ?h2 ?_); (case hl => walk_at "lk"); (case h1 => exact rfl); (case h2 => exact rfl))
  | ((with_reducible refine' rSetL2 ?hl ?he ?_); (case hl => assumption); (case he => exact rfl); intro _ _ _)
  | ((with_reducible refine' rLnT ?hl ?_); (case hl => walk_at "lk"))
  | ((with_reducible refine' rNewT ?hl ?_); (case hl => exact Nat.le_of_ble_eq_true rfl); intro _ _ _ _ _)
  | ((with_reducible refine' rNewL ?hl ?_); (case hl => exact Nat.le_of_ble_eq_true rfl); intro _ _ _ _ _)
  | with_reducible refine rBM ?_
  | with_reducible refine rTupD ?_
  | ((with_reducible refine' rNewD ?hl ?_); (case hl => exact Nat.le_of_ble_eq_true rfl); intro _ _ _ _ _)
  | ((with_reducible refine' rSlDd ?hl ?_); (case hl => assumption); intro _ _ _ _)
  | with_reducible refine rTr ?_
  | with_reducible refine rIsN_ ?_
  | with_reducible refine rNotN_ ?_
  | with_reducible refine rIsB_ ?_
  | with_reducible refine rNotB_ ?_
  | ((with_reducible refine' rIsi_ ?ht ?he ?_); (case ht => walk_at "ty"); (case he => rfl))
  | ((with_reducible refine' rIsiT_ ?hh ?ht ?he ?hf ?_); (case hh => walk_at "lk"); (case ht => walk_at "ty"); (case he => rfl); (case hf => rfl))
  | with_reducible refine rChain ?_
  | with_reducible refine riEnumT ?_
  | with_reducible refine riZip ?_
  | with_reducible refine riRev ?_
  | ((with_reducible refine' rIEnumT ?hl ?_); (case hl => walk_at "lk"))
  | with_reducible refine rBM0 ?_
  | ((with_reducible refine' rTyL ?hl ?_); (case hl => walk_at "lk"))
  | ((with_reducible refine' rIRng1 ?hl ?_); (case hl => first | assumption | omega | decide))
  | ((with_reducible refine' rMin4_ ?_); intro _ _ _ _ _ _)
  | with_reducible refine iteT ?_
  | with_reducible refine iteF ?_
  | with_reducible refine rIfE ?_
  | with_reducible refine rAnd ?_
  | with_reducible refine rOr ?_
  | with_reducible refine rNot ?_
  | with_reducible refine rAndV ?_
  | with_reducible refine rOrV ?_
  | with_reducible refine rNotV ?_
  | with_reducible refine rIntI ?_
  | with_reducible refine rIntB ?_
  | with_reducible refine rAbsI ?_
  | with_reducible refine rLc ?_
  | with_reducible refine rYes ?_
  | with_reducible refine rFor ?_
  | with_reducible refine riTup ?_
  | with_reducible refine riList ?_
  | with_reducible refine riRng1 ?_
  | with_reducible refine rSlice ?_
  | with_reducible refine rNoPart ?_
  | with_reducible refine rPart ?_
  | with_reducible refine rPairs0 ?_
  | with_reducible refine rPairsS ?_
  | ((with_reducible refine rDisp ?_); intro _ _ _ _ _)
  | ((with_reducible refine' rGTup ?hl ?he ?_); (case hl => walk_at "lk"); (case he => exact rfl))
  | with_reducible refine rDGet2 ?_
  | with_reducible refine rGCons ?_
  | with_reducible refine rGNil ?_
  | with_reducible refine rPart_ ?_
  | ((with_reducible refine' rITup ?hl ?_); (case hl => walk_at "lk"))
  | ((with_reducible refine' rIList ?hl ?_); (case hl => walk_at "lk"))
  | ((with_reducible refine' rSl ?hl ?_); (case hl => walk_at "lk"); intro _ _ _ _)
  | ((with_reducible refine' rTupL ?hl ?_); (case hl => walk_at "lk"); intro _ _ _ _ _)
  | ((with_reducible refine' rTupT ?hl ?_); (case hl => walk_at "lk"))
  | ((with_reducible refine' rI_ ?hc ?_); (case hc => walk_at "cond"))
  | ((with_reducible refine' rT ?hb ?_); (case hb => first | rfl | decide +kernel))
  | ((with_reducible refine' rF ?hb ?_); (case hb => first | rfl | decide +kernel)))
local macro_rules | `(tactic| walk_at "rd") => `(tactic| repeat (walk_at "rd1"))

local macro_rules | `(tactic| walk_at "aw1") => `(tactic| first
  | with_reducible refine wSeq ?_
  | with_reducible refine wFor0 ?_
  | with_reducible refine wAsg ?_
  | ((with_reducible refine' wMvD ?he ?ho ?_); (case he => exact rfl); (case ho => exact rfl))
  | with_reducible refine wPar ?_
  | with_reducible refine wPar2 ?_
  | with_reducible refine wParL ?_
  | ((with_reducible refine' wVar ?hv ?_); (case hv => exact rfl))
  | with_reducible refine wC ?_
  | with_reducible refine wOp ?_
  | with_reducible refine wCons ?_
  | with_reducible refine wNil ?_
  | ((with_reducible refine' wName ?he ?_); (case he => exact rfl))
  | with_reducible refine wNext ?_
  | with_reducible refine wCall ?_
  | with_reducible refine wUn ?_
  | with_reducible refine wSs2 ?_
  | with_reducible refine wKK ?_
  | with_reducible refine wTupRt ?_
  | with_reducible refine wSortSet ?_
  | with_reducible refine wMt ?_
  | with_reducible refine wStr ?_
  | with_reducible refine wA1 ?_
  | with_reducible refine wA2 ?_
  | with_reducible refine wA3 ?_
  | with_reducible refine wA4 ?_
  | with_reducible refine wA5 ?_
  | with_reducible refine wAM ?_
  | ((with_reducible refine' wDGet2 ?he ?_); (case he => exact rfl))
  | ((with_reducible refine' wDisp2 ?hn ?_); (case hn => decide))
  | with_reducible refine wR0 ?_
  | with_reducible refine wR1 ?_
  | with_reducible refine wR2 ?_
  | with_reducible refine wR3 ?_
  | with_reducible refine wRet ?_
  | with_reducible refine wRd ?_
  | with_reducible refine wRetN ?_
  | with_reducible refine wDrop ?_
  | with_reducible refine wIfS ?_
  | with_reducible refine wCB ?_
  | with_reducible refine wTup ?_
  | with_reducible refine wT0 ?_
  | with_reducible refine wT1 ?_
  | with_reducible refine wT2 ?_
  | with_reducible refine wT3 ?_
  | with_reducible refine wT4 ?_
  | with_reducible refine wT5 ?_
  | with_reducible refine wLst ?_
  | ((with_reducible refine' wLn ?hv ?hl ?he ?_); (case hv => rfl); (case hl => exact Nat.le_of_ble_eq_true rfl); (case he => exact rfl))
  | with_reducible refine wTest ?_
  | with_reducible refine wBl ?_
  | with_reducible refine wAnd ?_
  | with_reducible refine wOr ?_
  | with_reducible refine wNot ?_
  | with_reducible refine wAndV ?_
  | with_reducible refine wOrV ?_
  | with_reducible refine wNotV ?_
  | with_reducible refine wIf ?_
  | with_reducible refine wChain ?_
  | with_reducible refine wI ?_
  | ((with_reducible refine' wIc ?hc ?_); (case hc => walk_at "cond"))
  | with_reducible refine wEqS ?_
  | with_reducible refine wNeS ?_
  | with_reducible refine wEqI ?_
  | with_reducible refine wNeI ?_
  | with_reducible refine wEqB ?_
  | with_reducible refine wNeB ?_
  | ((with_reducible refine' wIsN ?hv ?_); (case hv => rfl))
  | ((with_reducible refine' wNotN ?hv ?_); (case hv => rfl))
  | with_reducible refine wIsB ?_
  | with_reducible refine wNotB ?_
  | ((with_reducible refine' wIn ?hs ?h1 ?h2 ?_); (case hs => exact rfl); (case h1 => rfl); (case h2 => rfl))
  | ((with_reducible refine' wNotIn ?hs ?h1 ?h2 ?_); (case hs => exact rfl); (case h1 => rfl); (case h2 => rfl))
  | ((with_reducible refine' wIxTd ?hs ?hg ?_); (case hs => exact rfl); (case hg => first | exact rfl | exact atI_zero | assumption))
  | ((with_reducible refine' wIxd ?hs ?hg ?_); (case hs => exact rfl); (case hg => first | exact rfl | exact atI_zero | assumption))
  | ((with_reducible refine' wIxT ?hs ?hg ?_); (case hs => exact rfl); (case hg => first | exact rfl | exact atI_zero | assumption))
  | ((with_reducible refine' wIxL ?hs ?hg ?_); (case hs => exact rfl); (case hg => first | exact rfl | exact atI_zero | assumption))
  | ((with_reducible refine' wIx ?hs ?hg ?_); (case hs => exact rfl); (case hg => first | exact rfl | exact atI_zero | assumption))
  | ((with_reducible refine' wCatE ?h1 ?h2 ?hl ?_); (case h1 => exact rfl); (case h2 => exact rfl); (case hl => first | exact Nat.le_of_ble_eq_true rfl | assumption | (simp; omega)))
  | with_reducible refine wSl ?_
  | with_reducible refine wNoPart ?_
  | with_reducible refine wPart ?_
  | with_reducible refine wPi ?_
  | ((with_reducible refine' wSlTE ?h1 ?_); (case h1 => exact rfl))
  | ((with_reducible refine' wLen ?hs ?_); (case hs => exact rfl))
  | with_reducible refine wIntI ?_
  | with_reducible refine wIntB ?_
  | with_reducible refine wAbs ?_
  | with_reducible refine wMin2 ?_
  | with_reducible refine wTr ?_
  | with_reducible refine wIsi ?_
  | ((with_reducible refine' wIsiD ?hv ?he ?_); (case hv => rfl); (case he => rfl))
  | with_reducible refine wKeepB ?_
  | ((with_reducible refine' wTruS ?hs ?_); (case hs => exact rfl))
  | with_reducible refine wOrT ?_
  | with_reducible refine wAndT ?_
  | with_reducible refine wNotT ?_
  | ((with_reducible refine' wGT2 ?he ?_); (case he => exact rfl))
  | ((with_reducible refine' wGT3 ?he ?_); (case he => exact rfl))
  | ((with_reducible refine' wGTup ?he ?hl ?_); (case he => exact rfl); (case hl => exact rfl))
  | with_reducible refine wGCons ?_
  | with_reducible refine wGNil ?_
  | with_reducible refine wYes ?_
  | with_reducible refine wNeg ?_
  | with_reducible refine wBreak ?_
  | with_reducible refine wCont ?_
  | ((with_reducible refine' wApp ?he ?_); (case he => exact rfl))
  | ((with_reducible refine' wExt ?he ?_); (case he => exact rfl))
  | with_reducible refine iteT ?_
  | with_reducible refine iteF ?_
  | with_reducible refine wITup ?_
  | with_reducible refine wIList ?_
  | with_reducible refine wLc ?_
  | with_reducible refine wLc2 ?_
  | with_reducible refine wRng1 ?_
  | with_reducible refine wEnumT ?_
  | with_reducible refine wEnumL ?_
  | with_reducible refine wZipM ?_
  | with_reducible refine wZip ?_
  | with_reducible refine wRevI ?_
  | ((with_reducible refine' rT ?hb ?_); (case hb => first | rfl | decide +kernel))
  | ((with_reducible refine' rF ?hb ?_); (case hb => first | rfl | decide +kernel)))
local macro_rules | `(tactic| walk_at "aw") => `(tactic| repeat (walk_at "aw1"))
local macro_rules | `(tactic| walk_at "awf") => `(tactic| repeat ((fail_if_success (with_reducible refine wFor0 ?_)); walk_at "aw1"))

section
variable {P : Program} {w : World} {K : PySem.W.Frag} {mg : Str → Option Value} {base : Heap}
/-! ### _law_taken -/
abbrev s__law_taken : Stmt := topS 22
theorem sc__law_taken : FnScope ["_law_row", "_law_many", "_law_found", "_law_cell"] ["_law_row", "_law_many"] (defScope s__law_taken) := ⟨rfl, rfl, rfl, by decide +kernel, rfl, by decide +kernel, by decide +kernel⟩
def spTaken (K : PySem.W.Frag) : Sp := fun vs H Q _ => ∃ (r : Addr) (n : Int), vs = [.ref r, .int n] ∧ Row K H r ∧ 0 < n ∧ n < 1073741824 ∧
  ∀ (k : Int) (H' : Hp), 0 ≤ k → k < n → Chg r H H' → Row K H' r → Q (.int k) H'
def aTaken : ASp := fun as Φ _ => ∃ n : Int, as = [.row, .d (.int n)] ∧ 0 < n ∧ n < 1073741824 ∧ ∀ k : Int, 0 ≤ k → k < n → Φ (.d (.int k))

theorem ok__law_taken {f : Addr} {fd : FuncData} {k : Nat} (F : Fun K "_law_taken" "_law_taken" s__law_taken f fd) (m_len : mg "len" = none) : FnOk P w K mg base CX0 (k + 1) f fd ["_law_row", "_law_many"] (spTaken K) := by
  refine F.ok sc__law_taken (fun vs H Q E h => ?_) (fun cdv A outer s H vs Q E hr h => ?_)
  · obtain ⟨r, n, rfl, _⟩ := h; rfl
  refine ⟨_, (pss_cons (ps_if (pt_cmpR op_gt (pe_ix (k_ixL K) (pv 0) pe_int (fun _ _ => rfl)) pe_int (nomark _))
    (pss_cons (ps_set (i := 2) sc__law_taken.nd rfl (.inl rfl) (pe_op op_mod (pe_ix (k_ixL K) (pv 0) pe_int (fun _ _ => rfl)) (pv 1)))
      (pss_cons (ps_asg (pe_op op_fdiv (pe_ix (k_ixL K) (pv 0) pe_int (fun _ _ => rfl)) (pv 1)) (pg_sub (pv 0) pe_int set_list))
      (pss_one (ps_ret (pv 2)))))
    pss_nil)
  (pss_cons (ps_asg (pe_op op_add (pe_ix (k_ixL K) (pv 0) pe_int (fun _ _ => rfl)) pe_int) (pg_sub (pv 0) pe_int set_list))
  (pss_cons (ps_if (pt_cmpR op_gt (pe_ix (k_ixL K) (pv 0) pe_int (fun _ _ => rfl)) (pe_callB (k_len K) (by rfl) m_len (by decide +kernel) (pa_cons (pe_ix (k_ixL K) (pv 0) pe_int (fun _ _ => rfl)) pa_nil)) (nomark _))
    (pss_cons (ps_asg (pe_op op_mod (pe_op op_add (pe_op op_mul (pe_ix (k_ixL K) (pv 0) pe_int (fun _ _ => rfl)) pe_int) pe_int) pe_int) (pg_sub (pv 0) pe_int set_list))
      (pss_one (ps_ret (pe_op op_mod (pe_op op_fdiv (pe_ix (k_ixL K) (pv 0) pe_int (fun _ _ => rfl)) pe_int) (pv 1)))))
    pss_nil)
  (pss_cons (ps_set (i := 3) sc__law_taken.nd rfl (.inl rfl) (pe_ix (k_ixL K) (pe_ix (k_ixL K) (pv 0) pe_int (fun _ _ => rfl)) (pe_op op_sub (pe_ix (k_ixL K) (pv 0) pe_int (fun _ _ => rfl)) pe_int) (fun _ _ => rfl)))
  (pss_cons (ps_asg (pe_op op_mod (pe_op op_add (pe_op op_add (pe_op op_mul (pe_ix (k_ixL K) (pv 0) pe_int (fun _ _ => rfl)) pe_int) (pv 3)) pe_int) pe_int) (pg_sub (pv 0) pe_int set_list))
  (pss_cons (ps_if (pt_cmpR op_ge (pv 3) (pe_op op_pow pe_int pe_int) (nomark _))
    (pss_one (ps_asg (pe_op op_fdiv (pv 3) (pv 1)) (pg_sub (pv 0) pe_int set_list)))
    pss_nil)
  (pss_one (ps_ret (pe_op op_mod (pv 3) (pv 1)))))))))), ?_⟩
  obtain ⟨r, n, rfl, hR, h0, h1, q⟩ := h
  obtain ⟨a, ns, i, m, g, eR, hS, i0, m0, m1, g0, hl⟩ := hR
  walk_at "rd"
  refine rIte (fun c => ?_) (fun c => ?_)
  · walk_at "rd"
    rename_i H2 c2 e2
    exact q _ _ (Int.emod_nonneg _ (by omega)) (Int.emod_lt_of_pos _ h0) c2 ⟨a, ns, i, m, g / n, e2, hS.chg c2, i0, m0, m1, Int.ediv_nonneg g0 (by omega), hl⟩
  · walk_at "rd"
    rename_i H2 c2 e2
    have hS2 := (hS.chg c2).seq
    refine rLnL hS2 ?_
    walk_at "rd"
    refine rIte (fun c => ?_) (fun c => ?_)
    · walk_at "rd"
      rename_i H3 c3 e3
      have c4 := c2.trans c3
      exact q _ _ (Int.emod_nonneg _ (by omega)) (Int.emod_lt_of_pos _ h0) c4 ⟨a, ns, i + 1, _, g, e3, hS.chg c4, by omega, Int.emod_nonneg _ (by decide), Int.emod_lt_of_pos _ (by decide), g0, hl⟩
    · rw [List.length_map] at c
      have gi : atI (ns.map V.int) (i + 1 - 1) = some (.int (ns.getD i.toNat 0)) := by
        have hlt : i.toNat < ns.length := by omega
        rw [show i + 1 - 1 = ((i.toNat : Nat) : Int) by omega]
        refine atI_nat ?_
        rw [List.getElem?_map, List.getElem?_eq_getElem hlt, List.getD_eq_getElem?_getD, List.getElem?_eq_getElem hlt]
        rfl
      generalize ns.getD i.toNat 0 = z at gi
      walk_at "rd"
      refine rIxL_ hS2 gi ?_
      walk_at "rd"
      rename_i H3 c3 e3
      have c4 := c2.trans c3
      refine rIte (fun d => ?_) (fun d => ?_)
      · walk_at "rd"
        rename_i H4 c5 e5
        have c6 := c4.trans c5
        have hz : 0 ≤ z := Int.le_trans (by decide) d
        exact q _ _ (Int.emod_nonneg _ (by omega)) (Int.emod_lt_of_pos _ h0) c6 ⟨a, ns, i + 1, _, z / n, e5, hS.chg c6, by omega, Int.emod_nonneg _ (by decide), Int.emod_lt_of_pos _ (by decide), Int.ediv_nonneg hz (by omega), hl⟩
      · walk_at "rd"
        exact q _ _ (Int.emod_nonneg _ (by omega)) (Int.emod_lt_of_pos _ h0) c4 ⟨a, ns, i + 1, _, g, e3, hS.chg c4, by omega, Int.emod_nonneg _ (by decide), Int.emod_lt_of_pos _ (by decide), g0, hl⟩

theorem br__law_taken : ∀ vs H Q E, spA K ec0 (aTaken) vs H Q E → (spTaken K) vs H Q E := by
  rintro vs H Q E ⟨ro, as, Φ, Ψ, pr, rw0, ⟨n, rfl, n0, n1, q⟩, hQ, _⟩
  obtain ⟨r, us, rfl, rfl, pr2⟩ := argR pr
  obtain ⟨v, rfl, d1⟩ := arg1 pr2
  have := dp_int d1
  subst this
  exact ⟨r, n, rfl, rw0 r rfl, n0, n1, fun k H' k0 k1 c R => hQ _ _ H' (q k k0 k1) (Eff.ofChg c) (rowOf R) retI⟩
/-! ### _law_size -/
abbrev s__law_size : Stmt := topS 24
theorem sc__law_size : FnScope ["_law_row", "_law_most", "_law_sides", "_law_side"] ["_law_row", "_law_most"] (defScope s__law_size) := ⟨rfl, rfl, rfl, by decide +kernel, rfl, by decide +kernel, by decide +kernel⟩
def spSize (K : PySem.W.Frag) : Sp := fun vs H Q _ => ∃ (r : Addr) (m : Int), vs = [.ref r, .int m] ∧ Row K H r ∧ 1 ≤ m ∧
  ∀ (w h : Nat) (p : Addr) (H' : Hp), Side w → Side h → (w : Int) ≤ m → (h : Int) ≤ m → Chg r H H' → Row K H' r → SqT K H' p [.int w, .int h] → Q (.ref p) H'
theorem side_of {m : Int} {v : V} (h : v ∈ (([4, 8, 4, 2, 8, 1] : List Int).filter (fun z => decide (z ≤ m))).map V.int) : ∃ w : Nat, v = .int w ∧ Side w ∧ (w : Int) ≤ m := by
  obtain ⟨z, hz, rfl⟩ := List.mem_map.mp h
  obtain ⟨h1, h2⟩ := List.mem_filter.mp hz
  have h3 : z ≤ m := of_decide_eq_true h2
  simp only [List.mem_cons, List.not_mem_nil, or_false] at h1
  unfold Side
  rcases h1 with h | h | h | h | h | h <;> subst h
  · exact ⟨4, rfl, by decide, h3⟩
  · exact ⟨8, rfl, by decide, h3⟩
  · exact ⟨4, rfl, by decide, h3⟩
  · exact ⟨2, rfl, by decide, h3⟩
  · exact ⟨8, rfl, by decide, h3⟩
  · exact ⟨1, rfl, by decide, h3⟩
def aSize : ASp := fun as Φ _ => ∃ m : Int, as = [.row, .d (.int m)] ∧ 1 ≤ m ∧ ∀ w h : Nat, Side w → Side h → (w : Int) ≤ m → (h : Int) ≤ m → Φ (.d (dSz w h))

theorem ok__law_size {f : Addr} {fd : FuncData} {k : Nat} (F : Fun K "_law_size" "_law_size" s__law_size f fd) (m_len : mg "len" = none) {a__law_taken : Addr} {fd__law_taken : FuncData} (G__law_taken : FnOk P w K mg base CX0 k a__law_taken fd__law_taken ["_law_row", "_law_many"] (spTaken K)) (m__law_taken : mg "_law_taken" = some (.ref a__law_taken)) (k__law_taken : PySem.W.keepIn K (.ref a__law_taken) = true) (b__law_taken : Binds K fd__law_taken ["_law_row", "_law_many"] []) : FnOk P w K mg base CX0 (k + 1) f fd ["_law_row", "_law_most"] (spSize K) := by
  refine F.ok sc__law_size (fun vs H Q E h => ?_) (fun cdv A outer s H vs Q E hr h => ?_)
  · obtain ⟨r, n, rfl, _⟩ := h; rfl
  refine ⟨_, (pss_cons (ps_setLc (i := 2) (own := [("_law_side", 3)]) rfl sc__law_size.nd rfl rfl (sw_true rfl rfl rfl (by decide +kernel)) (k_iterT K (pe_tup (pa_cons pe_int (pa_cons pe_int (pa_cons pe_int (pa_cons pe_int (pa_cons pe_int (pa_cons pe_int pa_nil)))))))) (blkOk_by (N := ["_law_row", "_law_most", "_law_sides", "_law_side"]) (sc := defScope s__law_size) (by decide +kernel)) (fun _ _ _ _ _ => (pg_name (i := 3) sc__law_size.nd rfl (.inl rfl))) (fun _ _ _ _ _ => (pts_one (pt_cmpR op_le (pv 3) (pv 1) (nomark _)))) (fun _ _ _ _ _ => (pv 3)))
  (pss_one (ps_ret (pe_tup (pa_cons (pe_ix (k_ixL K) (pv 2) (pe_call G__law_taken hr (by rfl) m__law_taken k__law_taken b__law_taken .nil pass0 (pa_cons (pv 0) (pa_cons (pe_callB (k_len K) (by rfl) m_len (by decide +kernel) (pa_cons (pv 2) pa_nil)) pa_nil))) (fun _ _ => rfl)) (pa_cons (pe_ix (k_ixL K) (pv 2) (pe_call G__law_taken hr (by rfl) m__law_taken k__law_taken b__law_taken .nil pass0 (pa_cons (pv 0) (pa_cons (pe_callB (k_len K) (by rfl) m_len (by decide +kernel) (pa_cons (pv 2) pa_nil)) pa_nil))) (fun _ _ => rfl)) pa_nil)))))), ?_⟩
  obtain ⟨r, m, rfl, hR, h0, q⟩ := h
  walk_at "rd"
  rename_i p H2 np s2 e2
  intro D nD
  refine lc_tup (xs := ([4, 8, 4, 2, 8, 1] : List Int).map V.int) (Made D fun i acc H' => Same H2 H' ∧ acc = ((([4, 8, 4, 2, 8, 1] : List Int).take i).filter (fun z => decide (z ≤ m))).map V.int) ?_ ?_ ?_ ?_
  · exact made0 ⟨same_new nD, rfl⟩
  · rintro i H' _ ⟨acc, _, _, sm, _⟩
    exact SqT.of (sm _ _ e2)
  · rintro i x H' hx ⟨acc, eD, la, sm, rfl⟩
    obtain ⟨z, hz, rfl⟩ : ∃ z, ([4, 8, 4, 2, 8, 1] : List Int)[i]? = some z ∧ x = .int z := by
      rw [List.getElem?_map] at hx
      cases hq : ([4, 8, 4, 2, 8, 1] : List Int)[i]? with
      | none => rw [hq] at hx; cases hx
      | some z => rw [hq] at hx; exact ⟨z, rfl, (Option.some.inj hx).symm⟩
    have hi : i < 6 := (List.getElem?_eq_some_iff.mp hz).1
    have ht : ([4, 8, 4, 2, 8, 1] : List Int).take (i + 1) = ([4, 8, 4, 2, 8, 1] : List Int).take i ++ [z] := by
      rw [List.take_add_one, hz]; rfl
    walk_at "rd"
    refine ⟨rfl, ?_⟩
    walk_at "rd"
    refine rIte (fun c => ?_) (fun c => ?_)
    · walk_at "rd"
      refine madeS eD la (by omega) ⟨same_upd sm nD, ?_⟩
      rw [ht, List.filter_append, List.map_append]
      simp only [List.filter_cons, List.filter_nil, decide_eq_true c, if_true, List.map_cons, List.map_nil]
    · refine ⟨_, eD, Nat.le_trans la (Nat.le_succ _), sm, ?_⟩
      rw [ht, List.filter_append]
      simp only [List.filter_cons, List.filter_nil, decide_eq_false c, if_false, List.append_nil, Bool.false_eq_true]
  · rintro H3 ⟨acc, eD, _, s3, rfl⟩
    have hm : ∀ v ∈ (([4, 8, 4, 2, 8, 1] : List Int).filter (fun z => decide (z ≤ m))).map V.int, ∃ w : Nat, v = .int w ∧ Side w ∧ (w : Int) ≤ m := fun v => side_of
    have h1 : 0 < ((([4, 8, 4, 2, 8, 1] : List Int).filter (fun z => decide (z ≤ m))).map V.int).length := by
      refine List.length_pos_of_mem (List.mem_map.mpr ⟨1, List.mem_filter.mpr ⟨by decide, decide_eq_true h0⟩, rfl⟩)
    have h2 : ((([4, 8, 4, 2, 8, 1] : List Int).filter (fun z => decide (z ≤ m))).map V.int).length ≤ 6 := by
      rw [List.length_map]; exact List.length_filter_le _ _
    have eD' : H3 D = some (.lst ((([4, 8, 4, 2, 8, 1] : List Int).filter (fun z => decide (z ≤ m))).map V.int)) := eD
    clear eD
    generalize ((([4, 8, 4, 2, 8, 1] : List Int).filter (fun z => decide (z ≤ m))).map V.int) = sides at *
    have R3 : Row K H3 r := (hR.same s2).same s3
    have nr : D ≠ r := (hR.same s2).ne nD
    walk_at "rd"
    refine rLnL (SqL.of eD') ?_
    walk_at "rd"
    refine ⟨r, sides.length, rfl, R3, by omega, by omega, fun k H4 k0 k1 c4 R4 => ?_⟩
    have eD4 := c4.2 _ _ nr eD'
    obtain ⟨v, hv, mv⟩ := atI_lt k0 k1
    obtain ⟨w1, rfl, sw, lw⟩ := hm v mv
    refine rIxL_ (SqL.of eD4) hv ?_
    walk_at "rd"
    refine rLnL (SqL.of eD4) ?_
    walk_at "rd"
    refine ⟨r, sides.length, rfl, R4, by omega, by omega, fun k' H5 k0' k1' c5 R5 => ?_⟩
    have eD5 := c5.2 _ _ nr eD4
    obtain ⟨v', hv', mv'⟩ := atI_lt k0' k1'
    obtain ⟨w2, rfl, sw', lw'⟩ := hm v' mv'
    refine rIxL_ (SqL.of eD5) hv' ?_
    walk_at "rd"
    rename_i p5 H6 n6 s6 e6
    exact q w1 w2 p5 H6 sw sw' lw lw' ((chg_of_same s2).trans ((chg_of_same s3).trans (c4.trans (c5.trans (chg_of_same s6))))) (R5.same s6) (SqT.of e6)

theorem br__law_size : ∀ vs H Q E, spA K ec0 (aSize) vs H Q E → (spSize K) vs H Q E := by
  rintro vs H Q E ⟨ro, as, Φ, Ψ, pr, rw0, ⟨n, rfl, n0, q⟩, hQ, _⟩
  obtain ⟨r, us, rfl, rfl, pr2⟩ := argR pr
  obtain ⟨v, rfl, d1⟩ := arg1 pr2
  have := dp_int d1
  subst this
  exact ⟨r, n, rfl, rw0 r rfl, n0, fun w h p H' sw sh lw lh c R hp => hQ _ _ H' (q w h sw sh lw lh) (Eff.ofChg c) (rowOf R) (retD (imm_sz w h) (sz_dp hp))⟩
/-! ### _law_cut -/
abbrev s__law_cut : Stmt := topS 29
theorem sc__law_cut : FnScope ["_law_row", "_law_words", "_law_many"] ["_law_row", "_law_words"] (defScope s__law_cut) := ⟨rfl, rfl, rfl, by decide +kernel, rfl, by decide +kernel, by decide +kernel⟩
def spCut (K : PySem.W.Frag) : Sp := fun vs H Q _ => ∃ (r p : Addr) (l : List Str), vs = [.ref r, .ref p] ∧ Row K H r ∧ SqT K H p (ws l) ∧ l.length ≤ 100000 ∧
  ∀ (m : Nat) (a : Addr) (H' : Hp), m ≤ l.length → (∀ i, m ≤ i → i < l.length → l[i]? = some Co.white.s) → Chg r H H' → Row K H' r → SqT K H' a (ws (l.take m)) → Q (.ref a) H'
def aCut : ASp := fun as Φ _ => ∃ l : List Str, as = [.row, .d (dWs l)] ∧ l.length ≤ 100000 ∧ ∀ m : Nat, m ≤ l.length → (∀ i, m ≤ i → i < l.length → l[i]? = some Co.white.s) → Φ (.d (dWs (l.take m)))

theorem ok__law_cut {f : Addr} {fd : FuncData} {k : Nat} (F : Fun K "_law_cut" "_law_cut" s__law_cut f fd) (m_len : mg "len" = none) {a__law_taken : Addr} {fd__law_taken : FuncData} (G__law_taken : FnOk P w K mg base CX0 k a__law_taken fd__law_taken ["_law_row", "_law_many"] (spTaken K)) (m__law_taken : mg "_law_taken" = some (.ref a__law_taken)) (k__law_taken : PySem.W.keepIn K (.ref a__law_taken) = true) (b__law_taken : Binds K fd__law_taken ["_law_row", "_law_many"] []) : FnOk P w K mg base CX0 (k + 1) f fd ["_law_row", "_law_words"] (spCut K) := by
  refine F.ok sc__law_cut (fun vs H Q E h => ?_) (fun cdv A outer s H vs Q E hr h => ?_)
  · obtain ⟨r, p, l, rfl, _⟩ := h; rfl
  refine ⟨_, (pss_cons (ps_set (i := 2) sc__law_cut.nd rfl (.inl rfl) (pe_callB (k_len K) (by rfl) m_len (by decide +kernel) (pa_cons (pv 1) pa_nil)))
  (pss_cons (ps_while PassesOwn.never (PW.pt (pw_and (pt_cmpR op_gt (pv 2) pe_int (nomark _)) (pw_and1 (pt_cmpR op_eq (pe_ix (k_ixT K) (pv 1) (pe_op op_sub (pv 2) pe_int) (fun _ _ => rfl)) pe_str (nomark _)))))
    (pss_one (ps_set (i := 2) sc__law_cut.nd rfl (.inl rfl) (pe_op op_sub (pv 2) pe_int))))
  (pss_one (ps_ret (pe_slice (k_slT K) (pv 1) po_none (po_some (pe_op op_add (pv 2) (pe_call G__law_taken hr (by rfl) m__law_taken k__law_taken b__law_taken .nil pass0 (pa_cons (pv 0) (pa_cons (pe_op op_add (pe_op op_sub (pe_callB (k_len K) (by rfl) m_len (by decide +kernel) (pa_cons (pv 1) pa_nil)) (pv 2)) pe_int) pa_nil)))))))))), ?_⟩
  obtain ⟨r, p, l, rfl, hR, hp, hl, q⟩ := h
  walk_at "rd"
  rw [ws_len]
  walk_at "rd"
  have tail : ∀ n, n ≤ l.length → (∀ i, n ≤ i → i < l.length → l[i]? = some Co.white.s) → spTaken K [.ref r, .int (((ws l).length : Int) - (n : Int) + 1)] H
      (fun y H2 => rI0 (fun i j => V.int (i + j)) (.int (n : Nat)) y H2 fun x H1 => ∃ i, x = .int i ∧ rSlA K (.ref p) none (some i) H1 Q) E0 := by
    intro n hn hw
    refine ⟨r, _, rfl, hR, by rw [ws_len]; omega, by rw [ws_len]; omega, fun k H2 k0 k1 c2 R2 => ?_⟩
    rw [ws_len] at k1
    refine rI0_ ⟨_, rfl, ?_⟩
    refine rSl (c2.1.sqT hp) fun a H3 s3 h3 => ?_
    obtain ⟨k, rfl⟩ := Int.eq_ofNat_of_zero_le k0
    rw [show ((n : Int) + ((k : Nat) : Int)) = ((n + k : Nat) : Int) from rfl, cut_to] at h3
    refine q (n + k) a H3 (by omega) (fun i h1 h2 => hw i (by omega) h2) (c2.trans (chg_of_same s3)) (R2.same s3) ?_
    rw [show ws (l.take (n + k)) = (ws l).take (n + k) from List.map_take]
    exact h3
  refine rWhile (fun n σ' H' => n ≤ l.length ∧ σ' = [some (.ref r), some (.ref p), some (.int (n : Nat))] ∧ H = H' ∧ ∀ i, n ≤ i → i < l.length → l[i]? = some Co.white.s) ⟨l.length, Nat.le_refl _, rfl, rfl, fun i h1 h2 => by omega⟩ ?_
  rintro n _ _ ⟨hn, rfl, rfl, hw⟩
  walk_at "rd"
  refine rIte (fun c => ?_) (fun c => ?_)
  · obtain ⟨n, rfl⟩ : ∃ n', n = n' + 1 := ⟨n - 1, by omega⟩
    have hlt : n < l.length := by omega
    have gi : atI (ws l) ((n + 1 : Nat) - 1 : Int) = some (.str l[n]) := by
      rw [show ((n + 1 : Nat) - 1 : Int) = ((n : Nat) : Int) by omega]
      refine atI_nat ?_
      unfold ws
      rw [List.getElem?_map, List.getElem?_eq_getElem hlt]; rfl
    walk_at "rd"
    refine rIxT_ hp gi ?_
    walk_at "rd"
    refine rIte (fun c1 => ?_) (fun c1 => ?_)
    · refine ⟨fun σ' H' => ∃ m', m' < n + 1 ∧ (m' ≤ l.length ∧ σ' = [some (.ref r), some (.ref p), some (.int (m' : Nat))] ∧ H = H' ∧ ∀ i, m' ≤ i → i < l.length → l[i]? = some Co.white.s), fun _ _ h => h, ?_⟩
      walk_at "rd"
      refine ⟨n, Nat.lt_succ_self _, by omega, ?_, rfl, fun i h1 h2 => ?_⟩
      · rw [show ((n + 1 : Nat) - 1 : Int) = ((n : Nat) : Int) by omega]
        rfl
      · by_cases e : i = n
        · subst e
          rw [List.getElem?_eq_getElem hlt]
          exact congrArg some (V.str.inj c1)
        · exact hw i (by omega) h2
    · walk_at "rd"
      exact tail (n + 1) hn hw
  · walk_at "rd"
    exact tail n hn hw

theorem br__law_cut : ∀ vs H Q E, spA K ec0 (aCut) vs H Q E → (spCut K) vs H Q E := by
  rintro vs H Q E ⟨ro, as, Φ, Ψ, pr, rw0, ⟨l, rfl, few, q⟩, hQ, _⟩
  obtain ⟨r, us, rfl, rfl, pr2⟩ := argR pr
  obtain ⟨v, rfl, d1⟩ := arg1 pr2
  obtain ⟨p, rfl, hp⟩ := dp_ws d1
  exact ⟨r, p, l, rfl, rw0 r rfl, hp, few, fun m a H' m0 m1 c R hp => hQ _ _ H' (q m m0 m1) (Eff.ofChg c) (rowOf R) (retD (imm_ws _) (ws_dp hp))⟩
/-! ### _law_fits -/
abbrev s__law_fits : Stmt := topS 26
theorem sc__law_fits : FnScope ["_law_size_here", "_law_word", "_law_least", "_law_width", "_law_height"] ["_law_size_here", "_law_word"] (defScope s__law_fits) := ⟨rfl, rfl, rfl, by decide +kernel, rfl, by decide +kernel, by decide +kernel⟩
def spFits (K : PySem.W.Frag) : Sp := fun vs H Q _ => ∃ (p : Addr) (x : Nw) (w h : Nat), vs = [.ref p, .str x.s] ∧ SqT K H p [.int w, .int h] ∧ Side w ∧ Side h ∧ ∀ (b : Bool) (H' : Hp), b = x.fits w h → Same H H' → Q (.bl b) H'
def aFits : ASp := fun as Φ _ => ∃ (x : Nw) (w h : Nat), as = [.d (dSz w h), .d (.str x.s)] ∧ Side w ∧ Side h ∧ Φ (.d (.bool (x.fits w h)))

theorem ok__law_fits {f : Addr} {fd : FuncData} {k : Nat} (F : Fun K "_law_fits" "_law_fits" s__law_fits f fd)  : FnOk P w K mg base CX0 (k + 1) f fd ["_law_size_here", "_law_word"] (spFits K) := by
  refine F.ok sc__law_fits (fun vs H Q E h => ?_) (fun cdv A outer s H vs Q E hr h => ?_)
  · obtain ⟨p, x, w, h, rfl, _⟩ := h; rfl
  refine ⟨_, (pss_cons (ps_set (i := 2) sc__law_fits.nd rfl (.inl rfl) (pe_disp (pps_cons pe_str (pe_tup (pa_cons pe_int (pa_cons pe_int pa_nil))) (pps_cons pe_str (pe_tup (pa_cons pe_int (pa_cons pe_int pa_nil))) (pps_cons pe_str (pe_tup (pa_cons pe_int (pa_cons pe_int pa_nil))) (pps_cons pe_str (pe_tup (pa_cons pe_int (pa_cons pe_int pa_nil))) (pps_cons pe_str (pe_tup (pa_cons pe_int (pa_cons pe_int pa_nil))) (pps_cons pe_str (pe_tup (pa_cons pe_int (pa_cons pe_int pa_nil))) pps_nil)))))) (by rfl) (by rfl) (by simp) (by decide)))
  (pss_cons (ps_asg (pe_dget2 (hu_of hr) (pv 2) (pv 1) (pe_tup (pa_cons pe_int (pa_cons pe_int pa_nil))) ⟨rfl, rfl, rfl, rfl⟩) (k_gtup K 2 rfl (pgs_cons (pg_name (i := 3) sc__law_fits.nd rfl (.inl rfl)) (pgs_cons (pg_name (i := 4) sc__law_fits.nd rfl (.inl rfl)) pgs_nil))))
  (pss_one (ps_ret (pe_and (pe_cmpR op_ge (pe_ix (k_ixT K) (pv 0) pe_int (fun _ _ => rfl)) (pv 3) (nomark _)) (pe_one (pe_cmpR op_ge (pe_ix (k_ixT K) (pv 0) pe_int (fun _ _ => rfl)) (pv 4) (nomark _)))))))), ?_⟩
  obtain ⟨p, x, w, h, rfl, hp, sw, sh, q⟩ := h
  walk_at "rd"
  rename_i pd H1 nd s1 ed p1 H2 n2 s2 e2 p2 H3 n3 s3 e3 p3 H4 n4 s4 e4 p4 H5 n5 s5 e5 p5 H6 n6 s6 e6 p6 H7 n7 s7 e7
  refine rDispEnd [(.inr "party", .ref p1), (.inr "cut", .ref p2), (.inr "quartered", .ref p3), (.inr "pillar", .ref p4), (.inr "band", .ref p5), (.inr "head", .ref p6)] (by walk_at "lk") rfl (Nat.le_of_ble_eq_true rfl) fun H8 c8 e8 => ?_
  have t1 : SqT K H8 p1 [.int 2, .int 1] := by walk_at "lk"
  have t2 : SqT K H8 p2 [.int 1, .int 2] := by walk_at "lk"
  have t3 : SqT K H8 p3 [.int 2, .int 2] := by walk_at "lk"
  have t4 : SqT K H8 p4 [.int 4, .int 1] := by walk_at "lk"
  have t5 : SqT K H8 p5 [.int 1, .int 4] := by walk_at "lk"
  have t6 : SqT K H8 p6 [.int 1, .int 4] := by walk_at "lk"
  have hp8 : SqT K H8 p [.int w, .int h] := by walk_at "lk"
  have sB : Same H H8 := same_chg (s1.trans (s2.trans (s3.trans (s4.trans (s5.trans (s6.trans s7)))))) c8 nd
  clear e2 e3 e4 e5 e6 e7 ed n2 n3 n4 n5 n6 n7 s1 s2 s3 s4 s5 s6 s7 c8
  walk_at "rd"
  refine ⟨pd, rfl, .inl ⟨_, .inl e8⟩, ?_⟩
  walk_at "rd"
  rename_i p9 H9 n9 s9 e9
  refine ⟨_, DGet.k (k := .inr x.s) (s9 _ _ e8), ?_⟩
  have hp9 : SqT K H9 p [.int w, .int h] := by walk_at "lk"
  have hw : 1 ≤ w ∧ 1 ≤ h := by
    unfold Side at sw sh
    omega
  have tk : ∃ (a : Addr) (u v : Nat), (valV (mergeK [] [((.inr "party" : Key), V.ref p1), (.inr "cut", .ref p2), (.inr "quartered", .ref p3), (.inr "pillar", .ref p4), (.inr "band", .ref p5), (.inr "head", .ref p6)]) (.inr x.s)).getD (.ref p9) = .ref a ∧
      SqT K H9 a [.int u, .int v] ∧ x.fits w h = (decide (u ≤ w) && decide (v ≤ h)) := by
    rcases x with d | d <;> cases d
    · exact ⟨p1, 2, 1, rfl, by walk_at "lk", by simp [Nw.fits, Du.fits, hw]⟩
    · exact ⟨p2, 1, 2, rfl, by walk_at "lk", by simp [Nw.fits, Du.fits, hw]⟩
    · exact ⟨p3, 2, 2, rfl, by walk_at "lk", by simp [Nw.fits, Du.fits, hw]⟩
    · exact ⟨p4, 4, 1, rfl, by walk_at "lk", by simp [Nw.fits, Pi.fits, hw]⟩
    · exact ⟨p5, 1, 4, rfl, by walk_at "lk", by simp [Nw.fits, Pi.fits, hw]⟩
    · exact ⟨p6, 1, 4, rfl, by walk_at "lk", by simp [Nw.fits, Pi.fits, hw]⟩
    · exact ⟨p9, 4, 4, rfl, by walk_at "lk", by simp [Nw.fits, Pi.fits, hw]⟩
  obtain ⟨a, u, v, ea, ha, ef⟩ := tk
  have sC : Same H H9 := sB.trans s9
  refine rGTupE ea ha rfl ?_
  walk_at "rd"
  refine rIte (fun c => ?_) (fun c => ?_)
  · walk_at "rd"
    refine q _ _ ?_ sC
    rw [ef]
    have c' : u ≤ w := by omega
    by_cases d : v ≤ h
    · rw [decide_eq_true c', decide_eq_true d, decide_eq_true (by omega)]; rfl
    · rw [decide_eq_true c', decide_eq_false d, decide_eq_false (by omega)]; rfl
  · refine q _ _ ?_ sC
    have c' : ¬ u ≤ w := by omega
    rw [ef, decide_eq_false c']; rfl

theorem br__law_fits : ∀ vs H Q E, spA K ec0 (aFits) vs H Q E → (spFits K) vs H Q E := by
  rintro vs H Q E ⟨ro, as, Φ, Ψ, pr, rw0, ⟨x, w, h, rfl, sw, sh, q⟩, hQ, _⟩
  obtain ⟨v, u, rfl, d1, d2⟩ := arg2 pr
  obtain ⟨ps, rfl, hps⟩ := dp_sz d1
  have := dp_str d2
  subst this
  exact ⟨ps, x, w, h, rfl, hps, sw, sh, fun b H' e s => hQ _ _ H' q (Eff.of s) (rowSame rw0 s) (by rw [e]; exact retB)⟩
/-! ### _law_colour -/
abbrev s__law_colour : Stmt := topS 25
theorem sc__law_colour : FnScope ["_law_row"] ["_law_row"] (defScope s__law_colour) := ⟨rfl, rfl, rfl, by decide +kernel, rfl, by decide +kernel, by decide +kernel⟩
def spColour (K : PySem.W.Frag) : Sp := fun vs H Q _ => ∃ (r : Addr), vs = [.ref r] ∧ Row K H r ∧ ∀ (c : Co) (H' : Hp), Chg r H H' → Row K H' r → Q (.str c.s) H'
theorem colour_of {v : V} (h : v ∈ ([.str "white", .str "red", .str "yellow", .str "white", .str "blue", .str "black", .str "green", .str "red"] : List V)) : ∃ c : Co, v = .str c.s := by
  simp only [List.mem_cons, List.not_mem_nil, or_false] at h
  rcases h with h | h | h | h | h | h | h | h <;> subst h
  · exact ⟨.white, rfl⟩
  · exact ⟨.red, rfl⟩
  · exact ⟨.yellow, rfl⟩
  · exact ⟨.white, rfl⟩
  · exact ⟨.blue, rfl⟩
  · exact ⟨.black, rfl⟩
  · exact ⟨.green, rfl⟩
  · exact ⟨.red, rfl⟩
def aColour : ASp := fun as Φ _ => as = [.row] ∧ ∀ c : Co, Φ (.d (.str c.s))

theorem ok__law_colour {f : Addr} {fd : FuncData} {k : Nat} (F : Fun K "_law_colour" "_law_colour" s__law_colour f fd) {a__law_taken : Addr} {fd__law_taken : FuncData} (G__law_taken : FnOk P w K mg base CX0 k a__law_taken fd__law_taken ["_law_row", "_law_many"] (spTaken K)) (m__law_taken : mg "_law_taken" = some (.ref a__law_taken)) (k__law_taken : PySem.W.keepIn K (.ref a__law_taken) = true) (b__law_taken : Binds K fd__law_taken ["_law_row", "_law_many"] []) : FnOk P w K mg base CX0 (k + 1) f fd ["_law_row"] (spColour K) := by
  refine F.ok sc__law_colour (fun vs H Q E h => ?_) (fun cdv A outer s H vs Q E hr h => ?_)
  · obtain ⟨r, rfl, _⟩ := h; rfl
  refine ⟨_, (pss_one (ps_ret (pe_ix (k_ixL K) (pe_lst (pa_cons pe_str (pa_cons pe_str (pa_cons pe_str (pa_cons pe_str (pa_cons pe_str (pa_cons pe_str (pa_cons pe_str (pa_cons pe_str pa_nil))))))))) (pe_call G__law_taken hr (by rfl) m__law_taken k__law_taken b__law_taken .nil pass0 (pa_cons (pv 0) (pa_cons pe_int pa_nil))) (fun _ _ => rfl)))), ?_⟩
  obtain ⟨r, rfl, hR, q⟩ := h
  walk_at "rd"
  rename_i p H2 np s2 e2
  refine ⟨r, 8, rfl, hR.same s2, by decide, by decide, fun k H3 k0 k1 c3 R3 => ?_⟩
  have n2 : p ≠ r := hR.ne np
  obtain ⟨v, hv, mv⟩ := atI_lt (xs := [.str "white", .str "red", .str "yellow", .str "white", .str "blue", .str "black", .str "green", .str "red"]) k0 k1
  obtain ⟨c, rfl⟩ := colour_of mv
  refine rIxL_ (SqL.of (c3.2 _ _ n2 e2)) hv ?_
  exact q c H3 ((chg_of_same s2).trans c3) R3

theorem br__law_colour : ∀ vs H Q E, spA K ec0 (aColour) vs H Q E → (spColour K) vs H Q E := by
  rintro vs H Q E ⟨ro, as, Φ, Ψ, pr, rw0, ⟨rfl, q⟩, hQ, _⟩
  obtain ⟨r, us, rfl, rfl, pr2⟩ := argR pr
  have := argN pr2
  subst this
  exact ⟨r, rfl, rw0 r rfl, fun c H' ch R => hQ _ _ H' (q c) (Eff.ofChg ch) (rowOf R) retS⟩
/-! ### _law_part -/
abbrev s__law_part : Stmt := topS 27
theorem sc__law_part : FnScope ["_law_size_here", "_law_word"] ["_law_size_here", "_law_word"] (defScope s__law_part) := ⟨rfl, rfl, rfl, by decide +kernel, rfl, by decide +kernel, by decide +kernel⟩
def spPart (K : PySem.W.Frag) : Sp := fun vs H Q _ => ∃ (p : Addr) (x : Du) (w h : Nat), vs = [.ref p, .str x.s] ∧ SqT K H p [.int w, .int h] ∧ ∀ (a : Addr) (H' : Hp), Same H H' → SqT K H' a [.int (x.pw w : Nat), .int (x.ph h : Nat)] → Q (.ref a) H'
def aPart_ : ASp := fun as Φ _ => ∃ (x : Du) (w h : Nat), as = [.d (dSz w h), .d (.str x.s)] ∧ Φ (.d (dSz (x.pw w) (x.ph h)))

theorem ok__law_part {f : Addr} {fd : FuncData} {k : Nat} (F : Fun K "_law_part" "_law_part" s__law_part f fd) (m_int : mg "int" = none) : FnOk P w K mg base CX0 (k + 1) f fd ["_law_size_here", "_law_word"] (spPart K) := by
  refine F.ok sc__law_part (fun vs H Q E h => ?_) (fun cdv A outer s H vs Q E hr h => ?_)
  · obtain ⟨p, x, w, h, rfl, _⟩ := h; rfl
  refine ⟨_, (pss_cons (ps_if (pt_cmpR (k_in K) (pv 1) (pe_tup (pa_cons pe_str (pa_cons pe_str pa_nil))) (by rfl))
    (pss_one (ps_ret (pe_ix (k_ixL K) (pe_lst (pa_cons (pe_tup (pa_cons (pe_ix (k_ixT K) (pv 0) pe_int (fun _ _ => rfl)) (pa_cons (pe_op op_fdiv (pe_ix (k_ixT K) (pv 0) pe_int (fun _ _ => rfl)) pe_int) pa_nil))) (pa_cons (pe_tup (pa_cons (pe_op op_fdiv (pe_ix (k_ixT K) (pv 0) pe_int (fun _ _ => rfl)) pe_int) (pa_cons (pe_ix (k_ixT K) (pv 0) pe_int (fun _ _ => rfl)) pa_nil))) pa_nil))) (pe_callTy z_int (by rfl) m_int (by decide +kernel) (pa_cons (pe_cmpR op_eq (pv 1) pe_str (nomark _)) pa_nil)) (fun _ _ => rfl))))
    pss_nil)
  (pss_one (ps_ret (pe_tup (pa_cons (pe_op op_fdiv (pe_ix (k_ixT K) (pv 0) pe_int (fun _ _ => rfl)) pe_int) (pa_cons (pe_op op_fdiv (pe_ix (k_ixT K) (pv 0) pe_int (fun _ _ => rfl)) pe_int) pa_nil)))))), ?_⟩
  obtain ⟨p, x, w, h, rfl, hp, q⟩ := h
  cases x
  · walk_at "rd"
    rename_i p1 H1 n1 s1 e1 p2 H2 n2 s2 e2 p3 H3 n3 s3 e3 p4 H4 n4 s4 e4
    exact q _ _ (s1.trans (s2.trans (s3.trans s4))) (SqT.of (s4 _ _ e3))
  · walk_at "rd"
    rename_i p1 H1 n1 s1 e1 p2 H2 n2 s2 e2 p3 H3 n3 s3 e3 p4 H4 n4 s4 e4
    exact q _ _ (s1.trans (s2.trans (s3.trans s4))) (SqT.of (s4 _ _ (s3 _ _ e2)))
  · walk_at "rd"
    rename_i p1 H1 n1 s1 e1 p2 H2 n2 s2 e2
    exact q _ _ (s1.trans s2) (SqT.of e2)

theorem br__law_part : ∀ vs H Q E, spA K ec0 (aPart_) vs H Q E → (spPart K) vs H Q E := by
  rintro vs H Q E ⟨ro, as, Φ, Ψ, pr, rw0, ⟨x, w, h, rfl, q⟩, hQ, _⟩
  obtain ⟨v, u, rfl, d1, d2⟩ := arg2 pr
  obtain ⟨ps, rfl, hps⟩ := dp_sz d1
  have := dp_str d2
  subst this
  exact ⟨ps, x, w, h, rfl, hps, fun a H' s hp => hQ _ _ H' q (Eff.of s) (rowSame rw0 s) (retD (imm_sz _ _) (sz_dp hp))⟩
/-! ### _law_saying -/
abbrev s__law_saying : Stmt := topS 28
theorem sc__law_saying : FnScope ["_law_row", "_law_size_here", "_law_deep", "_law_some", "_law_way", "_law_word", "_law_part_here"] ["_law_row", "_law_size_here", "_law_deep"] (defScope s__law_saying) := ⟨rfl, rfl, rfl, by decide +kernel, rfl, by decide +kernel, by decide +kernel⟩
theorem pow512 {d n l : Nat} (hd : d < n) (hn : n ≤ 8) (h : l < 2 ^ (d + 1)) : l < 256 := Nat.lt_of_lt_of_le h (Nat.pow_le_pow_right (by decide) (by omega : d + 1 ≤ 8))
def spSaying (K : PySem.W.Frag) (n : Nat) : Sp := fun vs H Q _ => ∃ (r p : Addr) (w h deep : Nat), vs = [.ref r, .ref p, .int deep] ∧ deep < n ∧ n ≤ 9 ∧ Row K H r ∧ SqT K H p [.int w, .int h] ∧ Side w ∧ Side h ∧
  ∀ (t : Tr) (a : Addr) (H' : Hp), t.ok w h → t.wds.length < 2 ^ (deep + 1) → Chg r H H' → Row K H' r → SqT K H' a (ws t.wds) → Q (.ref a) H'
def aSaying : ASp := fun as Φ _ => ∃ (w h deep : Nat), as = [.row, .d (dSz w h), .d (.int deep)] ∧ deep < 9 ∧ Side w ∧ Side h ∧ ∀ t : Tr, t.ok w h → t.wds.length < 2 ^ (deep + 1) → Φ (.d (dWs t.wds))

theorem ok__law_saying {f : Addr} {fd : FuncData} {k : Nat} {n : Nat} (F : Fun K "_law_saying" "_law_saying" s__law_saying f fd) (m_len : mg "len" = none) {a__law_fits : Addr} {fd__law_fits : FuncData} (G__law_fits : FnOk P w K mg base CX0 k a__law_fits fd__law_fits ["_law_size_here", "_law_word"] (spFits K)) (m__law_fits : mg "_law_fits" = some (.ref a__law_fits)) (k__law_fits : PySem.W.keepIn K (.ref a__law_fits) = true) (b__law_fits : Binds K fd__law_fits ["_law_size_here", "_law_word"] []) {a__law_taken : Addr} {fd__law_taken : FuncData} (G__law_taken : FnOk P w K mg base CX0 k a__law_taken fd__law_taken ["_law_row", "_law_many"] (spTaken K)) (m__law_taken : mg "_law_taken" = some (.ref a__law_taken)) (k__law_taken : PySem.W.keepIn K (.ref a__law_taken) = true) (b__law_taken : Binds K fd__law_taken ["_law_row", "_law_many"] []) {a__law_colour : Addr} {fd__law_colour : FuncData} (G__law_colour : FnOk P w K mg base CX0 k a__law_colour fd__law_colour ["_law_row"] (spColour K)) (m__law_colour : mg "_law_colour" = some (.ref a__law_colour)) (k__law_colour : PySem.W.keepIn K (.ref a__law_colour) = true) (b__law_colour : Binds K fd__law_colour ["_law_row"] []) {a__law_part : Addr} {fd__law_part : FuncData} (G__law_part : FnOk P w K mg base CX0 k a__law_part fd__law_part ["_law_size_here", "_law_word"] (spPart K)) (m__law_part : mg "_law_part" = some (.ref a__law_part)) (k__law_part : PySem.W.keepIn K (.ref a__law_part) = true) (b__law_part : Binds K fd__law_part ["_law_size_here", "_law_word"] []) (G__law_saying : FnOk P w K mg base CX0 k f fd ["_law_row", "_law_size_here", "_law_deep"] (spSaying K n)) (m__law_saying : mg "_law_saying" = some (.ref f)) (k__law_saying : PySem.W.keepIn K (.ref f) = true) (b__law_saying : Binds K fd ["_law_row", "_law_size_here", "_law_deep"] []) : FnOk P w K mg base CX0 (k + 1) f fd ["_law_row", "_law_size_here", "_law_deep"] (spSaying K (n + 1)) := by
  refine F.ok sc__law_saying (fun vs H Q E h => ?_) (fun cdv A outer s H vs Q E hr h => ?_)
  · obtain ⟨r, p, w, h, d, rfl, _⟩ := h; rfl
  refine ⟨_, (pss_cons (ps_setLc (i := 3) (own := [("_law_word", 5)]) rfl sc__law_saying.nd rfl rfl (sw_true rfl rfl rfl (by decide +kernel)) (k_iterT K (pe_tup (pa_cons pe_str (pa_cons pe_str (pa_cons pe_str (pa_cons pe_str (pa_cons pe_str (pa_cons pe_str (pa_cons pe_str pa_nil))))))))) (blkOk_by (N := ["_law_row", "_law_size_here", "_law_deep", "_law_some", "_law_way", "_law_word", "_law_part_here"]) (sc := defScope s__law_saying) (by decide +kernel)) (fun _ _ _ _ _ => (pg_name (i := 5) sc__law_saying.nd rfl (.inl rfl))) (fun _ _ _ _ _ => (pts_one (pt_val (pe_call G__law_fits hr (by rfl) m__law_fits k__law_fits b__law_fits .nil pass0 (pa_cons (pv 1) (pa_cons (pv 5) pa_nil)))))) (fun _ _ _ _ _ => (pv 5)))
  (pss_cons (ps_set (i := 4) sc__law_saying.nd rfl (.inl rfl) (pe_call G__law_taken hr (by rfl) m__law_taken k__law_taken b__law_taken .nil pass0 (pa_cons (pv 0) (pa_cons pe_int pa_nil))))
  (pss_cons (ps_if (PW.pt (pw_or (pt_cmpR op_eq (pv 2) pe_int (nomark _)) (pw_or (pt_cmpR (k_eqD K rfl hr.units) (pv 3) (pe_lst pa_nil) (nomark _)) (pw_or1 (pt_cmpR op_lt (pv 4) pe_int (nomark _))))))
    (pss_one (ps_ret (pe_tup (pa_cons (pe_call G__law_colour hr (by rfl) m__law_colour k__law_colour b__law_colour .nil pass0 (pa_cons (pv 0) pa_nil)) pa_nil))))
    pss_nil)
  (pss_cons (ps_set (i := 5) sc__law_saying.nd rfl (.inl rfl) (pe_ix (k_ixL K) (pv 3) (pe_call G__law_taken hr (by rfl) m__law_taken k__law_taken b__law_taken .nil pass0 (pa_cons (pv 0) (pa_cons (pe_callB (k_len K) (by rfl) m_len (by decide +kernel) (pa_cons (pv 3) pa_nil)) pa_nil))) (fun _ _ => rfl)))
  (pss_cons (ps_if (pt_cmpR (k_in K) (pv 5) (pe_tup (pa_cons pe_str (pa_cons pe_str (pa_cons pe_str pa_nil)))) (by rfl))
    (pss_cons (ps_set (i := 6) sc__law_saying.nd rfl (.inl rfl) (pe_call G__law_part hr (by rfl) m__law_part k__law_part b__law_part .nil pass0 (pa_cons (pv 1) (pa_cons (pv 5) pa_nil))))
      (pss_one (ps_ret (pe_op (k_cat K) (pe_op (k_cat K) (pe_tup (pa_cons (pv 5) pa_nil)) (pe_call G__law_saying hr (by rfl) m__law_saying k__law_saying b__law_saying .nil pass0 (pa_cons (pv 0) (pa_cons (pv 6) (pa_cons (pe_op op_sub (pv 2) pe_int) pa_nil))))) (pe_call G__law_saying hr (by rfl) m__law_saying k__law_saying b__law_saying .nil pass0 (pa_cons (pv 0) (pa_cons (pv 6) (pa_cons (pe_op op_sub (pv 2) pe_int) pa_nil))))))))
    pss_nil)
  (pss_one (ps_ret (pe_op (k_cat K) (pe_tup (pa_cons (pv 5) (pa_cons (pe_call G__law_colour hr (by rfl) m__law_colour k__law_colour b__law_colour .nil pass0 (pa_cons (pv 0) pa_nil)) pa_nil))) (pe_call G__law_saying hr (by rfl) m__law_saying k__law_saying b__law_saying .nil pass0 (pa_cons (pv 0) (pa_cons (pv 1) (pa_cons (pe_op op_sub (pv 2) pe_int) pa_nil)))))))))))), ?_⟩
  obtain ⟨r, p, w, h, d, rfl, hd, hn, hR, hp, sw, sh, q⟩ := h
  walk_at "rd"
  rename_i p2 H2 n2 s2 e2
  intro D nD
  refine lc_tup (xs := nws.map fun x => V.str x.s) (Made D fun i acc H' => Same H2 H' ∧ acc = (((nws.take i).filter fun x => x.fits w h).map fun x => V.str x.s)) ?_ ?_ ?_ ?_
  · exact made0 ⟨same_new nD, rfl⟩
  · rintro i H' _ ⟨acc, _, _, sm, _⟩
    exact SqT.of (sm _ _ e2)
  · rintro i v H' hx ⟨acc, eD, la, sm, rfl⟩
    obtain ⟨x, hz, rfl⟩ := get_map hx
    have hi : i < 7 := (List.getElem?_eq_some_iff.mp hz).1
    walk_at "rd"
    refine ⟨rfl, ?_⟩
    walk_at "rd"
    refine ⟨p, x, w, h, rfl, (imm_of_same (s2.trans sm)).sqT hp, sw, sh, fun b H5 eb s5 => ?_⟩
    subst eb
    walk_at "rd"
    have sm5 := sm.trans s5
    cases hb : x.fits w h with
    | true =>
      walk_at "rd"
      refine madeS (s5 _ _ eD) la (by omega) ⟨same_upd sm5 nD, ?_⟩
      rw [take_next hz, List.filter_append, List.map_append]
      simp only [List.filter_cons, List.filter_nil, hb, if_true, List.map_cons, List.map_nil]
    | false =>
      refine ⟨_, s5 _ _ eD, Nat.le_trans la (Nat.le_succ _), sm5, ?_⟩
      rw [take_next hz, List.filter_append]
      simp only [List.filter_cons, List.filter_nil, hb, if_false, List.append_nil, Bool.false_eq_true]
  · rintro H3 ⟨acc, eD, _, s3, rfl⟩
    rw [List.take_of_length_le (by rw [List.length_map]; exact Nat.le_refl _)] at eD
    have hm : ∀ x ∈ nws.filter (fun x => x.fits w h), x.fits w h = true := fun x hx => (List.mem_filter.mp hx).2
    have hl7 : (nws.filter (fun x => x.fits w h)).length ≤ 7 := List.length_filter_le _ nws
    generalize nws.filter (fun x => x.fits w h) = some' at *
    have R3 : Row K H3 r := (hR.same s2).same s3
    have hp3 : SqT K H3 p [.int w, .int h] := (imm_of_same (s2.trans s3)).sqT hp
    have nr : D ≠ r := (hR.same s2).ne nD
    walk_at "rd"
    refine ⟨r, 9, rfl, R3, by decide, by decide, fun k4 H4 k40 k41 c4 R4 => ?_⟩
    have eD4 := c4.2 _ _ nr eD
    have c04 : Chg r H H4 := (chg_of_same (s2.trans s3)).trans c4
    have hp4 := c4.1.sqT hp3
    clear eD R3 hp3 s2 s3 e2 n2
    -- a colour alone
    have one : ∀ H5, Chg r H H5 → Row K H5 r → spColour K [V.ref r] H5 (fun x H6 => NewT Q [x] H6) E0 := fun H5 c5 R5 => by
      refine ⟨r, rfl, R5, fun c H6 c6 R6 => rNewT (Nat.le_of_ble_eq_true rfl) fun a H7 n7 s7 e7 => ?_⟩
      exact q (.col c) a H7 trivial (by show 1 < 2 ^ (d + 1); rw [Nat.pow_succ]; have : 1 ≤ 2 ^ d := Nat.one_le_two_pow; omega) (c5.trans (c6.trans (chg_of_same s7))) (R6.same s7) (SqT.of e7)
    walk_at "rd"
    refine rIte (fun c0 => ?_) (fun c0 => ?_)
    · walk_at "rd"
      exact one _ c04 R4
    · walk_at "rd"
      rename_i pe H5 n5 s5 e5
      have eD5 := s5 _ _ eD4
      refine rEqKws (a := some'.map Nw.k) (b := []) (by rw [← nw_kws]; exact SqL.of eD5) (SqL.of e5) ?_
      have R5 := R4.same s5
      have c05 := c04.trans (chg_of_same s5)
      have hp5 := (imm_of_same s5).sqT hp4
      walk_at "rd"
      refine rIte (fun c1 => ?_) (fun c1 => ?_)
      · walk_at "rd"
        exact one _ c05 R5
      · walk_at "rd"
        refine rIte (fun c2 => ?_) (fun c2 => ?_)
        · walk_at "rd"
          exact one _ c05 R5
        · have l1 : 0 < some'.length := by
            cases some' with
            | nil => exact absurd rfl c1
            | cons a b => exact Nat.succ_pos _
          have d1 : d ≠ 0 := fun e => c0 (by rw [e]; rfl)
          clear c0 c1 c2 one
          walk_at "rd"
          refine rLnL (SqL.of eD5) ?_
          rw [List.length_map]
          walk_at "rd"
          refine ⟨r, some'.length, rfl, R5, by omega, by omega, fun k6 H6 k60 k61 c6 R6 => ?_⟩
          have eD6 := c6.2 _ _ nr eD5
          have c06 := c05.trans c6
          have hp6 := c6.1.sqT hp5
          obtain ⟨v, hv, mv⟩ := atI_lt (xs := some'.map fun x => V.str x.s) k60 (by rw [List.length_map]; exact k61)
          obtain ⟨x, mx, rfl⟩ := List.mem_map.mp mv
          have hf := hm x mx
          refine rIxL_ (SqL.of eD6) hv ?_
          clear eD6 eD5 eD4 hm mx mv hv c6 c4 c05 c04 R5 R4 hp5 hp4 e5 n5 s5
          obtain ⟨d, rfl⟩ : ∃ d', d = d' + 1 := ⟨d - 1, by omega⟩
          rcases x with x | x
          · walk_at "rd"
            refine rT (inV_du x) ?_
            walk_at "rd"
            rename_i p7 H7 n7 s7 e7
            refine ⟨p, x, w, h, rfl, (imm_of_same s7).sqT hp6, fun a8 H8 s8 h8 => ?_⟩
            walk_at "rd"
            rename_i p9 H9 n9 s9 e9
            have sides := side_part hf sw sh
            have h9 := (imm_of_same s9).sqT h8
            have s69 := s7.trans (s8.trans s9)
            have R9 := R6.same s69
            refine ⟨r, a8, x.pw w, x.ph h, d, by rw [show ((d + 1 : Nat) : Int) - 1 = (d : Int) by omega]; rfl, by omega, by omega, R9, h9, sides.1, sides.2, fun t1 b1 H10 ok1 l1 c10 R10 w1 => ?_⟩
            have lt1 := pow512 (n := n) (by omega) (by omega) l1
            have w9 := c10.1.sqT (SqT.of (K := K) e9)
            refine rCat w9 w1 (le_line (by rw [ws_len]; show 1 + _ ≤ _; omega)) fun b2 H11 s11 w11 => ?_
            walk_at "rd"
            have h11 := (imm_of_same s11).sqT (c10.1.sqT h9)
            refine ⟨r, a8, x.pw w, x.ph h, d, by rw [show ((d + 1 : Nat) : Int) - 1 = (d : Int) by omega]; rfl, by omega, by omega, R10.same s11, h11, sides.1, sides.2, fun t2 b3 H12 ok2 l2 c12 R12 w2 => ?_⟩
            have lt2 := pow512 (n := n) (by omega) (by omega) l2
            have w12 := c12.1.sqT w11
            refine rCat w12 w2 (le_line (by rw [List.length_append, ws_len, ws_len]; show 1 + _ + _ ≤ _; omega)) fun b4 H13 s13 w13 => ?_
            refine q (.two x t1 t2) b4 H13 ⟨hf, ok1, ok2⟩ ?_ (c06.trans ((chg_of_same s69).trans (c10.trans ((chg_of_same s11).trans (c12.trans (chg_of_same s13)))))) (R12.same s13) ?_
            · show (x.s :: (t1.wds ++ t2.wds)).length < _
              rw [List.length_cons, List.length_append, Nat.pow_succ]
              omega
            · show SqT K H13 b4 (ws (x.s :: (t1.wds ++ t2.wds)))
              rw [show ws (x.s :: (t1.wds ++ t2.wds)) = [V.str x.s] ++ ws t1.wds ++ ws t2.wds by rw [show x.s :: (t1.wds ++ t2.wds) = [x.s] ++ t1.wds ++ t2.wds from rfl, ws_app, ws_app]; rfl]
              exact w13
          · walk_at "rd"
            refine rF (inV_pi x) ?_
            walk_at "rd"
            rename_i p7 H7 n7 s7 e7
            refine ⟨r, rfl, R6.same s7, fun c H8 c8 R8 => ?_⟩
            walk_at "rd"
            rename_i p9 H9 n9 s9 e9
            have c69 := (chg_of_same s7).trans (c8.trans (chg_of_same s9))
            have R9 := R8.same s9
            refine ⟨r, p, w, h, d, by rw [show ((d + 1 : Nat) : Int) - 1 = (d : Int) by omega]; rfl, by omega, by omega, R9, c69.1.sqT hp6, sw, sh, fun t1 b1 H10 ok1 l1 c10 R10 w1 => ?_⟩
            have lt1 := pow512 (n := n) (by omega) (by omega) l1
            have w9 := c10.1.sqT (SqT.of (K := K) e9)
            refine rCat w9 w1 (le_line (by rw [ws_len]; show 2 + _ ≤ _; omega)) fun b2 H11 s11 w11 => ?_
            refine q (.pc x c t1) b2 H11 ⟨hf, ok1⟩ ?_ (c06.trans (c69.trans (c10.trans (chg_of_same s11)))) (R10.same s11) w11
            show (x.s :: c.s :: t1.wds).length < _
            rw [List.length_cons, List.length_cons, Nat.pow_succ]
            have : 1 ≤ 2 ^ d := Nat.one_le_two_pow
            omega

theorem br__law_saying : ∀ vs H Q E, spA K ec0 (aSaying) vs H Q E → (spSaying K 9) vs H Q E := by
  rintro vs H Q E ⟨ro, as, Φ, Ψ, pr, rw0, ⟨w, h, deep, rfl, dp, sw, sh, q⟩, hQ, _⟩
  obtain ⟨r, us, rfl, rfl, pr2⟩ := argR pr
  obtain ⟨v, u, rfl, d1, d2⟩ := arg2 pr2
  obtain ⟨ps, rfl, hps⟩ := dp_sz d1
  have := dp_int d2
  subst this
  exact ⟨r, ps, w, h, deep, rfl, dp, by decide, rw0 r rfl, hps, sw, sh, fun t a H' ok lt c R hp => hQ _ _ H' (q t ok lt) (Eff.ofChg c) (rowOf R) (retD (imm_ws _) (ws_dp hp))⟩
/-! ### _law_alike -/
abbrev s__law_alike : Stmt := topS 23
theorem sc__law_alike : FnScope ["_law_found", "_law_due", "_law_k"] ["_law_found", "_law_due"] (defScope s__law_alike) := ⟨rfl, rfl, rfl, by decide +kernel, rfl, by decide +kernel, by decide +kernel⟩
/-- what stands in both is the same -/
def spLawAlike (K : PySem.W.Frag) (n : Nat) : Sp := fun vs H Q _ => ∃ (x y : V) (d : PyData), vs = [x, y] ∧ Dp K H x d ∧ Dp K H y d ∧ fewD d ∧ d.depth < n ∧ n ≤ 9 ∧ ∀ H', Same H H' → Q (.bl true) H'
def aLawAlike : ASp := fun as Φ _ => ∃ (x y : AV) (d : PyData), as = [x, y] ∧ x.dat = d ∧ y.dat = d ∧ x.isS = true ∧ y.isS = true ∧ fewD d ∧ d.depth < 9 ∧ Φ (.d (.bool true))
theorem argOk_dp {K : PySem.W.Frag} {ro : Option Addr} {H : Hp} {v : V} {x : AV} (a : argOk K ro H v x) (s : x.isS = true) : Dp K H v x.dat := by
  cases x with
  | d z => exact a.2
  | p z => exact a.2
  | _ => cases s

theorem ok__law_alike {f : Addr} {fd : FuncData} {k : Nat} {n : Nat} (F : Fun K "_law_alike" "_law_alike" s__law_alike f fd) (m_isinstance : mg "isinstance" = none) (m_list : mg "list" = none) (m_tuple : mg "tuple" = none) (m_len : mg "len" = none) (m_range : mg "range" = none) (m_bool : mg "bool" = none) (m_str : mg "str" = none) (m_int : mg "int" = none) (G__law_alike : FnOk P w K mg base CX0 k f fd ["_law_found", "_law_due"] (spLawAlike K n)) (m__law_alike : mg "_law_alike" = some (.ref f)) (k__law_alike : PySem.W.keepIn K (.ref f) = true) (b__law_alike : Binds K fd ["_law_found", "_law_due"] []) : FnOk P w K mg base CX0 (k + 1) f fd ["_law_found", "_law_due"] (spLawAlike K (n + 1)) := by
  refine F.ok sc__law_alike (fun vs H Q E h => ?_) (fun cdv A outer s H vs Q E hr h => ?_)
  · obtain ⟨x, y, d, rfl, _⟩ := h; rfl
  refine ⟨_, (pss_cons (ps_if (PW.pt (pw_or (pt_val (pe_callB (k_isi K) (by rfl) m_isinstance (by decide +kernel) (pa_cons (pv 1) (pa_cons (pe_bltn (v := .ty "tuple") (by rfl) m_tuple (by decide +kernel) rfl) pa_nil)))) (pw_or1 (pt_val (pe_callB (k_isi K) (by rfl) m_isinstance (by decide +kernel) (pa_cons (pv 1) (pa_cons (pe_bltn (v := .ty "list") (by rfl) m_list (by decide +kernel) rfl) pa_nil)))))))
    (pss_cons (ps_if (PW.pt (pw_or (pt_cmpR op_ne (pe_callB (k_isi K) (by rfl) m_isinstance (by decide +kernel) (pa_cons (pv 0) (pa_cons (pe_bltn (v := .ty "tuple") (by rfl) m_tuple (by decide +kernel) rfl) pa_nil))) (pe_callB (k_isi K) (by rfl) m_isinstance (by decide +kernel) (pa_cons (pv 1) (pa_cons (pe_bltn (v := .ty "tuple") (by rfl) m_tuple (by decide +kernel) rfl) pa_nil))) (nomark _)) (pw_or1 (pt_not (pt_val (pe_callB (k_isiT K) (by rfl) m_isinstance (by decide +kernel) (pa_cons (pv 0) (pa_cons (pe_tup (pa_cons (pe_bltn (v := .ty "tuple") (by rfl) m_tuple (by decide +kernel) rfl) (pa_cons (pe_bltn (v := .ty "list") (by rfl) m_list (by decide +kernel) rfl) pa_nil))) pa_nil))))))))
        (pss_one (ps_ret pe_bl))
        pss_nil)
      (pss_cons (ps_if (pt_cmpR op_ne (pe_callB (k_len K) (by rfl) m_len (by decide +kernel) (pa_cons (pv 0) pa_nil)) (pe_callB (k_len K) (by rfl) m_len (by decide +kernel) (pa_cons (pv 1) pa_nil)) (nomark _))
        (pss_one (ps_ret pe_bl))
        pss_nil)
      (pss_one (ps_ret (pe_cmpR (k_eqD K rfl hr.units) (pe_lc (own := [("_law_k", 2)]) rfl sc__law_alike.nd (pi_range1 rfl m_range (pa_cons (pe_callB (k_len K) (by rfl) m_len (by decide +kernel) (pa_cons (pv 1) pa_nil)) pa_nil)) (blkOk_by (N := ["_law_found", "_law_due", "_law_k"]) (sc := defScope s__law_alike) (by decide +kernel)) (fun _ _ _ _ _ => (pg_name (i := 2) sc__law_alike.nd rfl (.inl rfl))) (fun _ _ _ _ _ => (pts_one (pt_not (pt_val (pe_call G__law_alike hr (by rfl) m__law_alike k__law_alike b__law_alike .nil pass0 (pa_cons (pe_ix (k_ixA K) (pv 0) (pv 2) (fun _ _ => rfl)) (pa_cons (pe_ix (k_ixA K) (pv 1) (pv 2) (fun _ _ => rfl)) pa_nil))))))) (fun _ _ _ _ _ => (pv 2))) (pe_lst pa_nil) (nomark _))))))
    pss_nil)
  (pss_cons (ps_if (PW.pt (pw_or (pt_cmpR z_isN (pv 1) pe_non (nomark _)) (pw_or1 (pt_cmpR z_isN (pv 0) pe_non (nomark _)))))
    (pss_one (ps_ret (pe_and (pe_cmpR z_isN (pv 1) pe_non (nomark _)) (pe_one (pe_cmpR z_isN (pv 0) pe_non (nomark _))))))
    pss_nil)
  (pss_cons (ps_if (PW.pt (pw_or (pt_val (pe_callB (k_isi K) (by rfl) m_isinstance (by decide +kernel) (pa_cons (pv 1) (pa_cons (pe_bltn (v := .ty "bool") (by rfl) m_bool (by decide +kernel) rfl) pa_nil)))) (pw_or1 (pt_val (pe_callB (k_isi K) (by rfl) m_isinstance (by decide +kernel) (pa_cons (pv 0) (pa_cons (pe_bltn (v := .ty "bool") (by rfl) m_bool (by decide +kernel) rfl) pa_nil)))))))
    (pss_one (ps_ret (pe_and (pe_callB (k_isi K) (by rfl) m_isinstance (by decide +kernel) (pa_cons (pv 1) (pa_cons (pe_bltn (v := .ty "bool") (by rfl) m_bool (by decide +kernel) rfl) pa_nil))) (pe_and (pe_callB (k_isi K) (by rfl) m_isinstance (by decide +kernel) (pa_cons (pv 0) (pa_cons (pe_bltn (v := .ty "bool") (by rfl) m_bool (by decide +kernel) rfl) pa_nil))) (pe_one (pe_cmpR op_eq (pv 0) (pv 1) (nomark _)))))))
    pss_nil)
  (pss_cons (ps_if (pt_val (pe_callB (k_isi K) (by rfl) m_isinstance (by decide +kernel) (pa_cons (pv 1) (pa_cons (pe_bltn (v := .ty "str") (by rfl) m_str (by decide +kernel) rfl) pa_nil))))
    (pss_one (ps_ret (pe_and (pe_callB (k_isi K) (by rfl) m_isinstance (by decide +kernel) (pa_cons (pv 0) (pa_cons (pe_bltn (v := .ty "str") (by rfl) m_str (by decide +kernel) rfl) pa_nil))) (pe_one (pe_cmpR op_eq (pv 0) (pv 1) (nomark _))))))
    pss_nil)
  (pss_one (ps_ret (pe_and (pe_callB (k_isi K) (by rfl) m_isinstance (by decide +kernel) (pa_cons (pv 0) (pa_cons (pe_bltn (v := .ty "int") (by rfl) m_int (by decide +kernel) rfl) pa_nil))) (pe_one (pe_cmpR op_eq (pv 0) (pv 1) (nomark _)))))))))), ?_⟩
  obtain ⟨x, y, d, rfl, hx, hy, few, dep, hn, q⟩ := h
  cases hy with
  | non =>
    cases hx
    walk_at "rd"
    exact q H (Same.refl H)
  | bl b =>
    cases hx
    walk_at "rd"
    rw [decide_eq_true (p := V.bl b = V.bl b) rfl]
    exact q H (Same.refl H)
  | int i =>
    cases hx
    walk_at "rd"
    rw [decide_eq_true (p := V.int i = V.int i) rfl]
    exact q H (Same.refl H)
  | str z =>
    cases hx
    walk_at "rd"
    rw [decide_eq_true (p := V.str z = V.str z) rfl]
    exact q H (Same.refl H)
  | @lst a xs ds ha pa =>
    cases hx with
    | @lst b ys _ hb pb =>
    rw [fewD] at few
    have dep' : PyData.depthAll ds < n := by rw [PyData.depth] at dep; omega
    have la := dpAll_len pa
    have lb := dpAll_len pb
    walk_at "rd"
    rename_i T H1 nT s1 e1
    have ha1 := s1.seq ha
    have hb1 := s1.seq hb
    refine rLnL hb1 ?_
    walk_at "rd"
    refine rLnL ha1 ?_
    rw [la, lb]
    walk_at "rd"
    rw [decide_eq_true (p := V.int (ds.length : Nat) = V.int (ds.length : Nat)) rfl]
    refine rF rfl ?_
    walk_at "rd"
    refine rLnL ha1 ?_
    rw [la]
    walk_at "rd"
    intro D nD
    refine lc_range (lo := 0) (n := ds.length) (Made D fun i acc H' => Same H1 H' ∧ acc = []) ?_ ?_ ?_
    · exact made0 ⟨same_new nD, rfl⟩
    · rintro i H2 hi ⟨acc, eD, lD, s2, rfl⟩
      have hdi : ds[i]? = some ds[i] := List.getElem?_eq_getElem hi
      obtain ⟨va, ea, da⟩ := dpAll_get pa hdi
      obtain ⟨vb, eb, db⟩ := dpAll_get pb hdi
      have s02 := s1.trans s2
      rw [show ((0 : Int) + (i : Int)) = ((i : Nat) : Int) by omega]
      walk_at "rd"
      refine ⟨rfl, ?_⟩
      walk_at "rd"
      refine .inl (rIxL_ (s02.seq hb) (atI_nat eb) ?_)
      walk_at "rd"
      refine .inl (rIxL_ (s02.seq ha) (atI_nat ea) ?_)
      walk_at "rd"
      refine ⟨vb, va, ds[i], rfl, Dp.imm s02 db, Dp.imm s02 da, fewDs_get few.2 hdi, Nat.lt_of_le_of_lt (depth_get hdi) dep', by omega, fun H3 s3 => ?_⟩
      walk_at "rd"
      exact ⟨[], s3 _ _ eD, Nat.zero_le _, s2.trans s3, rfl⟩
    · rintro H2 ⟨acc, eD, lD, s2, rfl⟩
      walk_at "rd"
      rename_i E2 H3 nE s3 eE
      exact rEqNil (SqL.of (s3 _ _ eD)) (SqL.of eE) (q H3 (s1.trans (s2.trans s3)))
  | @tup a xs ds ha pa =>
    cases hx with
    | @tup b ys _ hb pb =>
    rw [fewD] at few
    have dep' : PyData.depthAll ds < n := by rw [PyData.depth] at dep; omega
    have la := dpAll_len pa
    have lb := dpAll_len pb
    walk_at "rd"
    rename_i T H1 nT s1 e1
    have ha1 := (imm_of_same s1).sqT ha
    have hb1 := (imm_of_same s1).sqT hb
    rw [la, lb]
    rw [decide_eq_true (p := V.int (ds.length : Nat) = V.int (ds.length : Nat)) rfl]
    refine rF rfl ?_
    walk_at "rd"
    rw [la]
    intro D nD
    refine lc_range (lo := 0) (n := ds.length) (Made D fun i acc H' => Same H1 H' ∧ acc = []) ?_ ?_ ?_
    · exact made0 ⟨same_new nD, rfl⟩
    · rintro i H2 hi ⟨acc, eD, lD, s2, rfl⟩
      have hdi : ds[i]? = some ds[i] := List.getElem?_eq_getElem hi
      obtain ⟨va, ea, da⟩ := dpAll_get pa hdi
      obtain ⟨vb, eb, db⟩ := dpAll_get pb hdi
      have s02 := s1.trans s2
      rw [show ((0 : Int) + (i : Int)) = ((i : Nat) : Int) by omega]
      walk_at "rd"
      refine ⟨rfl, ?_⟩
      walk_at "rd"
      refine .inr (rIxT_ ((imm_of_same s02).sqT hb) (atI_nat eb) ?_)
      walk_at "rd"
      refine .inr (rIxT_ ((imm_of_same s02).sqT ha) (atI_nat ea) ?_)
      walk_at "rd"
      refine ⟨vb, va, ds[i], rfl, Dp.imm s02 db, Dp.imm s02 da, fewDs_get few.2 hdi, Nat.lt_of_le_of_lt (depth_get hdi) dep', by omega, fun H3 s3 => ?_⟩
      walk_at "rd"
      exact ⟨[], s3 _ _ eD, Nat.zero_le _, s2.trans s3, rfl⟩
    · rintro H2 ⟨acc, eD, lD, s2, rfl⟩
      walk_at "rd"
      rename_i E2 H3 nE s3 eE
      exact rEqNil (SqL.of (s3 _ _ eD)) (SqL.of eE) (q H3 (s1.trans (s2.trans s3)))

theorem br__law_alike : ∀ vs H Q E, spA K ec0 (aLawAlike) vs H Q E → (spLawAlike K 9) vs H Q E := by
  rintro vs H Q E ⟨ro, as, Φ, Ψ, pr, rw0, ⟨x, y, d, rfl, ex, ey, sx, sy, few, dep, q⟩, hQ, _⟩
  cases pr with | cons a1 pr =>
  cases pr with | cons a2 pr =>
  cases pr
  have d1 := argOk_dp a1 sx
  have d2 := argOk_dp a2 sy
  rw [ex] at d1
  rw [ey] at d2
  exact ⟨_, _, d, rfl, d1, d2, few, dep, by decide, fun H' s => hQ _ _ H' q (Eff.of s) (rowSame rw0 s) retB⟩
/-! ### BadSaying.__init__ -/
abbrev s_init : Stmt := clsDef (topS 3) 0
theorem sc_init : FnScope ["self", "place"] ["self", "place"] (defScope s_init) := ⟨rfl, rfl, rfl, by decide +kernel, rfl, by decide +kernel, by decide +kernel⟩

theorem ok_init {f : Addr} {fd : FuncData} {k : Nat} (F : Fun K "__init__" "BadSaying.__init__" s_init f fd) {a_ShieldError : Addr} (m_ShieldError : mg "ShieldError" = some (.ref a_ShieldError)) {a_BadSaying : Addr} (m_BadSaying : mg "BadSaying" = some (.ref a_BadSaying)) (o_BadSaying : OexC K a_BadSaying) (np_BadSaying : PySem.W.findIn K (.ref a_BadSaying) "place" = some none) (rd_ShieldError : PySem.W.readsIn K a_ShieldError (.type "type") = true) (ga_ShieldError : PySem.W.specialIn K (.ref a_ShieldError) "__getattribute__" = some (some (.builtin "type.__getattribute__"))) (vi_ShieldError : PySem.W.findCls K (.ref a_ShieldError) (.type "type") "__init__" = some (.val (.builtin "ValueError.__init__"))) : FnOk P w K mg base CX0 (k + 1) f fd ["self", "place"] (spInit K a_BadSaying) := by
  refine F.ok sc_init (fun vs H Q E h => ?_) (fun cdv A outer s H vs Q E hr h => ?_)
  · obtain ⟨a, m, rfl, _⟩ := h; rfl
  refine ⟨_, (pss_cons (ps_expr (pe_ceinit (x := "ShieldError") rfl m_ShieldError rd_ShieldError ga_ShieldError vi_ShieldError (pa_cons (pv 0) (pa_cons (pe_joined (.cons pe_str (.cons (pe_fmt (pv 1)) (.cons pe_str .nil)))) pa_nil))))
  (pss_one (ps_ost (pv 0) (pv 1)))), ?_⟩
  obtain ⟨a, m, rfl, lm, ha, q⟩ := h
  have lm2 : (m : Int).natAbs < 10 ^ 10 := by
    show m < 10 ^ 10
    omega
  have lg : (m : Int).natAbs.log2 < 1920 := by
    show m.log2 < 1920
    by_cases z : m = 0
    · subst z; decide
    · exact (Nat.log2_lt z).mpr (Nat.lt_of_lt_of_le lm (Nat.le_trans (by decide : 100000 ≤ 2 ^ 17) (Nat.pow_le_pow_right (by decide) (by decide))))
  have lt := PySem.int_text_length_le10 (k := 10) (by decide) lm2
  walk_at "rd"
  show tCons _ _ _ _ _
  refine rCons ⟨.ref a, rfl, rCons ?_⟩
  have l5 : (Str.empty ++ ("word " : Str)).length = 5 := by decide
  have l19 : (" cannot stand there" : Str).length = 19 := by decide
  refine ⟨"word ", rfl, (by rw [l5, sizeLine_eq]; decide), ?_⟩
  refine ⟨.int m, rfl, .inr ⟨m, rfl, lg, _, rfl, ?_, ?_⟩⟩
  · rw [Str.length_append, PySem.ofString_length, l5, sizeLine_eq]
    omega
  refine ⟨" cannot stand there", rfl, ?_, ?_⟩
  · rw [Str.length_append, Str.length_append, PySem.ofString_length, l5, l19, sizeLine_eq]
    omega
  unfold tJs
  refine rNil ⟨a, a_BadSaying, _, rfl, (by simp), o_BadSaying, ha, ?_⟩
  refine ⟨.int m, rfl, .ref a, rfl, a, a_BadSaying, rfl, o_BadSaying, np_BadSaying, .inl ⟨ha, fun dx hd ne => ?_⟩⟩
  exact q dx hd ne

/-! ### need_size -/
abbrev s_need_size : Stmt := topS 8
theorem sc_need_size : FnScope ["size", "width", "height"] ["size"] (defScope s_need_size) := ⟨rfl, rfl, rfl, by decide +kernel, rfl, by decide +kernel, by decide +kernel⟩
def spNeedX (K : PySem.W.Frag) (C : Addr) : Sp := fun vs H Q E => ∃ (p : Addr) (a b : Int), vs = [.ref p] ∧ SqT K H p [.int a, .int b] ∧ (okS a b = true → Q .non H) ∧ (okS a b = false → E (.ref C) none H)
def aNeedX : ASp := fun as Φ Ψ => ∃ (a b : Int), as = [.d (dS2 a b)] ∧ (okS a b = true → Φ (.d .none)) ∧ (okS a b = false → Ψ .size)

theorem ok_need_size {f : Addr} {fd : FuncData} {k : Nat} (F : Fun K "need_size" "need_size" s_need_size f fd) {a_BadSize : Addr} (e_BadSize : ErrC K mg "BadSize" a_BadSize) {a_SIDES : Addr} (m_SIDES : mg "SIDES" = some (.ref a_SIDES)) (t_SIDES : KT K a_SIDES [.int 1, .int 2, .int 4, .int 8]) : FnOk P w K mg base (L2.CX P w) (k + 1) f fd ["size"] (spNeedX K a_BadSize) := by
  refine F.okX sc_need_size (fun vs H Q E h => ?_) (fun cdv A outer s H vs Q E hr h => ?_)
  · obtain ⟨p, a, b, rfl, _⟩ := h; rfl
  refine ⟨_, (pss_cons (ps_asg (pv 0) (k_gtup K 2 rfl (pgs_cons (pg_name (i := 1) sc_need_size.nd rfl (.inl rfl)) (pgs_cons (pg_name (i := 2) sc_need_size.nd rfl (.inl rfl)) pgs_nil))))
  (pss_one (ps_if (PW.pt (pw_or (pt_cmpR (k_notIn K) (pv 1) (pe_glob (v := .ref a_SIDES) rfl m_SIDES rfl) (by rfl)) (pw_or1 (pt_cmpR (k_notIn K) (pv 2) (pe_glob (v := .ref a_SIDES) rfl m_SIDES rfl) (by rfl)))))
    (pss_one (ps_raise rfl (takes_of rfl rfl rfl rfl) (pmk_own PySem.F.excBase_ValueError e_BadSize.q e_BadSize.g e_BadSize.k (raises_own e_BadSize.b e_BadSize.t) rfl)))
    pss_nil))), ?_⟩
  obtain ⟨p, a, b, rfl, hp, q1, q0⟩ := h
  walk_at "rd"
  cases h1 : inV (V.int a) [.int 1, .int 2, .int 4, .int 8] with
  | false =>
    walk_at "rd"
    exact q0 (by unfold okS; rw [h1]; rfl)
  | true =>
    walk_at "rd"
    cases h2 : inV (V.int b) [.int 1, .int 2, .int 4, .int 8] with
    | false =>
      walk_at "rd"
      exact q0 (by unfold okS; rw [h1, h2]; rfl)
    | true =>
      walk_at "rd"
      exact q1 (by unfold okS; rw [h1, h2]; rfl)

theorem br_need_size : ∀ vs H Q E, spA K (ecS a_BadSize) (aNeedX) vs H Q E → (spNeedX K a_BadSize) vs H Q E := by
  rintro vs H Q E ⟨ro, as, Φ, Ψ, pr, rw0, ⟨a, b, rfl, q1, q0⟩, hQ, hE⟩
  cases pr with | cons d1 pr =>
  cases pr
  obtain ⟨p, rfl, hp⟩ := dp_s2 d1.2
  exact ⟨p, a, b, rfl, hp, fun o => hQ _ _ H (q1 o) (Eff.of (Same.refl H)) rw0 ⟨rfl, .non⟩, fun o => hE _ _ _ H (q0 o) (Eff.of (Same.refl H)) rw0 ⟨rfl, rfl, rfl⟩⟩
/-! ### can_stand -/
abbrev s_can_stand : Stmt := topS 15
theorem sc_can_stand : FnScope ["size", "word", "width", "height"] ["size", "word"] (defScope s_can_stand) := ⟨rfl, rfl, rfl, by decide +kernel, rfl, by decide +kernel, by decide +kernel⟩
def spCan (K : PySem.W.Frag) : Sp := fun vs H Q _ => ∃ (p : Addr) (x : Kw) (w h : Nat), vs = [.ref p, .str x.s] ∧ SqT K H p [.int w, .int h] ∧ 1 ≤ w ∧ 1 ≤ h ∧ ∀ b, b = x.fits w h → Q (.bl b) H
def aCan : ASp := fun as Φ _ => ∃ (x : Kw) (w h : Nat), as = [.d (dSz w h), .d (.str x.s)] ∧ 1 ≤ w ∧ 1 ≤ h ∧ Φ (.d (.bool (x.fits w h)))
def spCanW (K : PySem.W.Frag) : Sp := fun vs H Q E => spCan K vs H Q E ∨ ∃ (p : Addr) (s : Str), vs = [.ref p, .str s] ∧ isCoW s = false ∧ nwOf s = none ∧ Q (.bl false) H

theorem ok_can_stand {f : Addr} {fd : FuncData} {k : Nat} (F : Fun K "can_stand" "can_stand" s_can_stand f fd) {a_COLOURS : Addr} (m_COLOURS : mg "COLOURS" = some (.ref a_COLOURS)) (t_COLOURS : KT K a_COLOURS [.str "white", .str "yellow", .str "black", .str "blue", .str "green", .str "red"]) {a_LEAST : Addr} (m_LEAST : mg "LEAST" = some (.ref a_LEAST)) (t_LEAST : LeastK K w a_LEAST) (q_LEAST : KKeys K a_LEAST ["party", "cut", "quartered", "pillar", "band", "head", "edge"]) : FnOk P w K mg base CX0 (k + 1) f fd ["size", "word"] (spCanW K) := by
  refine F.ok sc_can_stand (fun vs H Q E h => ?_) (fun cdv A outer s H vs Q E hr h => ?_)
  · rcases h with ⟨p, x, w, h, rfl, _⟩ | ⟨p, s, rfl, _⟩ <;> rfl
  obtain ⟨esL, nL, DL⟩ := t_LEAST.dict
  refine ⟨_, (pss_cons (ps_if (pt_cmpR (k_in K) (pv 1) (pe_glob (v := .ref a_COLOURS) rfl m_COLOURS rfl) (by rfl))
    (pss_one (ps_ret pe_bl))
    pss_nil)
  (pss_cons (ps_if (pt_cmpR (op_notIn_kd DL) (pv 1) (pe_glob (v := .ref a_LEAST) rfl m_LEAST rfl) (by rfl))
    (pss_one (ps_ret pe_bl))
    pss_nil)
  (pss_cons (ps_asg (pe_ix (k_ixD K w) (pe_glob (v := .ref a_LEAST) rfl m_LEAST rfl) (pv 1) (fun _ _ => rfl)) (k_gtup K 2 rfl (pgs_cons (pg_name (i := 2) sc_can_stand.nd rfl (.inl rfl)) (pgs_cons (pg_name (i := 3) sc_can_stand.nd rfl (.inl rfl)) pgs_nil))))
  (pss_one (ps_ret (pe_and (pe_cmpR op_ge (pe_ix (k_ixT K) (pv 0) pe_int (fun _ _ => rfl)) (pv 2) (nomark _)) (pe_one (pe_cmpR op_ge (pe_ix (k_ixT K) (pv 0) pe_int (fun _ _ => rfl)) (pv 3) (nomark _))))))))), ?_⟩
  rcases h with ⟨p, x, w, h, rfl, hp, hw, hh, q⟩ | ⟨p, s, rfl, hc, hn, q⟩
  rotate_left
  · walk_at "rd"
    rw [not_cols hc]
    walk_at "rd"
    refine ⟨_, _, rfl, rfl, nsIn_none q_LEAST (not_least hn), _, rfl, rT rfl ?_⟩
    walk_at "rd"
    exact q
  walk_at "rd"
  rcases x with c | d | x
  · rw [show (Kw.c c).s = c.s from rfl, inV_cols]
    walk_at "rd"
    exact q _ rfl
  · rw [show (Kw.d d).s = d.s from rfl, inV_cols_du]
    walk_at "rd"
    have tk : ∃ (pp : Addr) (u v : Nat), PySem.W.nsIn K a_LEAST d.s = some (some (.ref pp)) ∧ KT K pp [.int u, .int v] ∧ d.fits w h = (decide (u ≤ w) && decide (v ≤ h)) := by
      obtain ⟨pp, e1, kt⟩ := t_LEAST.du d
      cases d
      · exact ⟨pp, 2, 1, e1, kt, by simp [Du.fits, hw, hh]⟩
      · exact ⟨pp, 1, 2, e1, kt, by simp [Du.fits, hw, hh]⟩
      · exact ⟨pp, 2, 2, e1, kt, by simp [Du.fits, hw, hh]⟩
    obtain ⟨pp, u, v, e1, kt, ef⟩ := tk
    refine ⟨_, _, rfl, rfl, e1, _, rfl, rF rfl ?_⟩
    walk_at "rd"
    refine rIxD_ (KDict.gives DL e1) ?_
    walk_at "rd"
    refine rIte (fun c => ?_) (fun c => ?_)
    · walk_at "rd"
      refine q _ ?_
      have c' : u ≤ w := by omega
      show _ = d.fits w h
      rw [ef, decide_eq_true c', Bool.true_and]
      exact decide_eq_decide.mpr (by omega)
    · refine q _ ?_
      have c' : ¬ u ≤ w := by omega
      show _ = d.fits w h
      rw [ef, decide_eq_false c', Bool.false_and]
  · rw [show (Kw.p x).s = x.s from rfl, inV_cols_pi]
    walk_at "rd"
    have tk : ∃ (pp : Addr) (u v : Nat), PySem.W.nsIn K a_LEAST x.s = some (some (.ref pp)) ∧ KT K pp [.int u, .int v] ∧ x.fits w h = (decide (u ≤ w) && decide (v ≤ h)) := by
      obtain ⟨pp, e1, kt⟩ := t_LEAST.pi x
      cases x
      · exact ⟨pp, 4, 1, e1, kt, by simp [Pi.fits, hw, hh]⟩
      · exact ⟨pp, 1, 4, e1, kt, by simp [Pi.fits, hw, hh]⟩
      · exact ⟨pp, 1, 4, e1, kt, by simp [Pi.fits, hw, hh]⟩
      · exact ⟨pp, 4, 4, e1, kt, by simp [Pi.fits, hw, hh]⟩
    obtain ⟨pp, u, v, e1, kt, ef⟩ := tk
    refine ⟨_, _, rfl, rfl, e1, _, rfl, rF rfl ?_⟩
    walk_at "rd"
    refine rIxD_ (KDict.gives DL e1) ?_
    walk_at "rd"
    refine rIte (fun c => ?_) (fun c => ?_)
    · walk_at "rd"
      refine q _ ?_
      have c' : u ≤ w := by omega
      show _ = x.fits w h
      rw [ef, decide_eq_true c', Bool.true_and]
      exact decide_eq_decide.mpr (by omega)
    · refine q _ ?_
      have c' : ¬ u ≤ w := by omega
      show _ = x.fits w h
      rw [ef, decide_eq_false c', Bool.false_and]

/-! ### _sizes_behind -/
abbrev s__sizes_behind : Stmt := topS 16
theorem sc__sizes_behind : FnScope ["size", "word", "width", "height"] ["size", "word"] (defScope s__sizes_behind) := ⟨rfl, rfl, rfl, by decide +kernel, rfl, by decide +kernel, by decide +kernel⟩
def spBhd (K : PySem.W.Frag) : Sp := fun vs H Q _ => ∃ (p : Addr) (x : Kw) (w h : Nat), vs = [.ref p, .str x.s] ∧ SqT K H p [.int w, .int h] ∧
  ∀ (D : Addr) (as : List Addr) (H' : Hp), Same H H' → H D = none → H' D = some (.lst (as.map V.ref)) → Paired (SizeAt K H') as (x.behind w h) → Q (.ref D) H'

theorem ok__sizes_behind {f : Addr} {fd : FuncData} {k : Nat} (F : Fun K "_sizes_behind" "_sizes_behind" s__sizes_behind f fd) {a_COLOURS : Addr} (m_COLOURS : mg "COLOURS" = some (.ref a_COLOURS)) (t_COLOURS : KT K a_COLOURS [.str "white", .str "yellow", .str "black", .str "blue", .str "green", .str "red"]) {a_PIECES : Addr} (m_PIECES : mg "PIECES" = some (.ref a_PIECES)) (t_PIECES : KT K a_PIECES [.str "pillar", .str "band", .str "head", .str "edge"]) {a_CELL : Addr} (m_CELL : mg "CELL" = some (.ref a_CELL)) (t_CELL : KT K a_CELL [.int 1, .int 1]) : FnOk P w K mg base CX0 (k + 1) f fd ["size", "word"] (spBhd K) := by
  refine F.ok sc__sizes_behind (fun vs H Q E h => ?_) (fun cdv A outer s H vs Q E hr h => ?_)
  · obtain ⟨p, x, w, h, rfl, _⟩ := h; rfl
  refine ⟨_, (pss_cons (ps_asg (pv 0) (k_gtup K 2 rfl (pgs_cons (pg_name (i := 2) sc__sizes_behind.nd rfl (.inl rfl)) (pgs_cons (pg_name (i := 3) sc__sizes_behind.nd rfl (.inl rfl)) pgs_nil))))
  (pss_cons (ps_if (pt_cmpR (k_in K) (pv 1) (pe_glob (v := .ref a_COLOURS) rfl m_COLOURS rfl) (by rfl))
    (pss_one (ps_ret (pe_lst pa_nil)))
    pss_nil)
  (pss_cons (ps_if (pt_cmpR (k_in K) (pv 1) (pe_glob (v := .ref a_PIECES) rfl m_PIECES rfl) (by rfl))
    (pss_one (ps_ret (pe_lst (pa_cons (pe_glob (v := .ref a_CELL) rfl m_CELL rfl) (pa_cons (pv 0) pa_nil)))))
    pss_nil)
  (pss_cons (ps_if (pt_cmpR op_eq (pv 1) pe_str (nomark _))
    (pss_one (ps_ret (pe_op op_rep (pe_lst (pa_cons (pe_tup (pa_cons (pe_op op_fdiv (pv 2) pe_int) (pa_cons (pv 3) pa_nil))) pa_nil)) pe_int)))
    pss_nil)
  (pss_cons (ps_if (pt_cmpR op_eq (pv 1) pe_str (nomark _))
    (pss_one (ps_ret (pe_op op_rep (pe_lst (pa_cons (pe_tup (pa_cons (pv 2) (pa_cons (pe_op op_fdiv (pv 3) pe_int) pa_nil))) pa_nil)) pe_int)))
    pss_nil)
  (pss_one (ps_ret (pe_op op_rep (pe_lst (pa_cons (pe_tup (pa_cons (pe_op op_fdiv (pv 2) pe_int) (pa_cons (pe_op op_fdiv (pv 3) pe_int) pa_nil))) pa_nil)) pe_int)))))))), ?_⟩
  obtain ⟨p, x, w, h, rfl, hp, q⟩ := h
  walk_at "rd"
  rcases x with c | d | x
  · rw [show (Kw.c c).s = c.s from rfl, inV_cols]
    walk_at "rd"
    rename_i D H2 nD s2 e2
    exact q D [] H2 s2 nD e2 .nil
  · rw [show (Kw.d d).s = d.s from rfl, inV_cols_du]
    walk_at "rd"
    rw [inV_pcs_du]
    walk_at "rd"
    have fin : ∀ (D T : Addr) (H2 H3 H4 : Hp), Same H H2 → H2 T = some (.tup [.int (d.pw w : Nat), .int (d.ph h : Nat)]) → Same H2 H3 → Same H3 H4 → H3 D = none → H4 D = some (.lst (List.replicate 2 [V.ref T]).flatten) → Q (.ref D) H4 := by
      intro D T H2 H3 H4 s1 e1 s2 s3 nD eD
      have e := s3 _ _ (s2 _ _ e1)
      exact q D [T, T] H4 (s1.trans (s2.trans s3)) ((s1.trans s2).free nD) eD (.cons (SqT.of e) (.cons (SqT.of e) .nil))
    cases d
    · walk_at "rd"
      rename_i T H2 nT s2 e2 L H3 nL s3 e3
      exact rRep_ e3 (by decide) (by decide) (Nat.le_of_ble_eq_true rfl) fun D H4 nD s4 e4 => fin D T H2 H3 H4 s2 e2 s3 s4 nD e4
    · walk_at "rd"
      rename_i T H2 nT s2 e2 L H3 nL s3 e3
      exact rRep_ e3 (by decide) (by decide) (Nat.le_of_ble_eq_true rfl) fun D H4 nD s4 e4 => fin D T H2 H3 H4 s2 e2 s3 s4 nD e4
    · walk_at "rd"
      rename_i T H2 nT s2 e2 L H3 nL s3 e3
      exact rRep_ e3 (by decide) (by decide) (Nat.le_of_ble_eq_true rfl) fun D H4 nD s4 e4 => fin D T H2 H3 H4 s2 e2 s3 s4 nD e4
  · rw [show (Kw.p x).s = x.s from rfl, inV_cols_pi]
    walk_at "rd"
    rw [inV_pcs]
    walk_at "rd"
    rename_i D H2 nD s2 e2
    exact q D [a_CELL, p] H2 s2 nD e2 (.cons (KT.sq _ t_CELL) (.cons ((imm_of_same s2).sqT hp) .nil))

/-! ### word_sizes -/
abbrev s_word_sizes : Stmt := topS 14
theorem sc_word_sizes : FnScope ["size", "words", "met", "awaited", "place", "word"] ["size", "words"] (defScope s_word_sizes) := ⟨rfl, rfl, rfl, by decide +kernel, rfl, by decide +kernel, by decide +kernel⟩
def spSizes (K : PySem.W.Frag) : Sp := fun vs H Q _ => ∃ (ps p : Addr) (l : List Str) (t : Tr) (w h : Nat), vs = [.ref ps, .ref p] ∧ SqT K H ps [.int w, .int h] ∧ Side w ∧ Side h ∧ SqT K H p (ws l) ∧ Short t.wds l ∧ t.ok w h ∧ t.wds.length ≤ 50000 ∧
  ∀ (D : Addr) (as : List Addr) (H' : Hp), Same H H' → H D = none → H' D = some (.lst (as.map V.ref)) → Paired (SizeAt K H') as (t.szs w h) → Q (.ref D) H'
def dSzP (p : Nat × Nat) : PyData := dSz p.1 p.2
def aSizes : ASp := fun as Φ _ => ∃ (l : List Str) (t : Tr) (w h : Nat), as = [.d (dSz w h), .d (dWs l)] ∧ Side w ∧ Side h ∧ Short t.wds l ∧ t.ok w h ∧ t.wds.length ≤ 1000 ∧ Φ (.l true ((t.szs w h).map dSzP))
theorem sizes_dp {K : PySem.W.Frag} {H : Hp} : ∀ {as : List Addr} {l : List (Nat × Nat)}, Paired (SizeAt K H) as l → DpAll K H (as.map V.ref) (l.map dSzP)
  | _, _, .nil => .nil
  | _, _, .cons r t => .cons (sz_dp r) (sizes_dp t)
/-- where the words are none that can stand so -/
def BadW (K : PySem.W.Frag) (C : Addr) (vs : List V) (H : Hp) (E : XK) : Prop := ∃ (ps p : Addr) (l : List Str) (w h n : Nat), vs = [.ref ps, .ref p] ∧ SqT K H ps [.int w, .int h] ∧ Side w ∧ Side h ∧ SqT K H p (ws l) ∧ l.length ≤ 20000 ∧
  look [(w, h)] false 0 l = .inl n ∧ ∀ (d : Addr) (H' : Hp), Same H H' → H' d = some (.xd [("place", .int n)]) → E (.ref C) (some d) H'
def BadZ (K : PySem.W.Frag) (C : Addr) (vs : List V) (H : Hp) (E : XK) : Prop := ∃ (ps p : Addr) (a b : Int), vs = [.ref ps, .ref p] ∧ SqT K H ps [.int a, .int b] ∧ okS a b = false ∧ E (.ref C) none H
def spSizesX (K : PySem.W.Frag) (CS C : Addr) : Sp := fun vs H Q E => spSizes K vs H Q E ∨ BadW K C vs H E ∨ BadZ K CS vs H E
def aSizesX : ASp := fun as Φ Ψ => ∃ (l : List Str) (a b : Int), as = [.d (dS2 a b), .d (dWs l)] ∧ l.length ≤ 5000 ∧ Asks a b l Ψ fun w h m => ∀ t : Tr, t.ok w h → t.wds = l ++ List.replicate m Co.white.s → Φ (.l true ((t.szs w h).map dSzP))

theorem ok_word_sizes {f : Addr} {fd : FuncData} {k : Nat} (F : Fun K "word_sizes" "word_sizes" s_word_sizes f fd) {a_BadSize : Addr} (e_BadSize : ErrC K mg "BadSize" a_BadSize) {a_BadSaying : Addr} (m_BadSaying : mg "BadSaying" = some (.ref a_BadSaying)) {j : Nat} (jk : j + 1 ≤ k) {f_init : Addr} {fd_init : FuncData} (G_init : FnOk P w K mg base CX0 j f_init fd_init ["self", "place"] (spInit K a_BadSaying)) (b_init : Binds K fd_init ["self", "place"] []) (T_BadSaying : SayC K mg a_BadSaying f_init) (m_enumerate : mg "enumerate" = none) {a_need_size : Addr} {fd_need_size : FuncData} (G_need_size : FnOk P w K mg base (L2.CX P w) k a_need_size fd_need_size ["size"] (spNeedX K a_BadSize)) (m_need_size : mg "need_size" = some (.ref a_need_size)) (k_need_size : PySem.W.keepIn K (.ref a_need_size) = true) (b_need_size : Binds K fd_need_size ["size"] []) {a_can_stand : Addr} {fd_can_stand : FuncData} (G_can_stand : FnOk P w K mg base CX0 k a_can_stand fd_can_stand ["size", "word"] (spCanW K)) (m_can_stand : mg "can_stand" = some (.ref a_can_stand)) (k_can_stand : PySem.W.keepIn K (.ref a_can_stand) = true) (b_can_stand : Binds K fd_can_stand ["size", "word"] []) {a__sizes_behind : Addr} {fd__sizes_behind : FuncData} (G__sizes_behind : FnOk P w K mg base CX0 k a__sizes_behind fd__sizes_behind ["size", "word"] (spBhd K)) (m__sizes_behind : mg "_sizes_behind" = some (.ref a__sizes_behind)) (k__sizes_behind : PySem.W.keepIn K (.ref a__sizes_behind) = true) (b__sizes_behind : Binds K fd__sizes_behind ["size", "word"] []) : FnOk P w K mg base (L2.CX P w) (k + 1) f fd ["size", "words"] (spSizesX K a_BadSize a_BadSaying) := by
  refine F.okX sc_word_sizes (fun vs H Q E h => ?_) (fun cdv A outer s H vs Q E hr h => ?_)
  · rcases h with ⟨ps, p, l, t, w, h, rfl, _⟩ | ⟨ps, p, l, w, h, n, rfl, _⟩ | ⟨ps, p, a, b, rfl, _⟩ <;> rfl
  refine ⟨_, (pss_cons (ps_expr (pe_call (E := E) G_need_size hr (by rfl) m_need_size k_need_size b_need_size .nil (passes_call (takes_of rfl rfl rfl rfl) fun _ _ _ _ h => h) (pa_cons (pv 0) pa_nil)))
  (pss_cons (ps_set (i := 2) sc_word_sizes.nd rfl (.inl rfl) (pe_lst pa_nil))
  (pss_cons (ps_set (i := 3) sc_word_sizes.nd rfl (.inl rfl) (pe_lst (pa_cons (pv 0) pa_nil)))
  (pss_cons (ps_for (passes_of rfl) rfl (k_enumT K (by rfl) m_enumerate (pa_cons (pv 1) pa_nil)) (k_gtup K 2 rfl (pgs_cons (pg_name (i := 4) sc_word_sizes.nd rfl (.inl rfl)) (pgs_cons (pg_name (i := 5) sc_word_sizes.nd rfl (.inl rfl)) pgs_nil)))
    (pss_cons (ps_if (PW.pt (pw_or (pt_not (k_truth K (pv 3) (by intro _; rfl))) (pw_or1 (pt_not (pt_val (pe_call G_can_stand hr (by rfl) m_can_stand k_can_stand b_can_stand .nil pass0 (pa_cons (pe_ix (k_ixL K) (pv 3) pe_int (fun _ _ => rfl)) (pa_cons (pv 5) pa_nil))))))))
        (pss_one (ps_raiseP rfl T_BadSaying G_init (hr.mono jk) b_init pass0 (takes_of rfl rfl rfl rfl) rfl (pv 4)))
        pss_nil)
      (pss_cons (ps_expr (k_bm K PySem.F.plainAttrs_list PySem.F.slot_list_append PySem.F.type_list_append mt_append (pv 2) (pa_cons (pe_ix (k_ixL K) (pv 3) pe_int (fun _ _ => rfl)) pa_nil)))
      (pss_one (ps_set (i := 3) sc_word_sizes.nd rfl (.inl rfl) (pe_op op_cat (pe_call G__sizes_behind hr (by rfl) m__sizes_behind k__sizes_behind b__sizes_behind .nil pass0 (pa_cons (pe_ix (k_ixL K) (pv 3) pe_int (fun _ _ => rfl)) (pa_cons (pv 5) pa_nil))) (pe_slice (k_slL K) (pv 3) (po_some pe_int) po_none)))))))
  (pss_one (ps_ret (pe_op op_cat (pv 2) (pv 3)))))))), ?_⟩
  rcases h with ⟨ps, p, l, t, w, h, rfl, hps, sw, sh, hp, ⟨m, hm, rfl, hwhite⟩, ok, few, q⟩ | ⟨ps, p, l, w, h, n, rfl, hps, sw, sh, hp, few, lk, q⟩ | ⟨ps, p, a, b, rfl, hps, no, q⟩
  · have hw1 := side_le sw
    have hh1 := side_le sh
    walk_at "rd"
    refine ⟨ps, w, h, rfl, hps, fun _ => ?_, fun z => absurd z (by rw [okS_side sw sh]; decide)⟩
    walk_at "rd"
    rename_i D1 H1 nD1 s1 e1 D2 H2 nD2 s2 e2
    have nD1' : H D1 = none := nD1
    refine for_enumT (xs := ws (t.wds.take m)) (fun i σ' H' => ∃ (pend : List Pd) (metl : List (Nat × Nat)) (as bs : List Addr) (D2 : Addr) (o4 o5 : Option V), σ' = [some (.ref ps), some (.ref p), some (.ref D1), some (.ref D2), o4, o5] ∧ Same H H' ∧
      H' D1 = some (.lst (as.map V.ref)) ∧ Paired (SizeAt K H') as metl ∧ H' D2 = some (.lst (bs.map V.ref)) ∧ Paired (SizeAt K H') bs (psz pend) ∧ D2 ≠ D1 ∧ H D2 = none ∧ (∀ x ∈ pend, pok x) ∧ t.wds.drop i = pwds pend ∧ metl ++ pszs pend = t.szs w h)
      ⟨[((w, h), t)], [], [], [ps], D2, none, none, rfl, s1.trans s2, s2 _ _ e1, .nil, e2, .cons ((imm_of_same (s1.trans s2)).sqT hps) .nil, (ne_of_none e1 nD2).symm, s1.free nD2, ?_, by simp [pwds], by simp [pszs]⟩ ?_ ?_ ?_
    · intro x hx
      rw [List.mem_singleton.mp hx]
      exact ⟨ok, hw1.1, hh1.1⟩
    · rintro i _ H3 _ ⟨pend, metl, as, bs, D2, o4, o5, rfl, s3, _⟩
      exact (imm_of_same s3).sqT hp
    · rintro i v _ H3 T H4 hx ⟨pend, metl, as, bs, D2, o4, o5, rfl, s3, m1, m2, b1, b2, ne, nD2, pk, hd, hz⟩ nT s4 eT
      obtain ⟨x, hx', rfl⟩ := get_map hx
      have hi : i < m := by
        have := (List.getElem?_eq_some_iff.mp hx').1
        rw [List.length_take] at this
        omega
      have hxi : t.wds[i]? = some x := by
        rw [List.getElem?_take] at hx'
        rwa [if_pos hi] at hx'
      have hdi : t.wds.drop i = x :: t.wds.drop (i + 1) := by
        have lt := (List.getElem?_eq_some_iff.mp hxi).1
        rw [List.drop_eq_getElem_cons lt]
        rw [List.getElem?_eq_getElem lt] at hxi
        rw [Option.some.inj hxi]
      cases pend with
      | nil =>
        rw [hdi] at hd
        cases hd
      | cons pd pr =>
      rw [pstep_wds, hdi] at hd
      injection hd with hx2 hd2
      subst hx2
      cases b2 with
      | @cons b0 _ bs _ r0 b2 =>
      have b1' : H4 D2 = some (.lst ((b0 :: bs).map V.ref)) := s4 _ _ b1
      have m1' := s4 _ _ m1
      have r0' : SqT K H4 b0 [.int pd.1.1, .int pd.1.2] := (imm_of_same s4).sqT r0
      have pd1 := pk pd List.mem_cons_self
      have lm : as.length = metl.length := paired_len m2
      have lz : metl.length + (pszs (pd :: pr)).length = t.wds.length := by rw [← List.length_append, hz, szs_len]
      have lb : bs.length = (psz pr).length := paired_len b2
      walk_at "rd"
      refine rTruL (SqL.of b1') ?_
      refine rF rfl ?_
      walk_at "rd"
      refine .inl ⟨b0, pd.2.kw, pd.1.1, pd.1.2, rfl, r0', pd1.2.1, pd1.2.2, fun b eb => ?_⟩
      rw [pok_fits pd1] at eb
      subst eb
      walk_at "rd"
      refine rAppend_ m1' (lt_line (by rw [List.length_map]; omega)) fun H5 c5 e5 => ?_
      have b15 := c5.2 _ _ ne b1'
      have r5 := c5.1.sqT r0'
      walk_at "rd"
      refine ⟨b0, pd.2.kw, pd.1.1, pd.1.2, rfl, r5, fun D3 as3 H6 s6 nD3 e6 p6 => ?_⟩
      have b16 := s6 _ _ b15
      walk_at "rd"
      refine rSlL_ (SqL.of b16) fun D4 H7 nD4 s7 e7 => ?_
      rw [show (some (1 : Int)) = some ((1 : Nat) : Int) from rfl, cut_from] at e7
      have l3 : as3.length ≤ 2 := by
        rw [paired_len p6]
        cases pd.2.kw <;> simp [Kw.behind]
      have lp : ∀ l : List Pd, (psz l).length ≤ (pszs l).length := by
        intro l
        induction l with
        | nil => exact Nat.le_refl _
        | cons y ys ih =>
          rw [pszs, psz, List.length_cons, List.length_append, szs_len]
          have := wds_pos y.2
          omega
      have lp1 := lp pr
      have lp2 : (pszs pr).length ≤ (pszs (pd :: pr)).length := by rw [pszs, List.length_append]; omega
      refine rCatL_ (s7 _ _ e6) e7 (by simp; omega) fun D5 H8 nD5 s8 e8 => ?_
      have s05 : Same H H5 := same_chg (s3.trans s4) c5 nD1'
      have s58 := s6.trans (s7.trans s8)
      have m8 : Paired (SizeAt K H8) as metl := Paired.mapP (F := SizeAt K H3) m2 fun a s z => (imm_of_same s58).sqT (c5.1.sqT ((imm_of_same s4).sqT z))
      walk_at "rd"
      refine ⟨pstep (pd :: pr), metl ++ [pd.1], as ++ [b0], as3 ++ bs, D5, _, _, rfl, s05.trans s58, by rw [List.map_append]; exact s58 _ _ e5, paired_snoc (F := SizeAt K H8) ((imm_of_same s58).sqT r5) m8, ?_, ?_, ?_, ?_, ?_, ?_, ?_⟩
      · rw [List.map_append]
        exact e8
      · rw [pstep_sz]
        exact paired_app (Paired.mapP (F := SizeAt K H6) p6 fun a s z => (imm_of_same (s7.trans s8)).sqT z) (Paired.mapP (F := SizeAt K H3) b2 fun a s z => (imm_of_same s58).sqT (c5.1.sqT ((imm_of_same s4).sqT z)))
      · exact (ne_of_none ((s6.trans s7) _ _ e5) nD5).symm
      · exact s05.free ((s6.trans s7).free nD5)
      · exact pstep_ok pd1 fun y hy => pk y (List.mem_cons_of_mem _ hy)
      · exact hd2
      · rw [← hz, pstep_szs pd pr, List.append_assoc]
        rfl
    · rintro _ H3 ⟨pend, metl, as, bs, D2, o4, o5, rfl, s3, m1, m2, b1, b2, ne, nD2, pk, hd, hz⟩
      have ll : (ws (t.wds.take m)).length = m := by
        rw [ws_len, List.length_take]
        omega
      rw [ll] at hd
      have we : pszs pend = psz pend := white_end pend fun x hx => by
        rw [← hd] at hx
        obtain ⟨j, hj⟩ := List.mem_iff_getElem?.mp hx
        rw [List.getElem?_drop] at hj
        have lt := (List.getElem?_eq_some_iff.mp hj).1
        rw [hwhite _ (by omega) lt] at hj
        exact (Option.some.inj hj).symm
      have la : as.length = metl.length := paired_len m2
      have lb : bs.length = (psz pend).length := paired_len b2
      have lz : metl.length + (psz pend).length = t.wds.length := by rw [← we, ← List.length_append, hz, szs_len]
      walk_at "rd"
      refine rCatL_ m1 b1 (by simp; omega) fun D H4 nD s4 e4 => ?_
      refine q D (as ++ bs) H4 (s3.trans s4) (s3.free nD) (by rw [List.map_append]; exact e4) ?_
      rw [← hz, we]
      exact paired_app (Paired.mapP (F := SizeAt K H3) m2 fun a s z => (imm_of_same s4).sqT z) (Paired.mapP (F := SizeAt K H3) b2 fun a s z => (imm_of_same s4).sqT z)
  · have hw1 := side_le sw
    have hh1 := side_le sh
    walk_at "rd"
    refine ⟨ps, w, h, rfl, hps, fun _ => ?_, fun z => absurd z (by rw [okS_side sw sh]; decide)⟩
    walk_at "rd"
    rename_i D1 H1 nD1 s1 e1 D2 H2 nD2 s2 e2
    have nD1' : H D1 = none := nD1
    refine for_enumT (xs := ws l) (fun i σ' H' => ∃ (st : List (Nat × Nat)) (want : Bool) (as bs : List Addr) (D2 : Addr) (o4 o5 : Option V), σ' = [some (.ref ps), some (.ref p), some (.ref D1), some (.ref D2), o4, o5] ∧ Same H H' ∧
      H' D1 = some (.lst (as.map V.ref)) ∧ as.length = i ∧ H' D2 = some (.lst (bs.map V.ref)) ∧ Paired (SizeAt K H') bs (aw want st) ∧ D2 ≠ D1 ∧ H D2 = none ∧ Pos2 (aw want st) ∧ look st want i (l.drop i) = .inl n ∧ (aw want st).length ≤ i + 1)
      ⟨[(w, h)], false, [], [ps], D2, none, none, rfl, s1.trans s2, s2 _ _ e1, rfl, e2, .cons ((imm_of_same (s1.trans s2)).sqT hps) .nil, (ne_of_none e1 nD2).symm, s1.free nD2, ?_, lk, Nat.le_refl _⟩ ?_ ?_ ?_
    · intro x hx
      rw [List.mem_singleton.mp hx]
      exact ⟨hw1.1, hh1.1⟩
    · rintro i _ H3 _ ⟨st, want, as, bs, D2, o4, o5, rfl, s3, _⟩
      exact (imm_of_same s3).sqT hp
    · rintro i v _ H3 T H4 hx ⟨st, want, as, bs, D2, o4, o5, rfl, s3, m1, ml, b1, b2, ne, nD2, pk, lk, bl⟩ nT s4 eT
      obtain ⟨x, hx', rfl⟩ := get_map hx
      have hi := (List.getElem?_eq_some_iff.mp hx').1
      have hdi : l.drop i = x :: l.drop (i + 1) := by
        rw [List.drop_eq_getElem_cons hi]
        rw [List.getElem?_eq_getElem hi] at hx'
        rw [Option.some.inj hx']
      rw [hdi] at lk
      cases ea : aw want st with
      | nil =>
        rw [ea] at b2
        cases b2
        have : n = i := by
          cases want with
          | true => cases ea
          | false =>
            have ea : st = [] := ea
            subst ea
            rw [look] at lk
            exact (Sum.inl.inj lk).symm
        subst this
        have b1' := s4 _ _ b1
        walk_at "rd"
        refine rTruL (SqL.of b1') ?_
        walk_at "rd"
        refine rRaiseP ⟨.int n, rfl, qRaiseP (by omega) fun d hd => ?_⟩
        exact q d _ ((s3.trans s4).trans (same_add hd)) upd_same
      | cons ab r =>
      obtain ⟨a, b⟩ := ab
      have stp := look_step ea lk pk
      rw [ea] at b2 pk bl
      have pab := pk _ List.mem_cons_self
      cases b2 with
      | @cons b0 _ bs _ r0 b2 =>
      have b1' : H4 D2 = some (.lst ((b0 :: bs).map V.ref)) := s4 _ _ b1
      have m1' := s4 _ _ m1
      have r0' : SqT K H4 b0 [.int a, .int b] := (imm_of_same s4).sqT r0
      have lb : bs.length = r.length := paired_len b2
      rw [List.length_cons] at bl
      walk_at "rd"
      refine rTruL (SqL.of b1') ?_
      refine rF rfl ?_
      walk_at "rd"
      rcases stp with ⟨kw, rfl, fk, st', want', lk', ea', pk'⟩ | ⟨rfl, bad⟩
      · refine .inl ⟨b0, kw, a, b, rfl, r0', pab.1, pab.2, fun bb eb => ?_⟩
        rw [fk] at eb
        subst eb
        walk_at "rd"
        refine rAppend_ m1' (lt_line (by rw [List.length_map]; omega)) fun H5 c5 e5 => ?_
        have b15 := c5.2 _ _ ne b1'
        have r5 := c5.1.sqT r0'
        walk_at "rd"
        refine ⟨b0, kw, a, b, rfl, r5, fun D3 as3 H6 s6 nD3 e6 p6 => ?_⟩
        have b16 := s6 _ _ b15
        walk_at "rd"
        refine rSlL_ (SqL.of b16) fun D4 H7 nD4 s7 e7 => ?_
        rw [show (some (1 : Int)) = some ((1 : Nat) : Int) from rfl, cut_from] at e7
        have l3 : (kw.behind a b).length ≤ 2 := by cases kw <;> simp [Kw.behind]
        have la3 : as3.length ≤ 2 := by rw [paired_len p6]; exact l3
        refine rCatL_ (s7 _ _ e6) e7 (by simp; omega) fun D5 H8 nD5 s8 e8 => ?_
        have s05 : Same H H5 := same_chg (s3.trans s4) c5 nD1'
        have s58 := s6.trans (s7.trans s8)
        walk_at "rd"
        refine ⟨st', want', as ++ [b0], as3 ++ bs, D5, _, _, rfl, s05.trans s58, by rw [List.map_append]; exact s58 _ _ e5, by rw [List.length_append, ml]; rfl, ?_, ?_, ?_, ?_, pk', lk', ?_⟩
        · rw [List.map_append]
          exact e8
        · rw [ea']
          exact paired_app (Paired.mapP (F := SizeAt K H6) p6 fun a s z => (imm_of_same (s7.trans s8)).sqT z) (Paired.mapP (F := SizeAt K H3) b2 fun a s z => (imm_of_same s58).sqT (c5.1.sqT ((imm_of_same s4).sqT z)))
        · exact (ne_of_none ((s6.trans s7) _ _ e5) nD5).symm
        · exact s05.free ((s6.trans s7).free nD5)
        · rw [ea', List.length_append]
          omega
      · rcases bad with ⟨kw, rfl, fk⟩ | ⟨nc, nn⟩
        · refine .inl ⟨b0, kw, a, b, rfl, r0', pab.1, pab.2, fun bb eb => ?_⟩
          rw [fk] at eb
          subst eb
          walk_at "rd"
          refine rRaiseP ⟨.int n, rfl, qRaiseP (by omega) fun d hd => ?_⟩
          exact q d _ ((s3.trans s4).trans (same_add hd)) upd_same
        · refine .inr ⟨b0, _, rfl, nc, nn, ?_⟩
          walk_at "rd"
          refine rRaiseP ⟨.int n, rfl, qRaiseP (by omega) fun d hd => ?_⟩
          exact q d _ ((s3.trans s4).trans (same_add hd)) upd_same
    · rintro _ H3 ⟨st, want, as, bs, D2, o4, o5, rfl, s3, m1, ml, b1, b2, ne, nD2, pk, lk, bl⟩
      rw [ws_len, List.drop_length] at lk
      cases want <;> rw [look] at lk <;> cases lk
  · walk_at "rd"
    exact ⟨ps, a, b, rfl, hps, fun z => absurd z (by rw [no]; decide), fun _ => q⟩

theorem br_word_sizes : ∀ vs H Q E, spA K (ecP a_BadSize a_BadSaying) (aSizesX) vs H Q E → (spSizesX K a_BadSize a_BadSaying) vs H Q E := by
  rintro vs H Q E ⟨ro, as, Φ, Ψ, pr, rw0, ⟨l, a, b, rfl, few, z, q⟩, hQ, hE⟩
  obtain ⟨v, u, rfl, d1, d2⟩ := arg2 pr
  obtain ⟨ps, rfl, hps⟩ := dp_s2 d1
  obtain ⟨p, rfl, hp⟩ := dp_ws d2
  cases ok : okS a b with
  | false => exact .inr (.inr ⟨ps, p, a, b, rfl, hps, ok, hE .size _ _ H (z ok) (Eff.refl _ _) rw0 (.inl ⟨rfl, rfl, rfl⟩)⟩)
  | true =>
    obtain ⟨w, h, rfl, rfl, sw, sh⟩ := okS_true ok
    obtain ⟨q1, q2⟩ := q w h rfl rfl sw sh
    cases lk : look [(w, h)] false 0 l with
    | inl n => exact .inr (.inl ⟨ps, p, l, w, h, n, rfl, hps, sw, sh, hp, by omega, lk, fun d H' s e => hE (.saying n) _ _ H' (q1 n lk) (Eff.of s) (rowSame rw0 s) (.inr ⟨n, d, rfl, rfl, rfl, e⟩)⟩)
    | inr m =>
      obtain ⟨t, okt, et⟩ := look_saying lk
      have lf := look_few _ _ _ _ _ lk
      have lt : t.wds.length ≤ 50000 := by
        rw [et, List.length_append, List.length_replicate]
        have e : [(w, h)].length + (false : Bool).toNat = 1 := rfl
        omega
      exact .inl ⟨ps, p, l, t, w, h, rfl, hps, sw, sh, hp, short_app et, okt, lt, fun D as H' s nD eD pz => hQ _ _ H' (q2 m lk t okt et) (Eff.of s) (rowSame rw0 s) ⟨D, _, rfl, nD, eD, immAll_map (fun _ => rfl) _, sizes_dp pz⟩⟩
/-! ### need_saying -/
abbrev s_need_saying : Stmt := topS 13
theorem sc_need_saying : FnScope ["size", "words"] ["size", "words"] (defScope s_need_saying) := ⟨rfl, rfl, rfl, by decide +kernel, rfl, by decide +kernel, by decide +kernel⟩
def aNeedSayX : ASp := fun as Φ Ψ => ∃ (l : List Str) (a b : Int), as = [.d (dS2 a b), .d (dWs l)] ∧ l.length ≤ 5000 ∧ Asks a b l Ψ fun _ _ _ => Φ (.d .none)

theorem ok_need_saying {f : Addr} {fd : FuncData} {k : Nat} (F : Fun K "need_saying" "need_saying" s_need_saying f fd) {a_BadSize : Addr} (e_BadSize : ErrC K mg "BadSize" a_BadSize) {a_BadSaying : Addr} (m_BadSaying : mg "BadSaying" = some (.ref a_BadSaying)) {a_word_sizes : Addr} {fd_word_sizes : FuncData} (G_word_sizes : FnOk P w K mg base (L2.CX P w) k a_word_sizes fd_word_sizes ["size", "words"] (spA K (ecP a_BadSize a_BadSaying) (aSizesX))) (m_word_sizes : mg "word_sizes" = some (.ref a_word_sizes)) (k_word_sizes : PySem.W.keepIn K (.ref a_word_sizes) = true) (b_word_sizes : Binds K fd_word_sizes ["size", "words"] []) : FnOk P w K mg base (L2.CX P w) (k + 1) f fd ["size", "words"] (spA K (ecP a_BadSize a_BadSaying) (aNeedSayX)) := by
  refine F.okX sc_need_saying (spA_len (n := 2) fun as Φ Ψ h => ?_) (fun cdv A outer s H vs Q E hr h => ?_)
  · obtain ⟨l, a, b, rfl, _⟩ := h; rfl
  refine ⟨_, (pss_one (ps_expr (pe_call (E := E) G_word_sizes hr (by rfl) m_word_sizes k_word_sizes b_word_sizes .nil (passes_call (takes_of rfl rfl rfl rfl) fun _ _ _ _ h => h) (pa_cons (pv 0) (pa_cons (pv 1) pa_nil))))), ?_⟩
  refine runA h fun F _ eE as Φ ha => ?_
  subst eE
  refine ⟨_, inferInstance, ?_⟩
  obtain ⟨l, a, b, rfl, few, z, q⟩ := ha
  walk_at "aw"
  refine ⟨l, a, b, rfl, few, z, fun w h ea eb sw sh => ⟨(q w h ea eb sw sh).1, fun m e t _ _ => ?_⟩⟩
  have q := (q w h ea eb sw sh).2 m e
  walk_at "aw"
  exact q
/-! ### read -/
abbrev s_read : Stmt := topS 20
theorem sc_read : FnScope ["size", "text", "words"] ["size", "text"] (defScope s_read) := ⟨rfl, rfl, rfl, by decide +kernel, rfl, by decide +kernel, by decide +kernel⟩
def aReadX : ASp := fun as Φ Ψ => ∃ (T : Str) (a b : Int), as = [.d (dS2 a b), .d (.str T)] ∧ T.length ≤ 100000 ∧ (prt T).length ≤ 5000 ∧ Asks a b (prt T) Ψ fun _ _ _ => Φ (.d (dWs (prt T)))

theorem ok_read {f : Addr} {fd : FuncData} {k : Nat} (F : Fun K "read" "read" s_read f fd) {a_BadSize : Addr} (e_BadSize : ErrC K mg "BadSize" a_BadSize) {a_BadSaying : Addr} (m_BadSaying : mg "BadSaying" = some (.ref a_BadSaying)) (m_tuple : mg "tuple" = none) {a_need_saying : Addr} {fd_need_saying : FuncData} (G_need_saying : FnOk P w K mg base (L2.CX P w) k a_need_saying fd_need_saying ["size", "words"] (spA K (ecP a_BadSize a_BadSaying) (aNeedSayX))) (m_need_saying : mg "need_saying" = some (.ref a_need_saying)) (k_need_saying : PySem.W.keepIn K (.ref a_need_saying) = true) (b_need_saying : Binds K fd_need_saying ["size", "words"] []) {k_BLANK : Tok} (m_BLANK : mg "BLANK" = some (.str " " k_BLANK)) : FnOk P w K mg base (L2.CX P w) (k + 1) f fd ["size", "text"] (spA K (ecP a_BadSize a_BadSaying) (aReadX)) := by
  refine F.okX sc_read (spA_len (n := 2) fun as Φ Ψ h => ?_) (fun cdv A outer s H vs Q E hr h => ?_)
  · obtain ⟨T, a, b, rfl, _⟩ := h; rfl
  refine ⟨_, (pss_cons (ps_set (i := 2) sc_read.nd rfl (.inl rfl) (pe_ifExp (k_truth K (pv 1) (by intro _; rfl)) (pe_callTy (k_tuple K) (by rfl) m_tuple (by decide +kernel) (pa_cons (k_bm K PySem.F.plainAttrs_str PySem.F.slot_str_split PySem.F.type_str_split k_split (pv 1) (pa_cons (pe_glob (v := .str " ") rfl m_BLANK ⟨_, rfl⟩) pa_nil)) pa_nil)) (pe_tup pa_nil)))
  (pss_cons (ps_expr (pe_call (E := E) G_need_saying hr (by rfl) m_need_saying k_need_saying b_need_saying .nil (passes_call (takes_of rfl rfl rfl rfl) fun _ _ _ _ h => h) (pa_cons (pv 0) (pa_cons (pv 2) pa_nil))))
  (pss_one (ps_ret (pv 2))))), ?_⟩
  refine runA h fun F _ eE as Φ ha => ?_
  subst eE
  refine ⟨_, inferInstance, ?_⟩
  obtain ⟨T, a, b, rfl, room, few, z, q⟩ := ha
  walk_at "aw"
  by_cases e0 : T.length = 0
  · have ep : prt T = [] := if_pos e0
    rw [ep] at q
    refine ⟨false, ⟨by omega, by rw [e0]; rfl⟩, ?_⟩
    walk_at "aw"
    refine ⟨[], a, b, rfl, by simp, z, fun w h ea eb sw sh => ⟨(q w h ea eb sw sh).1, fun m e => ?_⟩⟩
    have q := (q w h ea eb sw sh).2 m e
    walk_at "aw"
    exact q
  · have ep : prt T = Txt.split T (" " : Str) := if_neg e0
    rw [ep] at q few
    have rm : T.length ≤ sizeLine := Nat.le_trans room (by rw [sizeLine_eq]; decide)
    refine ⟨true, ⟨rm, (bne_iff_ne.mpr (by omega)).symm⟩, ?_⟩
    walk_at "aw"
    refine wSplit (by decide +kernel) (by rw [sizeLine_eq]; omega) ?_
    walk_at "aw"
    refine wTupL (xs := (Txt.split T (" " : Str)).map PyData.str) rfl (immAll_map (f := PyData.str) (fun _ => rfl) _) ?_
    walk_at "aw"
    refine ⟨Txt.split T (" " : Str), a, b, rfl, few, z, fun w h ea eb sw sh => ⟨(q w h ea eb sw sh).1, fun m e => ?_⟩⟩
    have q := (q w h ea eb sw sh).2 m e
    walk_at "aw"
    exact q
/-! ### written -/
abbrev s_written : Stmt := topS 19
theorem sc_written : FnScope ["size", "words"] ["size", "words"] (defScope s_written) := ⟨rfl, rfl, rfl, by decide +kernel, rfl, by decide +kernel, by decide +kernel⟩
def aWrittenX : ASp := fun as Φ Ψ => ∃ (l : List Str) (a b : Int), as = [.d (dS2 a b), .d (dWs l)] ∧ l.length ≤ 5000 ∧ (l.map (·.length)).sum + l.length * Str.length (" " : Str) ≤ 16777216 ∧ Asks a b l Ψ fun _ _ _ => Φ (.d (.str (Txt.join " " l)))

theorem ok_written {f : Addr} {fd : FuncData} {k : Nat} (F : Fun K "written" "written" s_written f fd) {a_BadSize : Addr} (e_BadSize : ErrC K mg "BadSize" a_BadSize) {a_BadSaying : Addr} (m_BadSaying : mg "BadSaying" = some (.ref a_BadSaying)) {a_need_saying : Addr} {fd_need_saying : FuncData} (G_need_saying : FnOk P w K mg base (L2.CX P w) k a_need_saying fd_need_saying ["size", "words"] (spA K (ecP a_BadSize a_BadSaying) (aNeedSayX))) (m_need_saying : mg "need_saying" = some (.ref a_need_saying)) (k_need_saying : PySem.W.keepIn K (.ref a_need_saying) = true) (b_need_saying : Binds K fd_need_saying ["size", "words"] []) {k_BLANK : Tok} (m_BLANK : mg "BLANK" = some (.str " " k_BLANK)) : FnOk P w K mg base (L2.CX P w) (k + 1) f fd ["size", "words"] (spA K (ecP a_BadSize a_BadSaying) (aWrittenX)) := by
  refine F.okX sc_written (spA_len (n := 2) fun as Φ Ψ h => ?_) (fun cdv A outer s H vs Q E hr h => ?_)
  · obtain ⟨l, a, b, rfl, _⟩ := h; rfl
  refine ⟨_, (pss_cons (ps_expr (pe_call (E := E) G_need_saying hr (by rfl) m_need_saying k_need_saying b_need_saying .nil (passes_call (takes_of rfl rfl rfl rfl) fun _ _ _ _ h => h) (pa_cons (pv 0) (pa_cons (pv 1) pa_nil))))
  (pss_one (ps_ret (k_bm K PySem.F.plainAttrs_str PySem.F.slot_str_join PySem.F.type_str_join (k_join K) (pe_glob (v := .str " ") rfl m_BLANK ⟨_, rfl⟩) (pa_cons (pv 1) pa_nil))))), ?_⟩
  refine runA h fun F _ eE as Φ ha => ?_
  subst eE
  refine ⟨_, inferInstance, ?_⟩
  obtain ⟨l, a, b, rfl, few, fit, z, q⟩ := ha
  walk_at "aw"
  refine ⟨l, a, b, rfl, few, z, fun w h ea eb sw sh => ⟨(q w h ea eb sw sh).1, fun m e => ?_⟩⟩
  have q := (q w h ea eb sw sh).2 m e
  walk_at "aw"
  refine wJoin (ys := l) rfl fit ?_
  walk_at "aw"
  exact q
/-! ### _law_changed -/
abbrev s__law_changed : Stmt := topS 32
theorem sc__law_changed : FnScope ["_law_row", "_law_text", "_law_at", "_law_sign", "_law_way", "_law_words", "_law_k"] ["_law_row", "_law_text"] (defScope s__law_changed) := ⟨rfl, rfl, rfl, by decide +kernel, rfl, by decide +kernel, by decide +kernel⟩
def aChangedT : ASp := fun as Φ _ => ∃ T : Str, as = [.row, .d (.str T)] ∧ T.length ≤ 3000 ∧ ∀ T' : Str, (∀ p, ctP p T' ≤ 2 * ctP p T + 20) → Φ (.d (.str T'))

theorem ok__law_changed {f : Addr} {fd : FuncData} {k : Nat} (F : Fun K "_law_changed" "_law_changed" s__law_changed f fd) (m_len : mg "len" = none) {a__law_taken : Addr} {fd__law_taken : FuncData} (G__law_taken : FnOk P w K mg base CX0 k a__law_taken fd__law_taken ["_law_row", "_law_many"] (spA K ec0 (aTaken))) (m__law_taken : mg "_law_taken" = some (.ref a__law_taken)) (k__law_taken : PySem.W.keepIn K (.ref a__law_taken) = true) (b__law_taken : Binds K fd__law_taken ["_law_row", "_law_many"] []) : FnOk P w K mg base CX0 (k + 1) f fd ["_law_row", "_law_text"] (spA K ec0 (aChangedT)) := by
  refine F.ok sc__law_changed (spA_len (n := 2) fun as Φ Ψ h => ?_) (fun cdv A outer s H vs Q E hr h => ?_)
  · obtain ⟨T, rfl, _⟩ := h; rfl
  refine ⟨_, (pss_cons (ps_set (i := 2) sc__law_changed.nd rfl (.inl rfl) (pe_call G__law_taken hr (by rfl) m__law_taken k__law_taken b__law_taken .nil pass0 (pa_cons (pv 0) (pa_cons (pe_op op_add (pe_callB k_lenSt (by rfl) m_len (by decide +kernel) (pa_cons (pv 1) pa_nil)) pe_int) pa_nil))))
  (pss_cons (ps_set (i := 3) sc__law_changed.nd rfl (.inl rfl) (pe_ix ix_str pe_str (pe_call G__law_taken hr (by rfl) m__law_taken k__law_taken b__law_taken .nil pass0 (pa_cons (pv 0) (pa_cons pe_int pa_nil))) (fun _ _ => rfl)))
  (pss_cons (ps_set (i := 4) sc__law_changed.nd rfl (.inl rfl) (pe_call G__law_taken hr (by rfl) m__law_taken k__law_taken b__law_taken .nil pass0 (pa_cons (pv 0) (pa_cons pe_int pa_nil))))
  (pss_cons (ps_if (pt_cmpR op_lt (pv 4) pe_int (nomark _))
    (pss_one (ps_ret (pe_op k_catSt (pe_op k_catSt (pe_slice sl_str (pv 1) po_none (po_some (pv 2))) (pe_ix (k_ixL K) (pe_lst (pa_cons (pv 3) (pa_cons pe_str (pa_cons pe_str pa_nil)))) (pv 4) (fun _ _ => rfl))) (pe_slice sl_str (pv 1) (po_some (pe_op op_add (pv 2) (pe_ix (k_ixL K) (pe_lst (pa_cons pe_int (pa_cons pe_int (pa_cons pe_int pa_nil)))) (pv 4) (fun _ _ => rfl)))) po_none))))
    pss_nil)
  (pss_cons (ps_set (i := 5) sc__law_changed.nd rfl (.inl rfl) (k_bm K PySem.F.plainAttrs_str PySem.F.slot_str_split PySem.F.type_str_split k_split (pv 1) (pa_cons pe_str pa_nil)))
  (pss_cons (ps_set (i := 6) sc__law_changed.nd rfl (.inl rfl) (pe_call G__law_taken hr (by rfl) m__law_taken k__law_taken b__law_taken .nil pass0 (pa_cons (pv 0) (pa_cons (pe_callB (k_len K) (by rfl) m_len (by decide +kernel) (pa_cons (pv 5) pa_nil)) pa_nil))))
  (pss_cons (ps_if (pt_cmpR op_eq (pv 4) pe_int (nomark _))
    (pss_one (ps_ret (k_bm K PySem.F.plainAttrs_str PySem.F.slot_str_join PySem.F.type_str_join (k_joinL K) pe_str (pa_cons (pe_op op_cat (pe_slice (k_slL K) (pv 5) po_none (po_some (pv 6))) (pe_slice (k_slL K) (pv 5) (po_some (pe_op op_add (pv 6) pe_int)) po_none)) pa_nil))))
    pss_nil)
  (pss_cons (ps_if (pt_cmpR op_eq (pv 4) pe_int (nomark _))
    (pss_one (ps_ret (k_bm K PySem.F.plainAttrs_str PySem.F.slot_str_join PySem.F.type_str_join (k_joinL K) pe_str (pa_cons (pe_op op_cat (pe_slice (k_slL K) (pv 5) po_none (po_some (pe_op op_add (pv 6) pe_int))) (pe_slice (k_slL K) (pv 5) (po_some (pv 6)) po_none)) pa_nil))))
    pss_nil)
  (pss_one (ps_ret (pe_ix (k_ixL K) (pe_lst (pa_cons pe_str (pa_cons pe_str (pa_cons pe_str (pa_cons pe_str (pa_cons pe_str (pa_cons pe_str (pa_cons pe_str (pa_cons pe_str pa_nil))))))))) (pe_call G__law_taken hr (by rfl) m__law_taken k__law_taken b__law_taken .nil pass0 (pa_cons (pv 0) (pa_cons pe_int pa_nil))) (fun _ _ => rfl)))))))))))), ?_⟩
  refine runA h fun F _ _ as Φ ha => ⟨_, inferInstance, ?_⟩
  obtain ⟨T, rfl, few, q⟩ := ha
  walk_at "aw"
  refine wLenSt (by omega) ?_
  walk_at "aw"
  refine ⟨((T.length : Nat) : Int) + 1, rfl, by omega, by omega, fun at_ a0 a1 => ?_⟩
  walk_at "aw"
  refine ⟨18, rfl, by decide, by decide, fun s s0 s18 => ?_⟩
  obtain ⟨s, rfl⟩ := Int.eq_ofNat_of_zero_le s0
  have l18 : ("abdehlorptuwy RW.-" : Str).cps.toList.length = 18 := by decide +kernel
  obtain ⟨c, ec⟩ : ∃ c, ("abdehlorptuwy RW.-" : Str).cps.toList[s]? = some c := ⟨_, List.getElem?_eq_getElem (by omega)⟩
  refine wIxSt (by decide +kernel) (atI_nat ec) ?_
  clear l18 ec s0 s18
  walk_at "aw"
  refine ⟨6, rfl, by decide, by decide, fun way w0 w6 => ?_⟩
  walk_at "aw"
  refine rIte (fun lt3 => ?_) (fun ge3 => ?_)
  · walk_at "aw"
    refine wSlSt (by omega) ?_
    walk_at "aw"
    refine wIxStrs (l := [⟨#[c]⟩, "", " "]) rfl w0 lt3 fun x mx => ?_
    have lx : x.length ≤ 1 := by
      simp only [List.mem_cons, List.not_mem_nil, or_false] at mx
      rcases mx with rfl | rfl | rfl
      · exact Nat.le_refl 1
      · decide +kernel
      · decide +kernel
    have c1 := cutS_length T none (some at_)
    refine wCatSt (by omega) ?_
    walk_at "aw"
    refine wIxInts (l := [0, 1, 1]) rfl w0 lt3 fun y my => ?_
    walk_at "aw"
    refine wSlSt (by omega) ?_
    have c2 := cutS_length T (some (at_ + y)) none
    refine wCatSt (by rw [Str.length_append]; omega) ?_
    walk_at "aw"
    refine q _ fun p => ?_
    have h1 := ctP_cut p T none (some at_)
    have h2 := ctP_cut p T (some (at_ + y)) none
    have h3 := ctP_le p x
    rw [ctP_app, ctP_app]
    omega
  · walk_at "aw"
    refine wSplit (by decide +kernel) (by rw [sizeLine_eq]; omega) ?_
    have pn : Txt.split T (" " : Str) ≠ [] := by rw [blank_eq]; exact split_ne _ _
    have p0 : 0 < (Txt.split T (" " : Str)).length := List.length_pos_iff.mpr pn
    have p1 := split_parts T
    have p2 : nb T ≤ T.length := ctP_le _ T
    have fit := two_fit few
    have two := fun p => ctP_two p T
    generalize Txt.split T (" " : Str) = l at p0 p1 fit two
    clear pn
    walk_at "aw"
    refine ⟨((l.length : Nat) : Int), by rw [List.length_map], by omega, by omega, fun k k0 k1 => ?_⟩
    obtain ⟨k, rfl⟩ := Int.eq_ofNat_of_zero_le k0
    have tk : ∀ n : Nat, cutP (l.map PyData.str) none (some (n : Int)) = (l.take n).map PyData.str := fun n => by rw [List.map_take]; exact cutP_to _ n
    have dk : ∀ n : Nat, cutP (l.map PyData.str) (some (n : Int)) none = (l.drop n).map PyData.str := fun n => by rw [List.map_drop]; exact cutP_from _ n
    have ck : ∀ n m : Nat, ((l.take n).map PyData.str).length + ((l.drop m).map PyData.str).length ≤ 100000 := fun n m => by
      rw [List.length_map, List.length_map, List.length_take, List.length_drop]
      omega
    walk_at "aw"
    refine rIte (fun e3 => ?_) (fun n3 => ?_)
    · walk_at "aw"
      refine wSlL ?_
      walk_at "aw"
      refine wSlL ?_
      rw [tk, show ((k : Int) + 1) = ((k + 1 : Nat) : Int) from rfl, dk]
      refine wCatL (ck _ _) ?_
      rw [← List.map_append]
      refine wJoinL (fit _ _) ?_
      walk_at "aw"
      refine q _ fun p => ?_
      have := two p k (k + 1)
      omega
    · walk_at "aw"
      refine rIte (fun e4 => ?_) (fun n4 => ?_)
      · walk_at "aw"
        refine wSlL ?_
        walk_at "aw"
        refine wSlL ?_
        rw [show ((k : Int) + 1) = ((k + 1 : Nat) : Int) from rfl, tk, dk]
        refine wCatL (ck _ _) ?_
        rw [← List.map_append]
        refine wJoinL (fit _ _) ?_
        walk_at "aw"
        refine q _ fun p => ?_
        have := two p (k + 1) k
        omega
      · walk_at "aw"
        refine ⟨8, rfl, by decide, by decide, fun j j0 j8 => ?_⟩
        refine wIxStrs (l := ["", " ", "white ", " white", "red  red", "party", "Red", "edge edge"]) rfl j0 j8 fun x mx => ?_
        have lx : x.length ≤ 9 := by
          simp only [List.mem_cons, List.not_mem_nil, or_false] at mx
          rcases mx with rfl | rfl | rfl | rfl | rfl | rfl | rfl | rfl <;> decide +kernel
        walk_at "aw"
        refine q _ fun p => ?_
        have := ctP_le p x
        omega
/-! ### _law_looked -/
abbrev s__law_looked : Stmt := topS 30
theorem sc__law_looked : FnScope ["_law_words", "_law_size_here", "_law_left", "_law_full", "_law_want", "_law_at", "_law_word", "_law_colour_here", "_law_part_here"] ["_law_words", "_law_size_here"] (defScope s__law_looked) := ⟨rfl, rfl, rfl, by decide +kernel, rfl, by decide +kernel, by decide +kernel⟩
def aLooked : ASp := fun as Φ _ => ∃ (l : List Str) (w h : Nat), as = [.d (dWs l), .d (dSz w h)] ∧ Side w ∧ Side h ∧ l.length ≤ 900 ∧
  (∀ n, look [(w, h)] false 0 l = .inl n → Φ (.d (.tuple [.int (n : Nat), .none]))) ∧ ∀ m, look [(w, h)] false 0 l = .inr m → Φ (.d (.tuple [.none, dWs (l ++ List.replicate m Co.white.s)]))
def Nw.isD : Nw → Bool | .d _ => true | .p _ => false
theorem inV_nwD (x : Nw) : inV (.str x.s) [.str "party", .str "cut", .str "quartered"] = x.isD := by rcases x with x | x <;> cases x <;> decide +kernel
theorem cutP_one (xs : List PyData) (n : Nat) : cutP xs (some (n : Int)) (some ((n : Int) + 1)) = (xs.drop n).take 1 := by
  unfold cutP
  rw [show ((n : Int) + 1) = ((n + 1 : Nat) : Int) from rfl, HT.sIx_nat, HT.sIx_nat]
  by_cases h : n + 1 ≤ xs.length
  · rw [show min n xs.length = n by omega, show min (n + 1) xs.length = n + 1 by omega, Nat.add_sub_cancel_left]
  · rw [show min n xs.length = xs.length by omega, show min (n + 1) xs.length = xs.length by omega, List.drop_length, List.drop_of_length_le (by omega), List.take_nil, List.take_nil]
theorem one_wd (l : List Str) (n : Nat) : PyData.tuple (cutP (l.map PyData.str) (some (n : Int)) (some ((n : Int) + 1))) = dWs ((l.drop n).take 1) := by
  rw [cutP_one, ← List.map_drop, ← List.map_take]
  rfl
theorem one_at (l : List Str) (n : Nat) : atI (((l.drop n).take 1).map PyData.str ++ [.str Co.white.s]) 0 = some (.str (l.getD n Co.white.s)) := by
  refine atI_nat (j := 0) ?_
  cases e : l.drop n with
  | nil =>
    have : l.length ≤ n := by simpa using e
    rw [List.getD_eq_getElem?_getD, List.getElem?_eq_none this]
    rfl
  | cons x r =>
    have : l[n]? = some x := by
      have := congrArg (fun z => z[0]?) e
      simpa [List.getElem?_drop] using this
    rw [List.getD_eq_getElem?_getD, this]
    rfl
theorem isCo_white : isCoW Co.white.s = true := by decide +kernel
/-- a step of the look -/
theorem look_in {l : List Str} {i : Nat} (h : i < l.length) : l.drop i = l.getD i Co.white.s :: l.drop (i + 1) := by
  rw [List.drop_eq_getElem_cons h, List.getD_eq_getElem?_getD, List.getElem?_eq_getElem h]
  rfl
theorem look_out {l : List Str} {i : Nat} (h : l.length ≤ i) : l.getD i Co.white.s = Co.white.s := by
  rw [List.getD_eq_getElem?_getD, List.getElem?_eq_none h]; rfl
theorem full_next (l : List Str) (i : Nat) : l.take i ++ List.replicate (i - l.length) Co.white.s ++ [l.getD i Co.white.s] = l.take (i + 1) ++ List.replicate (i + 1 - l.length) Co.white.s := by
  by_cases h : i < l.length
  · rw [show i - l.length = 0 by omega, show i + 1 - l.length = 0 by omega, List.replicate_zero, List.append_nil, List.append_nil, List.take_succ_eq_append_getElem h, List.getD_eq_getElem?_getD, List.getElem?_eq_getElem h]
    rfl
  · rw [look_out (by omega), List.take_of_length_le (by omega), List.take_of_length_le (by omega), show i + 1 - l.length = (i - l.length) + 1 by omega, List.replicate_succ', List.append_assoc]
theorem lk_want {st : List (Nat × Nat)} {l : List Str} {i : Nat} (co : isCoW (l.getD i Co.white.s) = true) : plusR (i - l.length) (look st true i (l.drop i)) = plusR (i + 1 - l.length) (look st false (i + 1) (l.drop (i + 1))) := by
  by_cases h : i < l.length
  · rw [look_in h, look, if_pos co, show i - l.length = i + 1 - l.length by omega]
  · rw [List.drop_of_length_le (by omega), List.drop_of_length_le (by omega)]
    unfold look plusR
    simp
    omega
theorem lk_pop {a b : Nat} {r : List (Nat × Nat)} {l : List Str} {i : Nat} (co : isCoW (l.getD i Co.white.s) = true) : plusR (i - l.length) (look ((a, b) :: r) false i (l.drop i)) = plusR (i + 1 - l.length) (look r false (i + 1) (l.drop (i + 1))) := by
  by_cases h : i < l.length
  · rw [look_in h, look, if_pos co, show i - l.length = i + 1 - l.length by omega]
  · rw [List.drop_of_length_le (by omega), List.drop_of_length_le (by omega)]
    unfold look plusR
    simp
    omega
theorem lk_in {l : List Str} {i : Nat} (co : isCoW (l.getD i Co.white.s) = false) : i < l.length := by
  refine Nat.lt_of_not_le fun h => ?_
  rw [look_out h, isCo_white] at co
  cases co
theorem lk_no {st : List (Nat × Nat)} {l : List Str} {i : Nat} (co : isCoW (l.getD i Co.white.s) = false) : plusR (i - l.length) (look st true i (l.drop i)) = .inl i := by
  rw [look_in (lk_in co), look, if_neg (by rw [co]; decide)]
  rfl
theorem lk_bad {a b : Nat} {r : List (Nat × Nat)} {l : List Str} {i : Nat} (co : isCoW (l.getD i Co.white.s) = false) (no : ∀ x, nwOf (l.getD i Co.white.s) = some x → x.fits a b = false) : plusR (i - l.length) (look ((a, b) :: r) false i (l.drop i)) = .inl i := by
  rw [look_in (lk_in co), look, if_neg (by rw [co]; decide)]
  cases e : nwOf (l.getD i Co.white.s) with
  | none => rfl
  | some x =>
    show plusR _ (if x.fits a b = true then _ else _) = _
    rw [if_neg (by rw [no x e]; decide)]
    rfl
theorem lk_d {a b : Nat} {r : List (Nat × Nat)} {l : List Str} {i : Nat} {d : Du} (co : isCoW (l.getD i Co.white.s) = false) (e : nwOf (l.getD i Co.white.s) = some (.d d)) (f : (Nw.d d).fits a b = true) : plusR (i - l.length) (look ((a, b) :: r) false i (l.drop i)) = plusR (i + 1 - l.length) (look ((d.pw a, d.ph b) :: (d.pw a, d.ph b) :: r) false (i + 1) (l.drop (i + 1))) := by
  have := lk_in co
  rw [look_in this, look, if_neg (by rw [co]; decide), e]
  show plusR _ (if (Nw.d d).fits a b = true then _ else _) = _
  rw [if_pos f, show i - l.length = i + 1 - l.length by omega]
theorem lk_p {a b : Nat} {r : List (Nat × Nat)} {l : List Str} {i : Nat} {d : Pi} (co : isCoW (l.getD i Co.white.s) = false) (e : nwOf (l.getD i Co.white.s) = some (.p d)) (f : (Nw.p d).fits a b = true) : plusR (i - l.length) (look ((a, b) :: r) false i (l.drop i)) = plusR (i + 1 - l.length) (look ((a, b) :: r) true (i + 1) (l.drop (i + 1))) := by
  have := lk_in co
  rw [look_in this, look, if_neg (by rw [co]; decide), e]
  show plusR _ (if (Nw.p d).fits a b = true then _ else _) = _
  rw [if_pos f, show i - l.length = i + 1 - l.length by omega]
theorem lk_end {l : List Str} {i : Nat} (h : i < l.length) : plusR (i - l.length) (look [] false i (l.drop i)) = .inl i := by
  rw [look_in h, look]
  rfl
theorem dat_szL : Dat dSzL 1 := dat_nat.two dat_nat
theorem next_wds (l : List Str) (i : Nat) : PyData.tuple ((l.take i ++ List.replicate (i - l.length) Co.white.s).map PyData.str ++ [.str (l.getD i Co.white.s)]) = dWs (l.take (i + 1) ++ List.replicate (i + 1 - l.length) Co.white.s) := by
  rw [← full_next]
  unfold dWs
  rw [List.map_append (l₂ := [_])]
  rfl

theorem ok__law_looked {f : Addr} {fd : FuncData} {k : Nat} (F : Fun K "_law_looked" "_law_looked" s__law_looked f fd) (m_range : mg "range" = none) (m_len : mg "len" = none) {a__law_fits : Addr} {fd__law_fits : FuncData} (G__law_fits : FnOk P w K mg base CX0 k a__law_fits fd__law_fits ["_law_size_here", "_law_word"] (spA K ec0 (aFits))) (m__law_fits : mg "_law_fits" = some (.ref a__law_fits)) (k__law_fits : PySem.W.keepIn K (.ref a__law_fits) = true) (b__law_fits : Binds K fd__law_fits ["_law_size_here", "_law_word"] []) {a__law_part : Addr} {fd__law_part : FuncData} (G__law_part : FnOk P w K mg base CX0 k a__law_part fd__law_part ["_law_size_here", "_law_word"] (spA K ec0 (aPart_))) (m__law_part : mg "_law_part" = some (.ref a__law_part)) (k__law_part : PySem.W.keepIn K (.ref a__law_part) = true) (b__law_part : Binds K fd__law_part ["_law_size_here", "_law_word"] []) : FnOk P w K mg base CX0 (k + 1) f fd ["_law_words", "_law_size_here"] (spA K ec0 (aLooked)) := by
  refine F.ok sc__law_looked (spA_len (n := 2) fun as Φ Ψ h => ?_) (fun cdv A outer s H vs Q E hr h => ?_)
  · obtain ⟨l, w, h, rfl, _⟩ := h; rfl
  refine ⟨_, (pss_cons (ps_set (i := 2) sc__law_looked.nd rfl (.inl rfl) (pe_lst (pa_cons (pv 1) pa_nil)))
  (pss_cons (ps_set (i := 3) sc__law_looked.nd rfl (.inl rfl) (pe_tup pa_nil))
  (pss_cons (ps_set (i := 4) sc__law_looked.nd rfl (.inl rfl) pe_bl)
  (pss_cons (ps_for PassesOwn.never rfl (pi_range1 rfl m_range (pa_cons (pe_op op_add (pe_callB (k_len K) (by rfl) m_len (by decide +kernel) (pa_cons (pv 0) pa_nil)) pe_int) pa_nil)) (pg_name (i := 5) sc__law_looked.nd rfl (.inl rfl))
    (pss_cons (ps_set (i := 6) sc__law_looked.nd rfl (.inl rfl) (pe_ix (k_ixT K) (pe_op (k_cat K) (pe_slice (k_slT K) (pv 0) (po_some (pv 5)) (po_some (pe_op op_add (pv 5) pe_int))) (pe_tup (pa_cons pe_str pa_nil))) pe_int (fun _ _ => rfl)))
      (pss_cons (ps_set (i := 7) sc__law_looked.nd rfl (.inl rfl) (pe_cmpR (k_in K) (pv 6) (pe_tup (pa_cons pe_str (pa_cons pe_str (pa_cons pe_str (pa_cons pe_str (pa_cons pe_str (pa_cons pe_str pa_nil))))))) (by rfl)))
      (pss_cons (ps_if (PW.pt (pw_and (pt_cmpR (k_eqD K rfl hr.units) (pv 2) (pe_lst pa_nil) (nomark _)) (pw_and1 (pt_not (pt_val (pv 4))))))
        (pss_one (ps_ret (pe_ifExp (pt_cmpR op_lt (pv 5) (pe_callB (k_len K) (by rfl) m_len (by decide +kernel) (pa_cons (pv 0) pa_nil)) (nomark _)) (pe_tup (pa_cons (pv 5) (pa_cons pe_non pa_nil))) (pe_tup (pa_cons pe_non (pa_cons (pv 3) pa_nil))))))
        pss_nil)
      (pss_cons (ps_if (PW.pt (pw_and (pt_val (pv 4)) (pw_and1 (pt_not (pt_val (pv 7))))))
        (pss_one (ps_ret (pe_tup (pa_cons (pv 5) (pa_cons pe_non pa_nil)))))
        pss_nil)
      (pss_cons (ps_if (PW.pt (pw_and (pt_not (pt_val (pv 4))) (pw_and1 (pt_not (pt_val (pv 7))))))
        (pss_cons (ps_if (pt_cmpR (k_notIn K) (pv 6) (pe_tup (pa_cons pe_str (pa_cons pe_str (pa_cons pe_str (pa_cons pe_str (pa_cons pe_str (pa_cons pe_str (pa_cons pe_str pa_nil)))))))) (by rfl))
            (pss_one (ps_ret (pe_tup (pa_cons (pv 5) (pa_cons pe_non pa_nil)))))
            pss_nil)
          (pss_cons (ps_if (pt_not (pt_val (pe_call G__law_fits hr (by rfl) m__law_fits k__law_fits b__law_fits .nil pass0 (pa_cons (pe_ix (k_ixL K) (pv 2) (pe_un un_neg pe_int) (fun _ _ => rfl)) (pa_cons (pv 6) pa_nil)))))
            (pss_one (ps_ret (pe_tup (pa_cons (pv 5) (pa_cons pe_non pa_nil)))))
            pss_nil)
          (pss_one (ps_if (pt_cmpR (k_in K) (pv 6) (pe_tup (pa_cons pe_str (pa_cons pe_str (pa_cons pe_str pa_nil)))) (by rfl))
            (pss_cons (ps_set (i := 8) sc__law_looked.nd rfl (.inl rfl) (pe_call G__law_part hr (by rfl) m__law_part k__law_part b__law_part .nil pass0 (pa_cons (k_bm0 K PySem.F.plainAttrs_list PySem.F.slot_list_pop PySem.F.type_list_pop mt_pop (pv 2)) (pa_cons (pv 6) pa_nil))))
              (pss_one (ps_expr (k_bm K PySem.F.plainAttrs_list PySem.F.slot_list_extend PySem.F.type_list_extend mt_extend (pv 2) (pa_cons (pe_lst (pa_cons (pv 8) (pa_cons (pv 8) pa_nil))) pa_nil)))))
            (pss_one (ps_set (i := 4) sc__law_looked.nd rfl (.inl rfl) pe_bl))))))
        (pss_one (ps_if (pt_val (pv 4))
            (pss_one (ps_set (i := 4) sc__law_looked.nd rfl (.inl rfl) pe_bl))
            (pss_one (ps_expr (k_bm0 K PySem.F.plainAttrs_list PySem.F.slot_list_pop PySem.F.type_list_pop mt_pop (pv 2)))))))
      (pss_one (ps_set (i := 3) sc__law_looked.nd rfl (.inl rfl) (pe_op (k_cat K) (pv 3) (pe_tup (pa_cons (pv 6) pa_nil)))))))))))
  (pss_one (ps_ret (pe_tup (pa_cons pe_non (pa_cons pe_non pa_nil))))))))), ?_⟩
  refine runA h fun F _ _ as Φ ha => ⟨_, inferInstance, ?_⟩
  obtain ⟨l, w, h, rfl, sw, sh, few, q1, q2⟩ := ha
  walk_at "aw"
  rw [show ((l.map PyData.str).length : Int) + 1000 = ((l.length + 1000 : Nat) : Int) by rw [List.length_map]; rfl]
  refine forRng (n := l.length + 1000) (by omega) (fun i ρ' => ∃ o5 o6 o7 o8 st want, ρ' = [some (.d (dWs l)), some (.d (dSz w h)), some (.l false (st.reverse.map dSzL)), some (.d (dWs (l.take i ++ List.replicate (i - l.length) Co.white.s))), some (.d (.bool want)), o5, o6, o7, o8] ∧
    look [(w, h)] false 0 l = plusR (i - l.length) (look st want i (l.drop i)) ∧ (∀ p ∈ st, Side p.1 ∧ Side p.2) ∧ st.length + want.toNat ≤ 1 + i ∧ st.length + want.toNat + (i - l.length) ≤ 1 + l.length) ⟨_, _, _, _, [(w, h)], false, by rw [Nat.zero_sub]; rfl, ?_, ?_, ?_, ?_⟩ ?_ ?_
  · rw [List.drop_zero, Nat.zero_sub]
    cases look [(w, h)] false 0 l <;> rfl
  · intro p hp
    rw [List.mem_singleton.mp hp]
    exact ⟨sw, sh⟩
  · exact Nat.le_refl 1
  · simp
  · rintro i ρ' hi ⟨o5, o6, o7, o8, st, want, rfl, lk, sd, b1, b2⟩
    walk_at "aw"
    rw [one_wd]
    refine wCatE (xs := ((l.drop i).take 1).map PyData.str) (ys := [.str Co.white.s]) rfl rfl (by rw [List.length_map, List.length_take]; show _ + 1 ≤ _; omega) ?_
    have h1 := one_at l i
    walk_at "aw"
    refine ⟨rfl, by decide, ?_⟩
    walk_at "aw"
    have eC : inV (fV (AV.d (PyData.str (l.getD i Co.white.s))).dat) (List.map fV (List.map AV.dat [AV.d (.str "black"), .d (.str "blue"), .d (.str "green"), .d (.str "red"), .d (.str "white"), .d (.str "yellow")])) = isCoW (l.getD i Co.white.s) := rfl
    rw [eC]
    refine wEqXL dat_szL (x := st.reverse) (y := []) (by decide) rfl rfl rfl rfl ?_
    walk_at "aw"
    have seven : inV (fV (AV.d (PyData.str (l.getD i Co.white.s))).dat) (List.map fV (List.map AV.dat [AV.d (.str "party"), .d (.str "cut"), .d (.str "quartered"), .d (.str "pillar"), .d (.str "band"), .d (.str "head"), .d (.str "edge")])) = (nwOf (l.getD i Co.white.s)).isSome := inV_seven _
    have nx := next_wds l i
    have lfull : ((l.take i ++ List.replicate (i - l.length) Co.white.s).map PyData.str).length + [PyData.str (l.getD i Co.white.s)].length ≤ 100000 := by
      simp only [List.length_map, List.length_append, List.length_take, List.length_replicate, List.length_singleton]
      omega
    clear eC h1
    rcases st with _ | ⟨⟨a, b⟩, r⟩
    · cases want with
      | false =>
        walk_at "aw"
        by_cases hi2 : i < l.length
        · refine rT (decide_eq_true (by rw [List.length_map]; omega)) ?_
          walk_at "aw"
          exact q1 i (lk.trans (lk_end hi2))
        · refine rF (decide_eq_false (by rw [List.length_map]; omega)) ?_
          walk_at "aw"
          have e2 : look [(w, h)] false 0 l = .inr (i - l.length) := by
            rw [lk, List.drop_of_length_le (by omega)]
            show Sum.inr (0 + 0 + (i - l.length)) = _
            simp
          show Φ (AV.d (PyData.tuple [PyData.none, dWs (l.take i ++ List.replicate (i - l.length) Co.white.s)]))
          rw [List.take_of_length_le (by omega)]
          exact q2 _ e2
      | true =>
        walk_at "aw"
        cases co : isCoW (l.getD i Co.white.s) with
        | false =>
          walk_at "aw"
          exact q1 i (lk.trans (lk_no co))
        | true =>
          walk_at "aw"
          exact ⟨_, _, _, _, [], false, by rw [← nx]; rfl, lk.trans (lk_want co), sd, by simp at b1 b2 ⊢, by simp at b1 b2 ⊢; omega⟩
    · rw [decide_eq_false (by simp)]
      walk_at "aw"
      cases want with
      | true =>
        cases co : isCoW (l.getD i Co.white.s) with
        | false =>
          walk_at "aw"
          exact q1 i (lk.trans (lk_no co))
        | true =>
          walk_at "aw"
          exact ⟨_, _, _, _, (a, b) :: r, false, by rw [← nx]; rfl, lk.trans (lk_want co), sd, by simp at b1 b2 ⊢; omega, by simp at b1 b2 ⊢; omega⟩
      | false =>
        have er : ((a, b) :: r).reverse.map dSzL = r.reverse.map dSzL ++ [dSz a b] := by rw [List.reverse_cons, List.map_append]; rfl
        have sab := sd _ List.mem_cons_self
        cases co : isCoW (l.getD i Co.white.s) with
        | true =>
          walk_at "aw"
          refine ⟨r.reverse.map dSzL, dSz a b, congrArg (fun z => some (some (AV.l false z))) er, ?_⟩
          walk_at "aw"
          exact ⟨_, _, _, _, r, false, by rw [← nx]; rfl, lk.trans (lk_pop co), fun p hp => sd p (List.mem_cons_of_mem _ hp), by simp at b1 b2 ⊢; omega, by simp at b1 b2 ⊢; omega⟩
        | false =>
          walk_at "aw"
          refine ⟨rfl, by decide, ?_⟩
          walk_at "aw"
          rw [seven]
          cases e : nwOf (l.getD i Co.white.s) with
          | none =>
            walk_at "aw"
            exact q1 i (lk.trans (lk_bad co fun x hx => by rw [e] at hx; cases hx))
          | some x =>
            have ex : l.getD i Co.white.s = x.s := (nwOf_some e).symm
            walk_at "aw"
            refine wIxL (xs := r.reverse.map dSzL ++ [dSz a b]) (e := dSz a b) (congrArg PyData.list er) (atI_last _ _) ?_
            rw [subl_im (imm_sz a b), ex]
            have nx2 := nx
            rw [ex] at nx2 lfull
            walk_at "aw"
            refine ⟨x, a, b, rfl, sab.1, sab.2, ?_⟩
            walk_at "aw"
            cases f : x.fits a b with
            | false =>
              walk_at "aw"
              exact q1 i (lk.trans (lk_bad co fun y hy => by rw [e] at hy; cases hy; exact f))
            | true =>
              have three : inV (fV (AV.d (PyData.str x.s)).dat) (List.map fV [.str "party", .str "cut", .str "quartered"]) = x.isD := inV_nwD x
              walk_at "aw"
              rw [three]
              cases x with
              | d d =>
                have sides := side_part f sab.1 sab.2
                walk_at "aw"
                refine ⟨r.reverse.map dSzL, dSz a b, congrArg (fun z => some (some (AV.l false z))) er, imm_sz a b, ?_⟩
                walk_at "aw"
                refine ⟨_, rfl, d, a, b, rfl, ?_⟩
                walk_at "aw"
                refine ⟨_, _, rfl, by simp at b1 ⊢; omega, ?_⟩
                have e5 : ((d.pw a, d.ph b) :: (d.pw a, d.ph b) :: r).reverse.map dSzL = r.reverse.map dSzL ++ [dSz (d.pw a) (d.ph b), dSz (d.pw a) (d.ph b)] := by simp [dSzL]
                walk_at "aw"
                refine ⟨_, _, _, _, (d.pw a, d.ph b) :: (d.pw a, d.ph b) :: r, false, by rw [e5, ← nx, ex]; rfl, lk.trans (lk_d co e f), fun p hp => ?_, by simp at b1 b2 ⊢; omega, by simp at b1 b2 ⊢; have := lk_in co; omega⟩
                rcases List.mem_cons.mp hp with rfl | hp
                · exact sides
                · rcases List.mem_cons.mp hp with rfl | hp
                  · exact sides
                  · exact sd p (List.mem_cons_of_mem _ hp)
              | p d =>
                walk_at "aw"
                exact ⟨_, _, _, _, (a, b) :: r, true, by rw [← nx, ex]; rfl, lk.trans (lk_p co e f), sd, by simp at b1 b2 ⊢; omega, by simp at b1 b2 ⊢; have := lk_in co; omega⟩
  · rintro ρ' ⟨o5, o6, o7, o8, st, want, rfl, lk, sd, b1, b2⟩
    omega
/-! ### _law_told -/
abbrev s__law_told : Stmt := topS 33
theorem sc__law_told : FnScope ["_law_size_here", "_law_text", "e"] ["_law_size_here", "_law_text"] (defScope s__law_told) := ⟨rfl, rfl, rfl, by decide +kernel, rfl, by decide +kernel, by decide +kernel⟩
def spTold (K : PySem.W.Frag) : Sp := fun vs H Q _ => ∃ (ps : Addr) (T : Str) (w h : Nat), vs = [.ref ps, .str T] ∧ SqT K H ps [.int w, .int h] ∧ Side w ∧ Side h ∧ T.length ≤ 100000 ∧ (prt T).length ≤ 5000 ∧
  (∀ n, look [(w, h)] false 0 (prt T) = .inl n → ∀ H', Same H H' → Q (.int (n : Nat)) H') ∧ ∀ m, look [(w, h)] false 0 (prt T) = .inr m → ∀ v H', Same H H' → Dp K H' v (dWs (prt T)) → Q v H'
def aTold : ASp := fun as Φ _ => ∃ (T : Str) (w h : Nat), as = [.d (dSz w h), .d (.str T)] ∧ Side w ∧ Side h ∧ T.length ≤ 100000 ∧ (prt T).length ≤ 5000 ∧
  (∀ n, look [(w, h)] false 0 (prt T) = .inl n → Φ (.d (.int (n : Nat)))) ∧ ∀ m, look [(w, h)] false 0 (prt T) = .inr m → Φ (.d (dWs (prt T)))

theorem ok__law_told {f : Addr} {fd : FuncData} {k : Nat} (F : Fun K "_law_told" "_law_told" s__law_told f fd) {a_BadSize : Addr} (e_BadSize : ErrC K mg "BadSize" a_BadSize) {a_BadSaying : Addr} (m_BadSaying : mg "BadSaying" = some (.ref a_BadSaying)) (xf_BadSaying : XfC K a_BadSaying) (np_BadSaying : PySem.W.findIn K (.ref a_BadSaying) "place" = some none) (xmP : PySem.W.exmOne K (.ref a_BadSaying) (.ref a_BadSaying) = some true) {a_read : Addr} {fd_read : FuncData} (G_read : FnOk P w K mg base (L2.CX P w) k a_read fd_read ["size", "text"] (spA K (ecP a_BadSize a_BadSaying) (aReadX))) (m_read : mg "read" = some (.ref a_read)) (k_read : PySem.W.keepIn K (.ref a_read) = true) (b_read : Binds K fd_read ["size", "text"] []) : FnOk P w K mg base CX0 (k + 1) f fd ["_law_size_here", "_law_text"] (spTold K) := by
  refine F.ok sc__law_told (fun vs H Q E h => ?_) (fun cdv A outer s H vs Q E hr h => ?_)
  · obtain ⟨ps, T, w, h, rfl, _⟩ := h; rfl
  refine ⟨_, (pss_one (ps_try_as (i := 2) rfl rfl sc__law_told.nd rfl rfl ⟨rfl, by decide, .inl m_BadSaying⟩ takes0 (fun W pn xe tk _ => (pss_one (ps_ret (pe_callS G_read hr (by rfl) m_read k_read b_read (fun σ => passAt tk σ) (pa_cons (pv 0) (pa_cons (pv 1) pa_nil))))))
    (fun a oe cls d pn hz hf => (pss_one (ps_ret (pe_xf xf_BadSaying np_BadSaying hz hf (pv 2))))))), ?_⟩
  obtain ⟨ps, T, wi, he, rfl, hs, sw, sh, room, few, q1, q2⟩ := h
  walk_at "rd"
  show (tCons (tVar 0) (tCons (tVar 1) tNil)) _ _ _
  walk_at "rd"
  refine ⟨none, [.d (dSz wi he), .d (.str T)], fun y => ∃ m, look [(wi, he)] false 0 (prt T) = .inr m ∧ y = .d (dWs (prt T)), fun e => ∃ n, look [(wi, he)] false 0 (prt T) = .inl n ∧ e = .saying n, .cons ⟨rfl, sz_dp hs⟩ (.cons ⟨rfl, .str _⟩ .nil), fun _ z => (nomatch z),
    ⟨T, wi, he, rfl, room, few, fun z => absurd z (by rw [okS_side sw sh]; decide), fun w h e1 e2 _ _ => ?_⟩, ?_, ?_⟩
  · cases Int.ofNat.inj e1
    cases Int.ofNat.inj e2
    exact ⟨fun n e => ⟨n, e, rfl⟩, fun m e => ⟨m, e, rfl⟩⟩
  · rintro v av H' ⟨m, e, rfl⟩ ef _ ret
    exact q2 m e v H' ef.same ret.2
  · rintro e c d H' ⟨n, e1, rfl⟩ ef _ z
    rcases z with ⟨z, _⟩ | ⟨n', dd, z1, rfl, rfl, z2⟩
    · cases z
    cases z1
    refine ⟨true, xmP, fun _ a na => ?_, fun z => nomatch z⟩
    refine ⟨.ref a, rfl, rfl, rfl, dd, _, .int n, rfl, z2, by simp [List.lookup], ?_⟩
    exact q1 n e1 H' ef.same

theorem br__law_told : ∀ vs H Q E, spA K ec0 (aTold) vs H Q E → (spTold K) vs H Q E := by
  rintro vs H Q E ⟨ro, as, Φ, Ψ, pr, rw0, ⟨T, w, h, rfl, sw, sh, room, few, q1, q2⟩, hQ, _⟩
  obtain ⟨v, u, rfl, d1, d2⟩ := arg2 pr
  obtain ⟨ps, rfl, hps⟩ := dp_sz d1
  have := dp_str d2
  subst this
  exact ⟨ps, T, w, h, rfl, hps, sw, sh, room, few, fun n e H' s => hQ _ _ H' (q1 n e) (Eff.of s) (rowSame rw0 s) ⟨rfl, .int _⟩, fun m e v H' s d => hQ _ _ H' (q2 m e) (Eff.of s) (rowSame rw0 s) ⟨imm_ws _, d⟩⟩
/-! ### law -/
abbrev s_law : Stmt := topS 34
theorem sc_law : FnScope ["_law_script", "_law_row", "_law_turn", "_law_size_here", "_law_words", "_law_text", "_law_change", "_law_parts", "_law_place"] ["_law_script"] (defScope s_law) := ⟨rfl, rfl, rfl, by decide +kernel, rfl, by decide +kernel, by decide +kernel⟩

theorem ok_law {f : Addr} {fd : FuncData} {k : Nat} (F : Fun K "law" "law" s_law f fd) (m_range : mg "range" = none) (m_tuple : mg "tuple" = none) {a__law_size : Addr} {fd__law_size : FuncData} (G__law_size : FnOk P w K mg base CX0 k a__law_size fd__law_size ["_law_row", "_law_most"] (spA K ec0 (aSize))) (m__law_size : mg "_law_size" = some (.ref a__law_size)) (k__law_size : PySem.W.keepIn K (.ref a__law_size) = true) (b__law_size : Binds K fd__law_size ["_law_row", "_law_most"] []) {a__law_cut : Addr} {fd__law_cut : FuncData} (G__law_cut : FnOk P w K mg base CX0 k a__law_cut fd__law_cut ["_law_row", "_law_words"] (spA K ec0 (aCut))) (m__law_cut : mg "_law_cut" = some (.ref a__law_cut)) (k__law_cut : PySem.W.keepIn K (.ref a__law_cut) = true) (b__law_cut : Binds K fd__law_cut ["_law_row", "_law_words"] []) {a__law_saying : Addr} {fd__law_saying : FuncData} (G__law_saying : FnOk P w K mg base CX0 k a__law_saying fd__law_saying ["_law_row", "_law_size_here", "_law_deep"] (spA K ec0 (aSaying))) (m__law_saying : mg "_law_saying" = some (.ref a__law_saying)) (k__law_saying : PySem.W.keepIn K (.ref a__law_saying) = true) (b__law_saying : Binds K fd__law_saying ["_law_row", "_law_size_here", "_law_deep"] []) {a__law_taken : Addr} {fd__law_taken : FuncData} (G__law_taken : FnOk P w K mg base CX0 k a__law_taken fd__law_taken ["_law_row", "_law_many"] (spA K ec0 (aTaken))) (m__law_taken : mg "_law_taken" = some (.ref a__law_taken)) (k__law_taken : PySem.W.keepIn K (.ref a__law_taken) = true) (b__law_taken : Binds K fd__law_taken ["_law_row", "_law_many"] []) {a__law_alike : Addr} {fd__law_alike : FuncData} (G__law_alike : FnOk P w K mg base CX0 k a__law_alike fd__law_alike ["_law_found", "_law_due"] (spA K ec0 (aLawAlike))) (m__law_alike : mg "_law_alike" = some (.ref a__law_alike)) (k__law_alike : PySem.W.keepIn K (.ref a__law_alike) = true) (b__law_alike : Binds K fd__law_alike ["_law_found", "_law_due"] []) {a_read : Addr} {fd_read : FuncData} (G_read : FnOk P w K mg base CX0 k a_read fd_read ["size", "text"] (calmS (spA K (ecP a_BadSize a_BadSaying) (aReadX)))) (m_read : mg "read" = some (.ref a_read)) (k_read : PySem.W.keepIn K (.ref a_read) = true) (b_read : Binds K fd_read ["size", "text"] []) {a_written : Addr} {fd_written : FuncData} (G_written : FnOk P w K mg base CX0 k a_written fd_written ["size", "words"] (calmS (spA K (ecP a_BadSize a_BadSaying) (aWrittenX)))) (m_written : mg "written" = some (.ref a_written)) (k_written : PySem.W.keepIn K (.ref a_written) = true) (b_written : Binds K fd_written ["size", "words"] []) {a__law_changed : Addr} {fd__law_changed : FuncData} (G__law_changed : FnOk P w K mg base CX0 k a__law_changed fd__law_changed ["_law_row", "_law_text"] (spA K ec0 (aChangedT))) (m__law_changed : mg "_law_changed" = some (.ref a__law_changed)) (k__law_changed : PySem.W.keepIn K (.ref a__law_changed) = true) (b__law_changed : Binds K fd__law_changed ["_law_row", "_law_text"] []) {a__law_looked : Addr} {fd__law_looked : FuncData} (G__law_looked : FnOk P w K mg base CX0 k a__law_looked fd__law_looked ["_law_words", "_law_size_here"] (spA K ec0 (aLooked))) (m__law_looked : mg "_law_looked" = some (.ref a__law_looked)) (k__law_looked : PySem.W.keepIn K (.ref a__law_looked) = true) (b__law_looked : Binds K fd__law_looked ["_law_words", "_law_size_here"] []) {a__law_told : Addr} {fd__law_told : FuncData} (G__law_told : FnOk P w K mg base CX0 k a__law_told fd__law_told ["_law_size_here", "_law_text"] (spA K ec0 (aTold))) (m__law_told : mg "_law_told" = some (.ref a__law_told)) (k__law_told : PySem.W.keepIn K (.ref a__law_told) = true) (b__law_told : Binds K fd__law_told ["_law_size_here", "_law_text"] []) : FnOk P w K mg base CX0 (k + 1) f fd ["_law_script"] (spLaw K) := by
  refine F.ok sc_law (fun vs H Q E h => ?_) (fun cdv A outer s H vs Q E hr h => ?_)
  · obtain ⟨a, ns, rfl, _⟩ := h; rfl
  refine ⟨_, (pss_cons (ps_set (i := 1) sc_law.nd rfl (.inl rfl) (pe_lst (pa_cons (pv 0) (pa_cons pe_int (pa_cons pe_int (pa_cons pe_int pa_nil))))))
  (pss_cons (ps_for PassesOwn.never rfl (pi_range1 rfl m_range (pa_cons pe_int pa_nil)) (pg_name (i := 2) sc_law.nd rfl (.inl rfl))
    (pss_cons (ps_set (i := 3) sc_law.nd rfl (.inl rfl) (pe_call G__law_size hr (by rfl) m__law_size k__law_size b__law_size .nil pass0 (pa_cons (pv 1) (pa_cons pe_int pa_nil))))
      (pss_cons (ps_set (i := 4) sc_law.nd rfl (.inl rfl) (pe_call G__law_cut hr (by rfl) m__law_cut k__law_cut b__law_cut .nil pass0 (pa_cons (pv 1) (pa_cons (pe_call G__law_saying hr (by rfl) m__law_saying k__law_saying b__law_saying .nil pass0 (pa_cons (pv 1) (pa_cons (pv 3) (pa_cons (pe_op op_add pe_int (pe_call G__law_taken hr (by rfl) m__law_taken k__law_taken b__law_taken .nil pass0 (pa_cons (pv 1) (pa_cons pe_int pa_nil)))) pa_nil)))) pa_nil))))
      (pss_cons (ps_set (i := 5) sc_law.nd rfl (.inl rfl) (k_bm K PySem.F.plainAttrs_str PySem.F.slot_str_join PySem.F.type_str_join (k_join K) pe_str (pa_cons (pv 4) pa_nil)))
      (pss_cons (ps_if (PW.pt (pw_or (pt_not (pt_val (pe_call G__law_alike hr (by rfl) m__law_alike k__law_alike b__law_alike .nil pass0 (pa_cons (pe_call G_written hr (by rfl) m_written k_written b_written .nil pass0 (pa_cons (pv 3) (pa_cons (pv 4) pa_nil))) (pa_cons (pv 5) pa_nil))))) (pw_or1 (pt_not (pt_val (pe_call G__law_alike hr (by rfl) m__law_alike k__law_alike b__law_alike .nil pass0 (pa_cons (pe_call G_read hr (by rfl) m_read k_read b_read .nil pass0 (pa_cons (pv 3) (pa_cons (pv 5) pa_nil))) (pa_cons (pv 4) pa_nil))))))))
        (pss_one (ps_ret pe_bl))
        pss_nil)
      (pss_one (ps_for PassesOwn.never rfl (pi_range1 rfl m_range (pa_cons pe_int pa_nil)) (pg_name (i := 6) sc_law.nd rfl (.inl rfl))
        (pss_cons (ps_set (i := 5) sc_law.nd rfl (.inl rfl) (pe_call G__law_changed hr (by rfl) m__law_changed k__law_changed b__law_changed .nil pass0 (pa_cons (pv 1) (pa_cons (pv 5) pa_nil))))
          (pss_cons (ps_set (i := 7) sc_law.nd rfl (.inl rfl) (pe_ifExp (pt_cmpR op_ne (pv 5) pe_str (nomark _)) (pe_callTy (k_tuple K) (by rfl) m_tuple (by decide +kernel) (pa_cons (k_bm K PySem.F.plainAttrs_str PySem.F.slot_str_split PySem.F.type_str_split k_split (pv 5) (pa_cons pe_str pa_nil)) pa_nil)) (pe_tup pa_nil)))
          (pss_cons (ps_set (i := 8) sc_law.nd rfl (.inl rfl) (pe_ix (k_ixT K) (pe_call G__law_looked hr (by rfl) m__law_looked k__law_looked b__law_looked .nil pass0 (pa_cons (pv 7) (pa_cons (pv 3) pa_nil))) pe_int (fun _ _ => rfl)))
          (pss_one (ps_if (pt_not (pt_val (pe_call G__law_alike hr (by rfl) m__law_alike k__law_alike b__law_alike .nil pass0 (pa_cons (pe_call G__law_told hr (by rfl) m__law_told k__law_told b__law_told .nil pass0 (pa_cons (pv 3) (pa_cons (pv 5) pa_nil))) (pa_cons (pe_ifExp (pt_cmpR z_isN (pv 8) pe_non (nomark _)) (pv 7) (pv 8)) pa_nil)))))
            (pss_one (ps_ret pe_bl))
            pss_nil))))))))))))
  (pss_one (ps_ret pe_bl)))), ?_⟩
  obtain ⟨a, ns, rfl, hS, hl, q⟩ := h
  refine runLaw hS hl q fun F => ⟨_, inferInstance, ?_⟩
  walk_at "aw"
  refine forRng (n := 4) (by decide) (fun i ρ' => ∃ o2 o3 o4 o5 o6 o7 o8, ρ' = [none, some .row, o2, o3, o4, o5, o6, o7, o8]) ⟨_, _, _, _, _, _, _, rfl⟩ ?_ ?_
  · rintro i ρ' hi ⟨o2, o3, o4, o5, o6, o7, o8, rfl⟩
    walk_at "aw"
    refine ⟨8, rfl, by decide, fun w h sw sh _ _ => ?_⟩
    walk_at "aw"
    refine ⟨4, rfl, by decide, by decide, fun d d0 d4 => ?_⟩
    obtain ⟨d, rfl⟩ := Int.eq_ofNat_of_zero_le d0
    walk_at "aw"
    refine ⟨w, h, 1 + d, rfl, by omega, sw, sh, fun t ok lt => ?_⟩
    have few : t.wds.length < 32 := by
      have : 2 ^ (1 + d + 1) ≤ 2 ^ 5 := Nat.pow_le_pow_right (by decide) (by omega)
      omega
    clear lt d0 d4 hi
    walk_at "aw"
    refine ⟨t.wds, rfl, by omega, fun m hm hw => ?_⟩
    obtain ⟨ks, lks, eks, lk⟩ : ∃ ks : List Kw, ks.length ≤ 32 ∧ t.wds.take m = ks.map Kw.s ∧ look [(w, h)] false 0 (ks.map Kw.s) = .inr (t.wds.length - m) := by
      have e : t.wds.take m = (t.kws.take m).map Kw.s := by rw [t.kws_wds, ← List.map_take]
      refine ⟨t.kws.take m, by rw [List.length_take, ← kws_len]; omega, e, look_ok ok ?_⟩
      rw [← e]
      refine List.ext_getElem? fun i => ?_
      by_cases c : i < m
      · rw [List.getElem?_append_left (by rw [List.length_take]; omega), List.getElem?_take, if_pos c]
      · rw [List.getElem?_append_right (by rw [List.length_take]; omega), List.length_take, Nat.min_eq_left hm, List.getElem?_replicate]
        by_cases c2 : i < t.wds.length
        · rw [if_pos (by omega), hw i (by omega) c2]
        · rw [if_neg (by omega), List.getElem?_eq_none (by omega)]
    rw [eks]
    have fit := kws_fit (l := ks) (by omega)
    have tl := kws_textlen lks
    have nbl := nb_kws ks
    have pk := prt_kws ks
    clear eks hm hw few ok
    walk_at "aw"
    refine wJoin (ys := ks.map Kw.s) rfl fit ?_
    walk_at "aw"
    refine ⟨ks.map Kw.s, w, h, rfl, by (rw [List.length_map]; omega), fit, asks_ok sw sh lk ?_⟩
    walk_at "aw"
    generalize Txt.join (" " : Str) (ks.map Kw.s) = T0 at tl nbl pk
    refine ⟨_, _, _, rfl, rfl, rfl, rfl, rfl, few_str _, dep_str _, ?_⟩
    walk_at "aw"
    refine ⟨T0, w, h, rfl, by omega, by (rw [pk, List.length_map]; omega), ?_⟩
    rw [pk]
    refine asks_ok sw sh lk ?_
    walk_at "aw"
    refine ⟨_, _, _, rfl, rfl, rfl, rfl, rfl, fewD_ws (by rw [List.length_map]; omega), dep_ws _, ?_⟩
    walk_at "aw"
    refine forRng (n := 2) (by decide) (fun j ρ' => ∃ (o2 : Option AV) (T : Str) (o6 o7 o8 : Option AV), ρ' = [none, some .row, o2, some (.d (dSz w h)), some (.d (dWs (ks.map Kw.s))), some (.d (.str T)), o6, o7, o8] ∧ T.length + 20 ≤ 2 ^ j * 340 ∧ nb T + 20 ≤ 2 ^ j * 60) ⟨_, T0, _, _, _, rfl, by omega, by omega⟩ ?_ ?_
    · rintro j ρ' hj ⟨o2, T, o6, o7, o8, rfl, b1, b2⟩
      clear nbl tl pk fit lk lks T0
      have p2 : 2 ^ j ≤ 2 ^ 1 := Nat.pow_le_pow_right (by decide) (by omega)
      have p3 : 2 ^ (j + 1) = 2 * 2 ^ j := by rw [Nat.pow_succ, Nat.mul_comm]
      walk_at "aw"
      refine ⟨T, rfl, by omega, fun T' up => ?_⟩
      have u1 := up fun _ => true
      have u2 : nb T' ≤ 2 * nb T + 20 := up fun z => z == 32
      rw [ctP_all, ctP_all] at u1
      clear up
      have pl := prt_len T'
      have c1 : T'.length + 20 ≤ 2 ^ (j + 1) * 340 := by omega
      have c2 : nb T' + 20 ≤ 2 ^ (j + 1) * 60 := by omega
      have c3 : (prt T').length ≤ 900 := by omega
      have c4 : T'.length ≤ 100000 := by omega
      clear b1 b2 u1 u2 p2 p3 pl
      walk_at "aw"
      by_cases e0 : T'.length = 0
      · have ep : prt T' = [] := if_pos e0
        have eT := str_none e0
        refine rF (by (rw [decide_eq_true (by rw [eT])]; rfl)) ?_
        walk_at "aw"
        rw [show PyData.tuple [] = dWs (prt T') by (rw [ep]; rfl)]
        refine ⟨prt T', w, h, rfl, sw, sh, by omega, fun n e => ?_, fun m e => ?_⟩
        · walk_at "aw"
          refine ⟨T', w, h, rfl, sw, sh, by omega, by omega, fun n' e' => ?_, fun m e' => ?_⟩
          · rw [e] at e'
            cases Sum.inl.inj e'
            walk_at "aw"
            refine ⟨_, _, _, rfl, rfl, rfl, rfl, rfl, few_int _, dep_int _, ?_⟩
            walk_at "aw"
            exact ⟨_, _, _, _, _, rfl, by omega, by omega⟩
          · rw [e] at e'
            cases e'
        · walk_at "aw"
          refine ⟨T', w, h, rfl, sw, sh, by omega, by omega, fun n' e' => ?_, fun m e' => ?_⟩
          · rw [e] at e'
            cases e'
          · walk_at "aw"
            refine ⟨_, _, _, rfl, rfl, rfl, rfl, rfl, fewD_ws (by omega), dep_wsS _, ?_⟩
            walk_at "aw"
            exact ⟨_, _, _, _, _, rfl, by omega, by omega⟩
      · have ep : prt T' = Txt.split T' (" " : Str) := if_neg e0
        have nT : T' ≠ "" := fun z => e0 (by rw [z]; decide +kernel)
        refine rT (by (rw [decide_eq_false (fun z => nT (V.str.inj z))]; rfl)) ?_
        walk_at "aw"
        refine wSplit (by decide +kernel) (by rw [sizeLine_eq]; omega) ?_
        walk_at "aw"
        refine wTupL (xs := (Txt.split T' (" " : Str)).map PyData.str) rfl (immAll_map (f := PyData.str) (fun _ => rfl) _) ?_
        walk_at "aw"
        rw [show PyData.tuple ((Txt.split T' (" " : Str)).map PyData.str) = dWs (prt T') by (rw [ep]; rfl)]
        refine ⟨prt T', w, h, rfl, sw, sh, by omega, fun n e => ?_, fun m e => ?_⟩
        · walk_at "aw"
          refine ⟨T', w, h, rfl, sw, sh, by omega, by omega, fun n' e' => ?_, fun m e' => ?_⟩
          · rw [e] at e'
            cases Sum.inl.inj e'
            walk_at "aw"
            refine ⟨_, _, _, rfl, rfl, rfl, rfl, rfl, few_int _, dep_int _, ?_⟩
            walk_at "aw"
            exact ⟨_, _, _, _, _, rfl, by omega, by omega⟩
          · rw [e] at e'
            cases e'
        · walk_at "aw"
          refine ⟨T', w, h, rfl, sw, sh, by omega, by omega, fun n' e' => ?_, fun m e' => ?_⟩
          · rw [e] at e'
            cases e'
          · walk_at "aw"
            refine ⟨_, _, _, rfl, rfl, rfl, rfl, rfl, fewD_ws (by omega), dep_wsS _, ?_⟩
            walk_at "aw"
            exact ⟨_, _, _, _, _, rfl, by omega, by omega⟩
    · rintro ρ' ⟨o2, T, o6, o7, o8, rfl, _⟩
      exact ⟨_, _, _, _, _, _, _, rfl⟩
  · rintro ρ' ⟨o2, o3, o4, o5, o6, o7, o8, rfl⟩
    walk_at "aw"
    rfl
end
/-- the code of a def -/
abbrev fdOf {K : PySem.W.Frag} {x q : Str} {st : Stmt} {f : Addr} {fd : FuncData} (_ : Fun K x q st f fd) : FuncData := fd
set_option maxHeartbeats 0 in
theorem all_mk {P : Program} {w : World} {K : PySem.W.Frag} {h : Heap} {mg : Str → Option Value} {fa : Addr} (X : K.In h) (G : h.Ns mainGlobals mg) (hfa : mg "law" = some (.ref fa))
    {f__law_taken : Addr} {od__law_taken an__law_taken : Option Addr} {sl__law_taken : Array (Option Value)} {oc__law_taken kV__law_taken dc__law_taken pm__law_taken cd__law_taken ct__law_taken : Value}
    {f__law_size : Addr} {od__law_size an__law_size : Option Addr} {sl__law_size : Array (Option Value)} {oc__law_size kV__law_size dc__law_size pm__law_size cd__law_size ct__law_size : Value}
    {f__law_cut : Addr} {od__law_cut an__law_cut : Option Addr} {sl__law_cut : Array (Option Value)} {oc__law_cut kV__law_cut dc__law_cut pm__law_cut cd__law_cut ct__law_cut : Value}
    {f__law_fits : Addr} {od__law_fits an__law_fits : Option Addr} {sl__law_fits : Array (Option Value)} {oc__law_fits kV__law_fits dc__law_fits pm__law_fits cd__law_fits ct__law_fits : Value}
    {f__law_colour : Addr} {od__law_colour an__law_colour : Option Addr} {sl__law_colour : Array (Option Value)} {oc__law_colour kV__law_colour dc__law_colour pm__law_colour cd__law_colour ct__law_colour : Value}
    {f__law_part : Addr} {od__law_part an__law_part : Option Addr} {sl__law_part : Array (Option Value)} {oc__law_part kV__law_part dc__law_part pm__law_part cd__law_part ct__law_part : Value}
    {f__law_saying : Addr} {od__law_saying an__law_saying : Option Addr} {sl__law_saying : Array (Option Value)} {oc__law_saying kV__law_saying dc__law_saying pm__law_saying cd__law_saying ct__law_saying : Value}
    {f__law_alike : Addr} {od__law_alike an__law_alike : Option Addr} {sl__law_alike : Array (Option Value)} {oc__law_alike kV__law_alike dc__law_alike pm__law_alike cd__law_alike ct__law_alike : Value}
    {f_init : Addr} {od_init an_init : Option Addr} {sl_init : Array (Option Value)} {oc_init kV_init dc_init pm_init cd_init ct_init : Value}
    {f_need_size : Addr} {od_need_size an_need_size : Option Addr} {sl_need_size : Array (Option Value)} {oc_need_size kV_need_size dc_need_size pm_need_size cd_need_size ct_need_size : Value}
    {f_can_stand : Addr} {od_can_stand an_can_stand : Option Addr} {sl_can_stand : Array (Option Value)} {oc_can_stand kV_can_stand dc_can_stand pm_can_stand cd_can_stand ct_can_stand : Value}
    {f__sizes_behind : Addr} {od__sizes_behind an__sizes_behind : Option Addr} {sl__sizes_behind : Array (Option Value)} {oc__sizes_behind kV__sizes_behind dc__sizes_behind pm__sizes_behind cd__sizes_behind ct__sizes_behind : Value}
    {f_word_sizes : Addr} {od_word_sizes an_word_sizes : Option Addr} {sl_word_sizes : Array (Option Value)} {oc_word_sizes kV_word_sizes dc_word_sizes pm_word_sizes cd_word_sizes ct_word_sizes : Value}
    {f_need_saying : Addr} {od_need_saying an_need_saying : Option Addr} {sl_need_saying : Array (Option Value)} {oc_need_saying kV_need_saying dc_need_saying pm_need_saying cd_need_saying ct_need_saying : Value}
    {f_read : Addr} {od_read an_read : Option Addr} {sl_read : Array (Option Value)} {oc_read kV_read dc_read pm_read cd_read ct_read : Value}
    {f_written : Addr} {od_written an_written : Option Addr} {sl_written : Array (Option Value)} {oc_written kV_written dc_written pm_written cd_written ct_written : Value}
    {f__law_changed : Addr} {od__law_changed an__law_changed : Option Addr} {sl__law_changed : Array (Option Value)} {oc__law_changed kV__law_changed dc__law_changed pm__law_changed cd__law_changed ct__law_changed : Value}
    {f__law_looked : Addr} {od__law_looked an__law_looked : Option Addr} {sl__law_looked : Array (Option Value)} {oc__law_looked kV__law_looked dc__law_looked pm__law_looked cd__law_looked ct__law_looked : Value}
    {f__law_told : Addr} {od__law_told an__law_told : Option Addr} {sl__law_told : Array (Option Value)} {oc__law_told kV__law_told dc__law_told pm__law_told cd__law_told ct__law_told : Value}
    {f_law : Addr} {od_law an_law : Option Addr} {sl_law : Array (Option Value)} {oc_law kV_law dc_law pm_law cd_law ct_law : Value}
    {f_ShieldError : Addr}
    {f_BadSaying : Addr}
    {f_BadSize : Addr}
    {nm_BadSaying q_BadSaying : Str} {N_BadSaying : Addr} {bs_BadSaying bm_BadSaying sb_BadSaying : List Value} {sn_BadSaying : List Str} {ab_BadSaying : Bool} {col_BadSaying : Option Bool} {dd_BadSaying : Option Addr} {k0_BadSaying k1_BadSaying k2_BadSaying k3_BadSaying k5_BadSaying : Option Value}
    {f_SIDES : Addr} {n_SIDES : Nat}
    {d_SIDES : Option Addr} {sl_SIDES : Array (Option Value)} {tSIDES_0 tSIDES_1 tSIDES_2 tSIDES_3 : Tok}
    {f_COLOURS : Addr} {n_COLOURS : Nat}
    {d_COLOURS : Option Addr} {sl_COLOURS : Array (Option Value)} {tCOLOURS_0 tCOLOURS_1 tCOLOURS_2 tCOLOURS_3 tCOLOURS_4 tCOLOURS_5 : Tok}
    {f_LEAST : Addr} {n_LEAST : Nat}
    {es_LEAST : Array DictEntry}
    {f_LEAST_party : Addr} {n_LEAST_party : Nat} {d_LEAST_party : Option Addr} {sl_LEAST_party : Array (Option Value)} {tLEAST_party_0 tLEAST_party_1 : Tok}
    {f_LEAST_cut : Addr} {n_LEAST_cut : Nat} {d_LEAST_cut : Option Addr} {sl_LEAST_cut : Array (Option Value)} {tLEAST_cut_0 tLEAST_cut_1 : Tok}
    {f_LEAST_quartered : Addr} {n_LEAST_quartered : Nat} {d_LEAST_quartered : Option Addr} {sl_LEAST_quartered : Array (Option Value)} {tLEAST_quartered_0 tLEAST_quartered_1 : Tok}
    {f_LEAST_pillar : Addr} {n_LEAST_pillar : Nat} {d_LEAST_pillar : Option Addr} {sl_LEAST_pillar : Array (Option Value)} {tLEAST_pillar_0 tLEAST_pillar_1 : Tok}
    {f_LEAST_band : Addr} {n_LEAST_band : Nat} {d_LEAST_band : Option Addr} {sl_LEAST_band : Array (Option Value)} {tLEAST_band_0 tLEAST_band_1 : Tok}
    {f_LEAST_head : Addr} {n_LEAST_head : Nat} {d_LEAST_head : Option Addr} {sl_LEAST_head : Array (Option Value)} {tLEAST_head_0 tLEAST_head_1 : Tok}
    {f_LEAST_edge : Addr} {n_LEAST_edge : Nat} {d_LEAST_edge : Option Addr} {sl_LEAST_edge : Array (Option Value)} {tLEAST_edge_0 tLEAST_edge_1 : Tok}
    {f_PIECES : Addr} {n_PIECES : Nat}
    {d_PIECES : Option Addr} {sl_PIECES : Array (Option Value)} {tPIECES_0 tPIECES_1 tPIECES_2 tPIECES_3 : Tok}
    {f_CELL : Addr} {n_CELL : Nat}
    {d_CELL : Option Addr} {sl_CELL : Array (Option Value)} {tCELL_0 tCELL_1 : Tok}
    {t_BLANK : Tok}
    (a__law_taken : PySem.W.nsIn K mainGlobals "_law_taken" = some (some (.ref f__law_taken)))
    (l__law_taken : K.lookup f__law_taken = some ⟨oc__law_taken, od__law_taken, .func (PySem.W.fnOf "_law_taken" "_law_taken" (defArgs (topS 22)) (defBody (topS 22)) (defScope (topS 22)) .none kV__law_taken dc__law_taken pm__law_taken an__law_taken cd__law_taken ct__law_taken), sl__law_taken⟩)
    (c__law_taken : PySem.W.codeIn K cd__law_taken "_law_taken" = true)
    (k__law_taken : PySem.W.keepIn K (.ref f__law_taken) = true)
    (a__law_size : PySem.W.nsIn K mainGlobals "_law_size" = some (some (.ref f__law_size)))
    (l__law_size : K.lookup f__law_size = some ⟨oc__law_size, od__law_size, .func (PySem.W.fnOf "_law_size" "_law_size" (defArgs (topS 24)) (defBody (topS 24)) (defScope (topS 24)) .none kV__law_size dc__law_size pm__law_size an__law_size cd__law_size ct__law_size), sl__law_size⟩)
    (c__law_size : PySem.W.codeIn K cd__law_size "_law_size" = true)
    (k__law_size : PySem.W.keepIn K (.ref f__law_size) = true)
    (a__law_cut : PySem.W.nsIn K mainGlobals "_law_cut" = some (some (.ref f__law_cut)))
    (l__law_cut : K.lookup f__law_cut = some ⟨oc__law_cut, od__law_cut, .func (PySem.W.fnOf "_law_cut" "_law_cut" (defArgs (topS 29)) (defBody (topS 29)) (defScope (topS 29)) .none kV__law_cut dc__law_cut pm__law_cut an__law_cut cd__law_cut ct__law_cut), sl__law_cut⟩)
    (c__law_cut : PySem.W.codeIn K cd__law_cut "_law_cut" = true)
    (k__law_cut : PySem.W.keepIn K (.ref f__law_cut) = true)
    (a__law_fits : PySem.W.nsIn K mainGlobals "_law_fits" = some (some (.ref f__law_fits)))
    (l__law_fits : K.lookup f__law_fits = some ⟨oc__law_fits, od__law_fits, .func (PySem.W.fnOf "_law_fits" "_law_fits" (defArgs (topS 26)) (defBody (topS 26)) (defScope (topS 26)) .none kV__law_fits dc__law_fits pm__law_fits an__law_fits cd__law_fits ct__law_fits), sl__law_fits⟩)
    (c__law_fits : PySem.W.codeIn K cd__law_fits "_law_fits" = true)
    (k__law_fits : PySem.W.keepIn K (.ref f__law_fits) = true)
    (a__law_colour : PySem.W.nsIn K mainGlobals "_law_colour" = some (some (.ref f__law_colour)))
    (l__law_colour : K.lookup f__law_colour = some ⟨oc__law_colour, od__law_colour, .func (PySem.W.fnOf "_law_colour" "_law_colour" (defArgs (topS 25)) (defBody (topS 25)) (defScope (topS 25)) .none kV__law_colour dc__law_colour pm__law_colour an__law_colour cd__law_colour ct__law_colour), sl__law_colour⟩)
    (c__law_colour : PySem.W.codeIn K cd__law_colour "_law_colour" = true)
    (k__law_colour : PySem.W.keepIn K (.ref f__law_colour) = true)
    (a__law_part : PySem.W.nsIn K mainGlobals "_law_part" = some (some (.ref f__law_part)))
    (l__law_part : K.lookup f__law_part = some ⟨oc__law_part, od__law_part, .func (PySem.W.fnOf "_law_part" "_law_part" (defArgs (topS 27)) (defBody (topS 27)) (defScope (topS 27)) .none kV__law_part dc__law_part pm__law_part an__law_part cd__law_part ct__law_part), sl__law_part⟩)
    (c__law_part : PySem.W.codeIn K cd__law_part "_law_part" = true)
    (k__law_part : PySem.W.keepIn K (.ref f__law_part) = true)
    (a__law_saying : PySem.W.nsIn K mainGlobals "_law_saying" = some (some (.ref f__law_saying)))
    (l__law_saying : K.lookup f__law_saying = some ⟨oc__law_saying, od__law_saying, .func (PySem.W.fnOf "_law_saying" "_law_saying" (defArgs (topS 28)) (defBody (topS 28)) (defScope (topS 28)) .none kV__law_saying dc__law_saying pm__law_saying an__law_saying cd__law_saying ct__law_saying), sl__law_saying⟩)
    (c__law_saying : PySem.W.codeIn K cd__law_saying "_law_saying" = true)
    (k__law_saying : PySem.W.keepIn K (.ref f__law_saying) = true)
    (a__law_alike : PySem.W.nsIn K mainGlobals "_law_alike" = some (some (.ref f__law_alike)))
    (l__law_alike : K.lookup f__law_alike = some ⟨oc__law_alike, od__law_alike, .func (PySem.W.fnOf "_law_alike" "_law_alike" (defArgs (topS 23)) (defBody (topS 23)) (defScope (topS 23)) .none kV__law_alike dc__law_alike pm__law_alike an__law_alike cd__law_alike ct__law_alike), sl__law_alike⟩)
    (c__law_alike : PySem.W.codeIn K cd__law_alike "_law_alike" = true)
    (k__law_alike : PySem.W.keepIn K (.ref f__law_alike) = true)
    (a_need_size : PySem.W.nsIn K mainGlobals "need_size" = some (some (.ref f_need_size)))
    (l_need_size : K.lookup f_need_size = some ⟨oc_need_size, od_need_size, .func (PySem.W.fnOf "need_size" "need_size" (defArgs (topS 8)) (defBody (topS 8)) (defScope (topS 8)) .none kV_need_size dc_need_size pm_need_size an_need_size cd_need_size ct_need_size), sl_need_size⟩)
    (c_need_size : PySem.W.codeIn K cd_need_size "need_size" = true)
    (k_need_size : PySem.W.keepIn K (.ref f_need_size) = true)
    (a_can_stand : PySem.W.nsIn K mainGlobals "can_stand" = some (some (.ref f_can_stand)))
    (l_can_stand : K.lookup f_can_stand = some ⟨oc_can_stand, od_can_stand, .func (PySem.W.fnOf "can_stand" "can_stand" (defArgs (topS 15)) (defBody (topS 15)) (defScope (topS 15)) .none kV_can_stand dc_can_stand pm_can_stand an_can_stand cd_can_stand ct_can_stand), sl_can_stand⟩)
    (c_can_stand : PySem.W.codeIn K cd_can_stand "can_stand" = true)
    (k_can_stand : PySem.W.keepIn K (.ref f_can_stand) = true)
    (a__sizes_behind : PySem.W.nsIn K mainGlobals "_sizes_behind" = some (some (.ref f__sizes_behind)))
    (l__sizes_behind : K.lookup f__sizes_behind = some ⟨oc__sizes_behind, od__sizes_behind, .func (PySem.W.fnOf "_sizes_behind" "_sizes_behind" (defArgs (topS 16)) (defBody (topS 16)) (defScope (topS 16)) .none kV__sizes_behind dc__sizes_behind pm__sizes_behind an__sizes_behind cd__sizes_behind ct__sizes_behind), sl__sizes_behind⟩)
    (c__sizes_behind : PySem.W.codeIn K cd__sizes_behind "_sizes_behind" = true)
    (k__sizes_behind : PySem.W.keepIn K (.ref f__sizes_behind) = true)
    (a_word_sizes : PySem.W.nsIn K mainGlobals "word_sizes" = some (some (.ref f_word_sizes)))
    (l_word_sizes : K.lookup f_word_sizes = some ⟨oc_word_sizes, od_word_sizes, .func (PySem.W.fnOf "word_sizes" "word_sizes" (defArgs (topS 14)) (defBody (topS 14)) (defScope (topS 14)) .none kV_word_sizes dc_word_sizes pm_word_sizes an_word_sizes cd_word_sizes ct_word_sizes), sl_word_sizes⟩)
    (c_word_sizes : PySem.W.codeIn K cd_word_sizes "word_sizes" = true)
    (k_word_sizes : PySem.W.keepIn K (.ref f_word_sizes) = true)
    (a_need_saying : PySem.W.nsIn K mainGlobals "need_saying" = some (some (.ref f_need_saying)))
    (l_need_saying : K.lookup f_need_saying = some ⟨oc_need_saying, od_need_saying, .func (PySem.W.fnOf "need_saying" "need_saying" (defArgs (topS 13)) (defBody (topS 13)) (defScope (topS 13)) .none kV_need_saying dc_need_saying pm_need_saying an_need_saying cd_need_saying ct_need_saying), sl_need_saying⟩)
    (c_need_saying : PySem.W.codeIn K cd_need_saying "need_saying" = true)
    (k_need_saying : PySem.W.keepIn K (.ref f_need_saying) = true)
    (a_read : PySem.W.nsIn K mainGlobals "read" = some (some (.ref f_read)))
    (l_read : K.lookup f_read = some ⟨oc_read, od_read, .func (PySem.W.fnOf "read" "read" (defArgs (topS 20)) (defBody (topS 20)) (defScope (topS 20)) .none kV_read dc_read pm_read an_read cd_read ct_read), sl_read⟩)
    (c_read : PySem.W.codeIn K cd_read "read" = true)
    (k_read : PySem.W.keepIn K (.ref f_read) = true)
    (a_written : PySem.W.nsIn K mainGlobals "written" = some (some (.ref f_written)))
    (l_written : K.lookup f_written = some ⟨oc_written, od_written, .func (PySem.W.fnOf "written" "written" (defArgs (topS 19)) (defBody (topS 19)) (defScope (topS 19)) .none kV_written dc_written pm_written an_written cd_written ct_written), sl_written⟩)
    (c_written : PySem.W.codeIn K cd_written "written" = true)
    (k_written : PySem.W.keepIn K (.ref f_written) = true)
    (a__law_changed : PySem.W.nsIn K mainGlobals "_law_changed" = some (some (.ref f__law_changed)))
    (l__law_changed : K.lookup f__law_changed = some ⟨oc__law_changed, od__law_changed, .func (PySem.W.fnOf "_law_changed" "_law_changed" (defArgs (topS 32)) (defBody (topS 32)) (defScope (topS 32)) .none kV__law_changed dc__law_changed pm__law_changed an__law_changed cd__law_changed ct__law_changed), sl__law_changed⟩)
    (c__law_changed : PySem.W.codeIn K cd__law_changed "_law_changed" = true)
    (k__law_changed : PySem.W.keepIn K (.ref f__law_changed) = true)
    (a__law_looked : PySem.W.nsIn K mainGlobals "_law_looked" = some (some (.ref f__law_looked)))
    (l__law_looked : K.lookup f__law_looked = some ⟨oc__law_looked, od__law_looked, .func (PySem.W.fnOf "_law_looked" "_law_looked" (defArgs (topS 30)) (defBody (topS 30)) (defScope (topS 30)) .none kV__law_looked dc__law_looked pm__law_looked an__law_looked cd__law_looked ct__law_looked), sl__law_looked⟩)
    (c__law_looked : PySem.W.codeIn K cd__law_looked "_law_looked" = true)
    (k__law_looked : PySem.W.keepIn K (.ref f__law_looked) = true)
    (a__law_told : PySem.W.nsIn K mainGlobals "_law_told" = some (some (.ref f__law_told)))
    (l__law_told : K.lookup f__law_told = some ⟨oc__law_told, od__law_told, .func (PySem.W.fnOf "_law_told" "_law_told" (defArgs (topS 33)) (defBody (topS 33)) (defScope (topS 33)) .none kV__law_told dc__law_told pm__law_told an__law_told cd__law_told ct__law_told), sl__law_told⟩)
    (c__law_told : PySem.W.codeIn K cd__law_told "_law_told" = true)
    (k__law_told : PySem.W.keepIn K (.ref f__law_told) = true)
    (a_law : PySem.W.nsIn K mainGlobals "law" = some (some (.ref f_law)))
    (l_law : K.lookup f_law = some ⟨oc_law, od_law, .func (PySem.W.fnOf "law" "law" (defArgs (topS 34)) (defBody (topS 34)) (defScope (topS 34)) .none kV_law dc_law pm_law an_law cd_law ct_law), sl_law⟩)
    (c_law : PySem.W.codeIn K cd_law "law" = true)
    (k_law : PySem.W.keepIn K (.ref f_law) = true)
    (a_ShieldError : PySem.W.nsIn K mainGlobals "ShieldError" = some (some (.ref f_ShieldError)))
    (a_BadSaying : PySem.W.nsIn K mainGlobals "BadSaying" = some (some (.ref f_BadSaying)))
    (a_BadSize : PySem.W.nsIn K mainGlobals "BadSize" = some (some (.ref f_BadSize)))
    (q_BadSize : PySem.W.excIn K f_BadSize [.type "ValueError", .type "Exception", .type "BaseException", .type "object"] "ValueError.__new__" = true)
    (k_BadSize : PySem.W.keepIn K (.ref f_BadSize) = true)
    (b_BadSize : PySem.W.subIn K (.ref f_BadSize) (.type "BaseException") = some true)
    (t_BadSize : PySem.W.typeIn K (.ref f_BadSize) = some (.type "type"))
    (a_init : PySem.W.findIn K (.ref f_BadSaying) "__init__" = some (some (.ref f_init)))
    (l_init : K.lookup f_init = some ⟨oc_init, od_init, .func (PySem.W.fnOf "__init__" "BadSaying.__init__" (defArgs (clsDef (topS 3) 0)) (defBody (clsDef (topS 3) 0)) (defScope (clsDef (topS 3) 0)) .none kV_init dc_init pm_init an_init cd_init ct_init), sl_init⟩)
    (c_init : PySem.W.codeIn K cd_init "BadSaying.__init__" = true)
    (k_init : PySem.W.keepIn K (.ref f_init) = true)
    (ti_init : PySem.W.typeIn K (.ref f_init) = some (.type "function"))
    (o_BadSayingl : K.lookup f_BadSaying = some (excClassObj nm_BadSaying q_BadSaying f_BadSaying N_BadSaying bs_BadSaying bm_BadSaying true sn_BadSaying sb_BadSaying ab_BadSaying col_BadSaying dd_BadSaying k0_BadSaying k1_BadSaying k2_BadSaying k3_BadSaying k5_BadSaying "ValueError.__new__"))
    (o_BadSayingr : PySem.HandSPX.refsVE bm_BadSaying = true)
    (o_BadSayinga : PySem.W.findIn K (.ref f_BadSaying) "__setattr__" = some (some (.builtin "object.__setattr__")))
    (o_BadSayingb : PySem.W.subIn K (.ref f_BadSaying) (.type "BaseException") = some true)
    (o_BadSayingt : PySem.W.typeIn K (.ref f_BadSaying) = some (.type "type"))
    (o_BadSayingk : PySem.W.keepIn K (.ref f_BadSaying) = true)
    (np_BadSaying : PySem.W.findIn K (.ref f_BadSaying) "place" = some none)
    (rd_ShieldError : PySem.W.readsIn K f_ShieldError (.type "type") = true)
    (ga_ShieldError : PySem.W.specialIn K (.ref f_ShieldError) "__getattribute__" = some (some (.builtin "type.__getattribute__")))
    (vi_ShieldError : PySem.W.findCls K (.ref f_ShieldError) (.type "type") "__init__" = some (.val (.builtin "ValueError.__init__")))
    (xf_BadSayingg : PySem.W.findIn K (.ref f_BadSaying) "__getattribute__" = some (some (.builtin "BaseException.__getattribute__")))
    (xf_BadSayingk : PySem.W.findIn K (.ref f_BadSaying) "__getattr__" = some none)
    (xf_BadSayings : PySem.W.subIn K (.ref f_BadSaying) (.type "BaseException") = some true)
    (xf_BadSayingd : PySem.W.hasDictIn K f_BadSaying = true)
    (ic_BadSaying : PySem.W.isClsIn K f_BadSaying = true)
    (ty_BadSaying : PySem.W.typeIn K (.ref f_BadSaying) = some (.type "type"))
    (su_BadSaying_BadSaying : PySem.W.subIn K (.ref f_BadSaying) (.ref f_BadSaying) = some true)
    (sb_BadSaying : PySem.W.subIn K (.ref f_BadSaying) (.type "BaseException") = some true)
    (z_len : PySem.W.nsIn K mainGlobals "len" = some none)
    (z_int : PySem.W.nsIn K mainGlobals "int" = some none)
    (z_isinstance : PySem.W.nsIn K mainGlobals "isinstance" = some none)
    (z_list : PySem.W.nsIn K mainGlobals "list" = some none)
    (z_tuple : PySem.W.nsIn K mainGlobals "tuple" = some none)
    (z_range : PySem.W.nsIn K mainGlobals "range" = some none)
    (z_bool : PySem.W.nsIn K mainGlobals "bool" = some none)
    (z_str : PySem.W.nsIn K mainGlobals "str" = some none)
    (z_enumerate : PySem.W.nsIn K mainGlobals "enumerate" = some none)
    (a_SIDES : PySem.W.nsIn K mainGlobals "SIDES" = some (some (.ref f_SIDES)))
    (l_SIDES : K.lookup f_SIDES = some ⟨.type "tuple", d_SIDES, .seq #[.int 1 tSIDES_0, .int 2 tSIDES_1, .int 4 tSIDES_2, .int 8 tSIDES_3] n_SIDES, sl_SIDES⟩)
    (a_COLOURS : PySem.W.nsIn K mainGlobals "COLOURS" = some (some (.ref f_COLOURS)))
    (l_COLOURS : K.lookup f_COLOURS = some ⟨.type "tuple", d_COLOURS, .seq #[.str "white" tCOLOURS_0, .str "yellow" tCOLOURS_1, .str "black" tCOLOURS_2, .str "blue" tCOLOURS_3, .str "green" tCOLOURS_4, .str "red" tCOLOURS_5] n_COLOURS, sl_COLOURS⟩)
    (a_LEAST : PySem.W.nsIn K mainGlobals "LEAST" = some (some (.ref f_LEAST)))
    (l_LEAST : K.lookup f_LEAST = some ⟨.type "dict", none, .dict es_LEAST n_LEAST, #[]⟩)
    (y_LEAST : PySem.W.KeysLit w.params es_LEAST.toList)
    (v_LEAST : (f_LEAST == sysModules) = false)
    (o_LEAST : Paired (fun (e : DictEntry) (x : Str) => ∃ t, e.key = .str x t) es_LEAST.toList ["party", "cut", "quartered", "pillar", "band", "head", "edge"])
    (e_LEAST_party : PySem.W.nsIn K f_LEAST "party" = some (some (.ref f_LEAST_party)))
    (l_LEAST_party : K.lookup f_LEAST_party = some ⟨.type "tuple", d_LEAST_party, .seq #[.int 2 tLEAST_party_0, .int 1 tLEAST_party_1] n_LEAST_party, sl_LEAST_party⟩)
    (e_LEAST_cut : PySem.W.nsIn K f_LEAST "cut" = some (some (.ref f_LEAST_cut)))
    (l_LEAST_cut : K.lookup f_LEAST_cut = some ⟨.type "tuple", d_LEAST_cut, .seq #[.int 1 tLEAST_cut_0, .int 2 tLEAST_cut_1] n_LEAST_cut, sl_LEAST_cut⟩)
    (e_LEAST_quartered : PySem.W.nsIn K f_LEAST "quartered" = some (some (.ref f_LEAST_quartered)))
    (l_LEAST_quartered : K.lookup f_LEAST_quartered = some ⟨.type "tuple", d_LEAST_quartered, .seq #[.int 2 tLEAST_quartered_0, .int 2 tLEAST_quartered_1] n_LEAST_quartered, sl_LEAST_quartered⟩)
    (e_LEAST_pillar : PySem.W.nsIn K f_LEAST "pillar" = some (some (.ref f_LEAST_pillar)))
    (l_LEAST_pillar : K.lookup f_LEAST_pillar = some ⟨.type "tuple", d_LEAST_pillar, .seq #[.int 4 tLEAST_pillar_0, .int 1 tLEAST_pillar_1] n_LEAST_pillar, sl_LEAST_pillar⟩)
    (e_LEAST_band : PySem.W.nsIn K f_LEAST "band" = some (some (.ref f_LEAST_band)))
    (l_LEAST_band : K.lookup f_LEAST_band = some ⟨.type "tuple", d_LEAST_band, .seq #[.int 1 tLEAST_band_0, .int 4 tLEAST_band_1] n_LEAST_band, sl_LEAST_band⟩)
    (e_LEAST_head : PySem.W.nsIn K f_LEAST "head" = some (some (.ref f_LEAST_head)))
    (l_LEAST_head : K.lookup f_LEAST_head = some ⟨.type "tuple", d_LEAST_head, .seq #[.int 1 tLEAST_head_0, .int 4 tLEAST_head_1] n_LEAST_head, sl_LEAST_head⟩)
    (e_LEAST_edge : PySem.W.nsIn K f_LEAST "edge" = some (some (.ref f_LEAST_edge)))
    (l_LEAST_edge : K.lookup f_LEAST_edge = some ⟨.type "tuple", d_LEAST_edge, .seq #[.int 4 tLEAST_edge_0, .int 4 tLEAST_edge_1] n_LEAST_edge, sl_LEAST_edge⟩)
    (a_PIECES : PySem.W.nsIn K mainGlobals "PIECES" = some (some (.ref f_PIECES)))
    (l_PIECES : K.lookup f_PIECES = some ⟨.type "tuple", d_PIECES, .seq #[.str "pillar" tPIECES_0, .str "band" tPIECES_1, .str "head" tPIECES_2, .str "edge" tPIECES_3] n_PIECES, sl_PIECES⟩)
    (a_CELL : PySem.W.nsIn K mainGlobals "CELL" = some (some (.ref f_CELL)))
    (l_CELL : K.lookup f_CELL = some ⟨.type "tuple", d_CELL, .seq #[.int 1 tCELL_0, .int 1 tCELL_1] n_CELL, sl_CELL⟩)
    (a_BLANK : PySem.W.nsIn K mainGlobals "BLANK" = some (some (.str " " t_BLANK)))
    : ∃ fd : FuncData, (∀ (s : Shared) (v : Value), BindsTo s fd ⟨[v], []⟩ [("_law_script", v)]) ∧ ∀ base : Heap, K.In base → base.Ns mainGlobals mg → FnOk P w K mg base CX0 12 fa fd ["_law_script"] (spLaw K) := by
  have F__law_taken : Fun K "_law_taken" "_law_taken" s__law_taken f__law_taken _ := fun_mk l__law_taken c__law_taken k__law_taken
  have b__law_taken := F__law_taken.binds (ps := ["_law_row", "_law_many"]) fun _ _ _ _ _ _ us hl => match us, hl with | [_, _], _ => rfl
  have m__law_taken := PySem.W.mg_of X G a__law_taken
  have F__law_size : Fun K "_law_size" "_law_size" s__law_size f__law_size _ := fun_mk l__law_size c__law_size k__law_size
  have b__law_size := F__law_size.binds (ps := ["_law_row", "_law_most"]) fun _ _ _ _ _ _ us hl => match us, hl with | [_, _], _ => rfl
  have m__law_size := PySem.W.mg_of X G a__law_size
  have F__law_cut : Fun K "_law_cut" "_law_cut" s__law_cut f__law_cut _ := fun_mk l__law_cut c__law_cut k__law_cut
  have b__law_cut := F__law_cut.binds (ps := ["_law_row", "_law_words"]) fun _ _ _ _ _ _ us hl => match us, hl with | [_, _], _ => rfl
  have m__law_cut := PySem.W.mg_of X G a__law_cut
  have F__law_fits : Fun K "_law_fits" "_law_fits" s__law_fits f__law_fits _ := fun_mk l__law_fits c__law_fits k__law_fits
  have b__law_fits := F__law_fits.binds (ps := ["_law_size_here", "_law_word"]) fun _ _ _ _ _ _ us hl => match us, hl with | [_, _], _ => rfl
  have m__law_fits := PySem.W.mg_of X G a__law_fits
  have F__law_colour : Fun K "_law_colour" "_law_colour" s__law_colour f__law_colour _ := fun_mk l__law_colour c__law_colour k__law_colour
  have b__law_colour := F__law_colour.binds (ps := ["_law_row"]) fun _ _ _ _ _ _ us hl => match us, hl with | [_], _ => rfl
  have m__law_colour := PySem.W.mg_of X G a__law_colour
  have F__law_part : Fun K "_law_part" "_law_part" s__law_part f__law_part _ := fun_mk l__law_part c__law_part k__law_part
  have b__law_part := F__law_part.binds (ps := ["_law_size_here", "_law_word"]) fun _ _ _ _ _ _ us hl => match us, hl with | [_, _], _ => rfl
  have m__law_part := PySem.W.mg_of X G a__law_part
  have F__law_saying : Fun K "_law_saying" "_law_saying" s__law_saying f__law_saying _ := fun_mk l__law_saying c__law_saying k__law_saying
  have b__law_saying := F__law_saying.binds (ps := ["_law_row", "_law_size_here", "_law_deep"]) fun _ _ _ _ _ _ us hl => match us, hl with | [_, _, _], _ => rfl
  have m__law_saying := PySem.W.mg_of X G a__law_saying
  have F__law_alike : Fun K "_law_alike" "_law_alike" s__law_alike f__law_alike _ := fun_mk l__law_alike c__law_alike k__law_alike
  have b__law_alike := F__law_alike.binds (ps := ["_law_found", "_law_due"]) fun _ _ _ _ _ _ us hl => match us, hl with | [_, _], _ => rfl
  have m__law_alike := PySem.W.mg_of X G a__law_alike
  have F_need_size : Fun K "need_size" "need_size" s_need_size f_need_size _ := fun_mk l_need_size c_need_size k_need_size
  have b_need_size := F_need_size.binds (ps := ["size"]) fun _ _ _ _ _ _ us hl => match us, hl with | [_], _ => rfl
  have m_need_size := PySem.W.mg_of X G a_need_size
  have F_can_stand : Fun K "can_stand" "can_stand" s_can_stand f_can_stand _ := fun_mk l_can_stand c_can_stand k_can_stand
  have b_can_stand := F_can_stand.binds (ps := ["size", "word"]) fun _ _ _ _ _ _ us hl => match us, hl with | [_, _], _ => rfl
  have m_can_stand := PySem.W.mg_of X G a_can_stand
  have F__sizes_behind : Fun K "_sizes_behind" "_sizes_behind" s__sizes_behind f__sizes_behind _ := fun_mk l__sizes_behind c__sizes_behind k__sizes_behind
  have b__sizes_behind := F__sizes_behind.binds (ps := ["size", "word"]) fun _ _ _ _ _ _ us hl => match us, hl with | [_, _], _ => rfl
  have m__sizes_behind := PySem.W.mg_of X G a__sizes_behind
  have F_word_sizes : Fun K "word_sizes" "word_sizes" s_word_sizes f_word_sizes _ := fun_mk l_word_sizes c_word_sizes k_word_sizes
  have b_word_sizes := F_word_sizes.binds (ps := ["size", "words"]) fun _ _ _ _ _ _ us hl => match us, hl with | [_, _], _ => rfl
  have m_word_sizes := PySem.W.mg_of X G a_word_sizes
  have F_need_saying : Fun K "need_saying" "need_saying" s_need_saying f_need_saying _ := fun_mk l_need_saying c_need_saying k_need_saying
  have b_need_saying := F_need_saying.binds (ps := ["size", "words"]) fun _ _ _ _ _ _ us hl => match us, hl with | [_, _], _ => rfl
  have m_need_saying := PySem.W.mg_of X G a_need_saying
  have F_read : Fun K "read" "read" s_read f_read _ := fun_mk l_read c_read k_read
  have b_read := F_read.binds (ps := ["size", "text"]) fun _ _ _ _ _ _ us hl => match us, hl with | [_, _], _ => rfl
  have m_read := PySem.W.mg_of X G a_read
  have F_written : Fun K "written" "written" s_written f_written _ := fun_mk l_written c_written k_written
  have b_written := F_written.binds (ps := ["size", "words"]) fun _ _ _ _ _ _ us hl => match us, hl with | [_, _], _ => rfl
  have m_written := PySem.W.mg_of X G a_written
  have F__law_changed : Fun K "_law_changed" "_law_changed" s__law_changed f__law_changed _ := fun_mk l__law_changed c__law_changed k__law_changed
  have b__law_changed := F__law_changed.binds (ps := ["_law_row", "_law_text"]) fun _ _ _ _ _ _ us hl => match us, hl with | [_, _], _ => rfl
  have m__law_changed := PySem.W.mg_of X G a__law_changed
  have F__law_looked : Fun K "_law_looked" "_law_looked" s__law_looked f__law_looked _ := fun_mk l__law_looked c__law_looked k__law_looked
  have b__law_looked := F__law_looked.binds (ps := ["_law_words", "_law_size_here"]) fun _ _ _ _ _ _ us hl => match us, hl with | [_, _], _ => rfl
  have m__law_looked := PySem.W.mg_of X G a__law_looked
  have F__law_told : Fun K "_law_told" "_law_told" s__law_told f__law_told _ := fun_mk l__law_told c__law_told k__law_told
  have b__law_told := F__law_told.binds (ps := ["_law_size_here", "_law_text"]) fun _ _ _ _ _ _ us hl => match us, hl with | [_, _], _ => rfl
  have m__law_told := PySem.W.mg_of X G a__law_told
  have F_law : Fun K "law" "law" s_law f_law _ := fun_mk l_law c_law k_law
  have b_law := F_law.binds (ps := ["_law_script"]) fun _ _ _ _ _ _ us hl => match us, hl with | [_], _ => rfl
  have m_law := PySem.W.mg_of X G a_law
  have m_ShieldError := PySem.W.mg_of X G a_ShieldError
  have m_BadSaying := PySem.W.mg_of X G a_BadSaying
  have m_BadSize := PySem.W.mg_of X G a_BadSize
  have e_BadSize : ErrC K mg "BadSize" f_BadSize := ⟨m_BadSize, q_BadSize, k_BadSize, b_BadSize, t_BadSize⟩
  have o_BadSaying : OexC K f_BadSaying := ⟨⟨_, _, _, _, _, _, _, _, _, _, _, _, _, _, _, o_BadSayingl, o_BadSayingr⟩, o_BadSayinga, o_BadSayingb, o_BadSayingt, o_BadSayingk⟩
  have xf_BadSaying : XfC K f_BadSaying := ⟨xf_BadSayingg, xf_BadSayingk, xf_BadSayings, xf_BadSayingd⟩
  have xmP : PySem.W.exmOne K (.ref f_BadSaying) (.ref f_BadSaying) = some true := exm_own sb_BadSaying ic_BadSaying ty_BadSaying su_BadSaying_BadSaying
  have F_init : Fun K "__init__" "BadSaying.__init__" s_init f_init _ := fun_mk l_init c_init k_init
  have b_init := F_init.binds (ps := ["self", "place"]) fun _ _ _ _ _ _ us hl => match us, hl with | [_, _], _ => rfl
  have T_BadSaying : SayC K mg f_BadSaying f_init := ⟨m_BadSaying, o_BadSaying, a_init, ti_init⟩
  have m_len := PySem.W.mg_none_of X G z_len
  have m_int := PySem.W.mg_none_of X G z_int
  have m_isinstance := PySem.W.mg_none_of X G z_isinstance
  have m_list := PySem.W.mg_none_of X G z_list
  have m_tuple := PySem.W.mg_none_of X G z_tuple
  have m_range := PySem.W.mg_none_of X G z_range
  have m_bool := PySem.W.mg_none_of X G z_bool
  have m_str := PySem.W.mg_none_of X G z_str
  have m_enumerate := PySem.W.mg_none_of X G z_enumerate
  have m_SIDES := PySem.W.mg_of X G a_SIDES
  have t_SIDES : KT K f_SIDES [.int 1, .int 2, .int 4, .int 8] := ⟨_, _, _, l_SIDES, rfl, rfl, Nat.le_of_ble_eq_true rfl, .cons ⟨_, rfl⟩ <| .cons ⟨_, rfl⟩ <| .cons ⟨_, rfl⟩ <| .cons ⟨_, rfl⟩ <| .nil⟩
  have m_COLOURS := PySem.W.mg_of X G a_COLOURS
  have t_COLOURS : KT K f_COLOURS [.str "white", .str "yellow", .str "black", .str "blue", .str "green", .str "red"] := ⟨_, _, _, l_COLOURS, rfl, rfl, Nat.le_of_ble_eq_true rfl, .cons ⟨_, rfl⟩ <| .cons ⟨_, rfl⟩ <| .cons ⟨_, rfl⟩ <| .cons ⟨_, rfl⟩ <| .cons ⟨_, rfl⟩ <| .cons ⟨_, rfl⟩ <| .nil⟩
  have m_LEAST := PySem.W.mg_of X G a_LEAST
  have q_LEAST : KKeys K f_LEAST ["party", "cut", "quartered", "pillar", "band", "head", "edge"] := ⟨_, _, l_LEAST, v_LEAST, o_LEAST⟩
  have t_LEAST : LeastK K w f_LEAST := ⟨⟨_, _, l_LEAST, y_LEAST, v_LEAST⟩, fun x => (match x with | .party => ⟨_, e_LEAST_party, ⟨_, _, _, l_LEAST_party, rfl, rfl, Nat.le_of_ble_eq_true rfl, .cons ⟨_, rfl⟩ <| .cons ⟨_, rfl⟩ <| .nil⟩⟩ | .cut => ⟨_, e_LEAST_cut, ⟨_, _, _, l_LEAST_cut, rfl, rfl, Nat.le_of_ble_eq_true rfl, .cons ⟨_, rfl⟩ <| .cons ⟨_, rfl⟩ <| .nil⟩⟩ | .quartered => ⟨_, e_LEAST_quartered, ⟨_, _, _, l_LEAST_quartered, rfl, rfl, Nat.le_of_ble_eq_true rfl, .cons ⟨_, rfl⟩ <| .cons ⟨_, rfl⟩ <| .nil⟩⟩), fun x => (match x with | .pillar => ⟨_, e_LEAST_pillar, ⟨_, _, _, l_LEAST_pillar, rfl, rfl, Nat.le_of_ble_eq_true rfl, .cons ⟨_, rfl⟩ <| .cons ⟨_, rfl⟩ <| .nil⟩⟩ | .band => ⟨_, e_LEAST_band, ⟨_, _, _, l_LEAST_band, rfl, rfl, Nat.le_of_ble_eq_true rfl, .cons ⟨_, rfl⟩ <| .cons ⟨_, rfl⟩ <| .nil⟩⟩ | .head => ⟨_, e_LEAST_head, ⟨_, _, _, l_LEAST_head, rfl, rfl, Nat.le_of_ble_eq_true rfl, .cons ⟨_, rfl⟩ <| .cons ⟨_, rfl⟩ <| .nil⟩⟩ | .edge => ⟨_, e_LEAST_edge, ⟨_, _, _, l_LEAST_edge, rfl, rfl, Nat.le_of_ble_eq_true rfl, .cons ⟨_, rfl⟩ <| .cons ⟨_, rfl⟩ <| .nil⟩⟩)⟩
  have m_PIECES := PySem.W.mg_of X G a_PIECES
  have t_PIECES : KT K f_PIECES [.str "pillar", .str "band", .str "head", .str "edge"] := ⟨_, _, _, l_PIECES, rfl, rfl, Nat.le_of_ble_eq_true rfl, .cons ⟨_, rfl⟩ <| .cons ⟨_, rfl⟩ <| .cons ⟨_, rfl⟩ <| .cons ⟨_, rfl⟩ <| .nil⟩
  have m_CELL := PySem.W.mg_of X G a_CELL
  have t_CELL : KT K f_CELL [.int 1, .int 1] := ⟨_, _, _, l_CELL, rfl, rfl, Nat.le_of_ble_eq_true rfl, .cons ⟨_, rfl⟩ <| .cons ⟨_, rfl⟩ <| .nil⟩
  have m_BLANK := PySem.W.mg_of X G a_BLANK
  obtain rfl : fa = f_law := by rw [m_law] at hfa; cases hfa; rfl
  refine ⟨PySem.W.fnOf "law" "law" (defArgs (topS 34)) (defBody (topS 34)) (defScope (topS 34)) .none kV_law dc_law pm_law an_law cd_law ct_law, fun s v => .of_eq rfl, fun base _ _ => ?_⟩
  have H__law_taken : FnOk P w K mg base CX0 1 f__law_taken _ ["_law_row", "_law_many"] (spTaken K) := ok__law_taken (k := 0) F__law_taken m_len
  have A__law_taken : FnOk P w K mg base CX0 1 f__law_taken _ ["_law_row", "_law_many"] (spA K ec0 (aTaken)) := H__law_taken.imp br__law_taken
  have H__law_size : FnOk P w K mg base CX0 2 f__law_size _ ["_law_row", "_law_most"] (spSize K) := ok__law_size (k := 1) F__law_size m_len (H__law_taken.mono (by decide)) m__law_taken k__law_taken b__law_taken
  have A__law_size : FnOk P w K mg base CX0 2 f__law_size _ ["_law_row", "_law_most"] (spA K ec0 (aSize)) := H__law_size.imp br__law_size
  have H__law_cut : FnOk P w K mg base CX0 2 f__law_cut _ ["_law_row", "_law_words"] (spCut K) := ok__law_cut (k := 1) F__law_cut m_len (H__law_taken.mono (by decide)) m__law_taken k__law_taken b__law_taken
  have A__law_cut : FnOk P w K mg base CX0 2 f__law_cut _ ["_law_row", "_law_words"] (spA K ec0 (aCut)) := H__law_cut.imp br__law_cut
  have H__law_fits : FnOk P w K mg base CX0 1 f__law_fits _ ["_law_size_here", "_law_word"] (spFits K) := ok__law_fits (k := 0) F__law_fits 
  have A__law_fits : FnOk P w K mg base CX0 1 f__law_fits _ ["_law_size_here", "_law_word"] (spA K ec0 (aFits)) := H__law_fits.imp br__law_fits
  have H__law_colour : FnOk P w K mg base CX0 2 f__law_colour _ ["_law_row"] (spColour K) := ok__law_colour (k := 1) F__law_colour (H__law_taken.mono (by decide)) m__law_taken k__law_taken b__law_taken
  have H__law_part : FnOk P w K mg base CX0 1 f__law_part _ ["_law_size_here", "_law_word"] (spPart K) := ok__law_part (k := 0) F__law_part m_int
  have A__law_part : FnOk P w K mg base CX0 1 f__law_part _ ["_law_size_here", "_law_word"] (spA K ec0 (aPart_)) := H__law_part.imp br__law_part
  have R__law_saying : ∀ n, FnOk P w K mg base CX0 (2 + n) f__law_saying _ ["_law_row", "_law_size_here", "_law_deep"] (spSaying K n) := fun n => by
    induction n with
    | zero => exact fnok_none (fun vs H Q E h => by obtain ⟨_, _, _, _, _, _, h, _⟩ := h; exact absurd h (Nat.not_lt_zero _))
    | succ n ih => exact ok__law_saying (n := n) (k := 2 + n) F__law_saying m_len (H__law_fits.mono (by omega)) m__law_fits k__law_fits b__law_fits (H__law_taken.mono (by omega)) m__law_taken k__law_taken b__law_taken (H__law_colour.mono (by omega)) m__law_colour k__law_colour b__law_colour (H__law_part.mono (by omega)) m__law_part k__law_part b__law_part ih m__law_saying k__law_saying b__law_saying
  have H__law_saying : FnOk P w K mg base CX0 11 f__law_saying _ ["_law_row", "_law_size_here", "_law_deep"] (spSaying K 9) := R__law_saying 9
  have A__law_saying : FnOk P w K mg base CX0 11 f__law_saying _ ["_law_row", "_law_size_here", "_law_deep"] (spA K ec0 (aSaying)) := H__law_saying.imp br__law_saying
  have R__law_alike : ∀ n, FnOk P w K mg base CX0 (0 + n) f__law_alike _ ["_law_found", "_law_due"] (spLawAlike K n) := fun n => by
    induction n with
    | zero => exact fnok_none (fun vs H Q E h => by obtain ⟨_, _, _, _, _, _, _, h, _⟩ := h; exact absurd h (Nat.not_lt_zero _))
    | succ n ih => exact ok__law_alike (n := n) (k := 0 + n) F__law_alike m_isinstance m_list m_tuple m_len m_range m_bool m_str m_int ih m__law_alike k__law_alike b__law_alike
  have H__law_alike : FnOk P w K mg base CX0 9 f__law_alike _ ["_law_found", "_law_due"] (spLawAlike K 9) := R__law_alike 9
  have A__law_alike : FnOk P w K mg base CX0 9 f__law_alike _ ["_law_found", "_law_due"] (spA K ec0 (aLawAlike)) := H__law_alike.imp br__law_alike
  have H_init : FnOk P w K mg base CX0 1 f_init _ ["self", "place"] (spInit K f_BadSaying) := ok_init (k := 0) F_init m_ShieldError m_BadSaying o_BadSaying np_BadSaying rd_ShieldError ga_ShieldError vi_ShieldError
  have XH_need_size : FnOk P w K mg base (L2.CX P w) 1 f_need_size _ ["size"] (spNeedX K f_BadSize) := ok_need_size (k := 0) F_need_size e_BadSize m_SIDES t_SIDES
  have H_can_stand : FnOk P w K mg base CX0 1 f_can_stand _ ["size", "word"] (spCanW K) := ok_can_stand (k := 0) F_can_stand m_COLOURS t_COLOURS m_LEAST t_LEAST q_LEAST
  have H__sizes_behind : FnOk P w K mg base CX0 1 f__sizes_behind _ ["size", "word"] (spBhd K) := ok__sizes_behind (k := 0) F__sizes_behind m_COLOURS t_COLOURS m_PIECES t_PIECES m_CELL t_CELL
  have XH_word_sizes : FnOk P w K mg base (L2.CX P w) 3 f_word_sizes _ ["size", "words"] (spSizesX K f_BadSize f_BadSaying) := ok_word_sizes (k := 2) F_word_sizes e_BadSize m_BadSaying (by decide) H_init b_init T_BadSaying m_enumerate (XH_need_size.mono (by decide)) m_need_size k_need_size b_need_size (H_can_stand.mono (by decide)) m_can_stand k_can_stand b_can_stand (H__sizes_behind.mono (by decide)) m__sizes_behind k__sizes_behind b__sizes_behind
  have XA_word_sizes : FnOk P w K mg base (L2.CX P w) 3 f_word_sizes _ ["size", "words"] (spA K (ecP f_BadSize f_BadSaying) (aSizesX)) := XH_word_sizes.imp br_word_sizes
  have XA_need_saying : FnOk P w K mg base (L2.CX P w) 4 f_need_saying _ ["size", "words"] (spA K (ecP f_BadSize f_BadSaying) (aNeedSayX)) := ok_need_saying (k := 3) F_need_saying e_BadSize m_BadSaying (XA_word_sizes.mono (by decide)) m_word_sizes k_word_sizes b_word_sizes
  have XA_read : FnOk P w K mg base (L2.CX P w) 5 f_read _ ["size", "text"] (spA K (ecP f_BadSize f_BadSaying) (aReadX)) := ok_read (k := 4) F_read e_BadSize m_BadSaying m_tuple (XA_need_saying.mono (by decide)) m_need_saying k_need_saying b_need_saying m_BLANK
  have A_read := Bz.FnOk.calm XA_read
  have XA_written : FnOk P w K mg base (L2.CX P w) 5 f_written _ ["size", "words"] (spA K (ecP f_BadSize f_BadSaying) (aWrittenX)) := ok_written (k := 4) F_written e_BadSize m_BadSaying (XA_need_saying.mono (by decide)) m_need_saying k_need_saying b_need_saying m_BLANK
  have A_written := Bz.FnOk.calm XA_written
  have A__law_changed : FnOk P w K mg base CX0 2 f__law_changed _ ["_law_row", "_law_text"] (spA K ec0 (aChangedT)) := ok__law_changed (k := 1) F__law_changed m_len (A__law_taken.mono (by decide)) m__law_taken k__law_taken b__law_taken
  have A__law_looked : FnOk P w K mg base CX0 2 f__law_looked _ ["_law_words", "_law_size_here"] (spA K ec0 (aLooked)) := ok__law_looked (k := 1) F__law_looked m_range m_len (A__law_fits.mono (by decide)) m__law_fits k__law_fits b__law_fits (A__law_part.mono (by decide)) m__law_part k__law_part b__law_part
  have H__law_told : FnOk P w K mg base CX0 6 f__law_told _ ["_law_size_here", "_law_text"] (spTold K) := ok__law_told (k := 5) F__law_told e_BadSize m_BadSaying xf_BadSaying np_BadSaying xmP (XA_read.mono (by decide)) m_read k_read b_read
  have A__law_told : FnOk P w K mg base CX0 6 f__law_told _ ["_law_size_here", "_law_text"] (spA K ec0 (aTold)) := H__law_told.imp br__law_told
  have A_law : FnOk P w K mg base CX0 12 fa _ ["_law_script"] (spLaw K) := ok_law (k := 11) F_law m_range m_tuple (A__law_size.mono (by decide)) m__law_size k__law_size b__law_size (A__law_cut.mono (by decide)) m__law_cut k__law_cut b__law_cut (A__law_saying.mono (by decide)) m__law_saying k__law_saying b__law_saying (A__law_taken.mono (by decide)) m__law_taken k__law_taken b__law_taken (A__law_alike.mono (by decide)) m__law_alike k__law_alike b__law_alike (A_read.mono (by decide)) m_read k_read b_read (A_written.mono (by decide)) m_written k_written b_written (A__law_changed.mono (by decide)) m__law_changed k__law_changed b__law_changed (A__law_looked.mono (by decide)) m__law_looked k__law_looked b__law_looked (A__law_told.mono (by decide)) m__law_told k__law_told b__law_told
  exact A_law
theorem walk {l : PySem.W.OpenLaw} {q : Program} {loose : List Str} {XP : (Str → Option Value) → Heap → Prop} {YP : World → Heap → Prop} {d : DefRec} {K : Params → PySem.W.Frag} (hn : l.most = some 63) (hdf : d.params.defaults = [])
    (hY : ∀ (w : World) (h : Heap), YP w h → (K w.params).In h)
    (F : ∀ (w : World) (mg : Str → Option Value) (fa : Addr) (h : Heap), (K w.params).In h → h.Ns mainGlobals mg → mg d.name = some (.ref fa) →
      ∃ fd : FuncData, (∀ (s : Shared) (u : Value), BindsTo s fd ⟨[u], []⟩ [("_law_script", u)]) ∧ ∀ base : Heap, (K w.params).In base → base.Ns mainGlobals mg → FnOk l.prog w (K w.params) mg base CX0 12 fa fd ["_law_script"] (spLaw (K w.params))) :
    PySem.W.WalkO q loose XP YP l.row.toRowW d [] (fun f vs => PySem.call f vs) :=
  L2.walk_of (n := 63) (k := 12) (x := "_law_script") (CX := fun _ => CX0) (sp := fun w => spLaw (K w.params)) hn (by decide) hdf ⟨rfl, by decide, by decide⟩ hY F (fun _ _ a ns hl hO hS => ⟨a, ns, rfl, sqF_of hO hS, hl, fun _ => rfl⟩) fun _ _ _ _ _ z => z
end Bz
open PySem PySem.W PyProof.Rows
set_option maxRecDepth 100000 in
set_option maxHeartbeats 0 in
theorem PySem.Challenge.cw_blazonry_k12_texts_holds : PySem.Challenge.rw_blazonry_k12_texts.Holds := by
  w_on; o_law; k_head; (case hw => w_witness2)
  k_fill
  refine Bz.walk (l := PySem.Challenge.rw_blazonry_k12_texts) rfl rfl (fun w h Y => PySem.W.kIn_of Y) ?F
  case F =>
    intro w mg fa h KX G hmg
    refine' Bz.all_mk KX G hmg ?a__law_taken ?l__law_taken ?c__law_taken ?k__law_taken ?a__law_size ?l__law_size ?c__law_size ?k__law_size ?a__law_cut ?l__law_cut ?c__law_cut ?k__law_cut ?a__law_fits ?l__law_fits ?c__law_fits ?k__law_fits ?a__law_colour ?l__law_colour ?c__law_colour ?k__law_colour ?a__law_part ?l__law_part ?c__law_part ?k__law_part ?a__law_saying ?l__law_saying ?c__law_saying ?k__law_saying ?a__law_alike ?l__law_alike ?c__law_alike ?k__law_alike ?a_need_size ?l_need_size ?c_need_size ?k_need_size ?a_can_stand ?l_can_stand ?c_can_stand ?k_can_stand ?a__sizes_behind ?l__sizes_behind ?c__sizes_behind ?k__sizes_behind ?a_word_sizes ?l_word_sizes ?c_word_sizes ?k_word_sizes ?a_need_saying ?l_need_saying ?c_need_saying ?k_need_saying ?a_read ?l_read ?c_read ?k_read ?a_written ?l_written ?c_written ?k_written ?a__law_changed ?l__law_changed ?c__law_changed ?k__law_changed ?a__law_looked ?l__law_looked ?c__law_looked ?k__law_looked ?a__law_told ?l__law_told ?c__law_told ?k__law_told ?a_law ?l_law ?c_law ?k_law ?a_ShieldError ?a_BadSaying ?a_BadSize ?q_BadSize ?k_BadSize ?b_BadSize ?t_BadSize ?a_init ?l_init ?c_init ?k_init ?ti_init ?o_BadSayingl ?o_BadSayingr ?o_BadSayinga ?o_BadSayingb ?o_BadSayingt ?o_BadSayingk ?np_BadSaying ?rd_ShieldError ?ga_ShieldError ?vi_ShieldError ?xf_BadSayingg ?xf_BadSayingk ?xf_BadSayings ?xf_BadSayingd ?ic_BadSaying ?ty_BadSaying ?su_BadSaying_BadSaying ?sb_BadSaying ?z_len ?z_int ?z_isinstance ?z_list ?z_tuple ?z_range ?z_bool ?z_str ?z_enumerate ?a_SIDES ?l_SIDES ?a_COLOURS ?l_COLOURS ?a_LEAST ?l_LEAST ?y_LEAST ?v_LEAST ?o_LEAST ?e_LEAST_party ?l_LEAST_party ?e_LEAST_cut ?l_LEAST_cut ?e_LEAST_quartered ?l_LEAST_quartered ?e_LEAST_pillar ?l_LEAST_pillar ?e_LEAST_band ?l_LEAST_band ?e_LEAST_head ?l_LEAST_head ?e_LEAST_edge ?l_LEAST_edge ?a_PIECES ?l_PIECES ?a_CELL ?l_CELL ?a_BLANK
    (case a__law_taken => k_is)
    (case l__law_taken => k_is)
    (case c__law_taken => k_is)
    (case k__law_taken => k_is)
    (case a__law_size => k_is)
    (case l__law_size => k_is)
    (case c__law_size => k_is)
    (case k__law_size => k_is)
    (case a__law_cut => k_is)
    (case l__law_cut => k_is)
    (case c__law_cut => k_is)
    (case k__law_cut => k_is)
    (case a__law_fits => k_is)
    (case l__law_fits => k_is)
    (case c__law_fits => k_is)
    (case k__law_fits => k_is)
    (case a__law_colour => k_is)
    (case l__law_colour => k_is)
    (case c__law_colour => k_is)
    (case k__law_colour => k_is)
    (case a__law_part => k_is)
    (case l__law_part => k_is)
    (case c__law_part => k_is)
    (case k__law_part => k_is)
    (case a__law_saying => k_is)
    (case l__law_saying => k_is)
    (case c__law_saying => k_is)
    (case k__law_saying => k_is)
    (case a__law_alike => k_is)
    (case l__law_alike => k_is)
    (case c__law_alike => k_is)
    (case k__law_alike => k_is)
    (case a_need_size => k_is)
    (case l_need_size => k_is)
    (case c_need_size => k_is)
    (case k_need_size => k_is)
    (case a_can_stand => k_is)
    (case l_can_stand => k_is)
    (case c_can_stand => k_is)
    (case k_can_stand => k_is)
    (case a__sizes_behind => k_is)
    (case l__sizes_behind => k_is)
    (case c__sizes_behind => k_is)
    (case k__sizes_behind => k_is)
    (case a_word_sizes => k_is)
    (case l_word_sizes => k_is)
    (case c_word_sizes => k_is)
    (case k_word_sizes => k_is)
    (case a_need_saying => k_is)
    (case l_need_saying => k_is)
    (case c_need_saying => k_is)
    (case k_need_saying => k_is)
    (case a_read => k_is)
    (case l_read => k_is)
    (case c_read => k_is)
    (case k_read => k_is)
    (case a_written => k_is)
    (case l_written => k_is)
    (case c_written => k_is)
    (case k_written => k_is)
    (case a__law_changed => k_is)
    (case l__law_changed => k_is)
    (case c__law_changed => k_is)
    (case k__law_changed => k_is)
    (case a__law_looked => k_is)
    (case l__law_looked => k_is)
    (case c__law_looked => k_is)
    (case k__law_looked => k_is)
    (case a__law_told => k_is)
    (case l__law_told => k_is)
    (case c__law_told => k_is)
    (case k__law_told => k_is)
    (case a_law => k_is)
    (case l_law => k_is)
    (case c_law => k_is)
    (case k_law => k_is)
    (case a_ShieldError => k_is)
    (case a_BadSaying => k_is)
    (case a_BadSize => k_is)
    (case q_BadSize => k_exc)
    (case k_BadSize => k_is)
    (case b_BadSize => k_is)
    (case t_BadSize => k_is)
    (case a_init => k_is)
    (case l_init => k_is)
    (case c_init => k_is)
    (case k_init => k_is)
    (case ti_init => k_is)
    (case o_BadSayingl => k_is)
    (case o_BadSayingr => decide +kernel)
    (case o_BadSayinga => k_is)
    (case o_BadSayingb => k_is)
    (case o_BadSayingt => k_is)
    (case o_BadSayingk => k_is)
    (case np_BadSaying => k_is)
    (case rd_ShieldError => k_is)
    (case ga_ShieldError => k_is)
    (case vi_ShieldError => k_is)
    (case xf_BadSayingg => k_is)
    (case xf_BadSayingk => k_is)
    (case xf_BadSayings => k_is)
    (case xf_BadSayingd => k_is)
    (case ic_BadSaying => k_is)
    (case ty_BadSaying => k_is)
    (case su_BadSaying_BadSaying => k_is)
    (case sb_BadSaying => k_is)
    (case z_len => k_is)
    (case z_int => k_is)
    (case z_isinstance => k_is)
    (case z_list => k_is)
    (case z_tuple => k_is)
    (case z_range => k_is)
    (case z_bool => k_is)
    (case z_str => k_is)
    (case z_enumerate => k_is)
    (case a_SIDES => k_is)
    (case l_SIDES => k_is)
    (case a_COLOURS => k_is)
    (case l_COLOURS => k_is)
    (case a_LEAST => k_is)
    (case l_LEAST => k_is)
    (case y_LEAST => exact ⟨⟨_, _, rfl, rfl⟩, ⟨⟨_, _, rfl, rfl⟩, ⟨⟨_, _, rfl, rfl⟩, ⟨⟨_, _, rfl, rfl⟩, ⟨⟨_, _, rfl, rfl⟩, ⟨⟨_, _, rfl, rfl⟩, ⟨⟨_, _, rfl, rfl⟩, trivial⟩⟩⟩⟩⟩⟩⟩)
    (case v_LEAST => first | rfl | decide)
    (case o_LEAST => exact .cons ⟨_, rfl⟩ <| .cons ⟨_, rfl⟩ <| .cons ⟨_, rfl⟩ <| .cons ⟨_, rfl⟩ <| .cons ⟨_, rfl⟩ <| .cons ⟨_, rfl⟩ <| .cons ⟨_, rfl⟩ <| .nil)
    (case e_LEAST_party => k_is)
    (case l_LEAST_party => k_is)
    (case e_LEAST_cut => k_is)
    (case l_LEAST_cut => k_is)
    (case e_LEAST_quartered => k_is)
    (case l_LEAST_quartered => k_is)
    (case e_LEAST_pillar => k_is)
    (case l_LEAST_pillar => k_is)
    (case e_LEAST_band => k_is)
    (case l_LEAST_band => k_is)
    (case e_LEAST_head => k_is)
    (case l_LEAST_head => k_is)
    (case e_LEAST_edge => k_is)
    (case l_LEAST_edge => k_is)
    (case a_PIECES => k_is)
    (case l_PIECES => k_is)
    (case a_CELL => k_is)
    (case l_CELL => k_is)
    (case a_BLANK => k_is)
