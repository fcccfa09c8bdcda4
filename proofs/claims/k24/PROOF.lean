import PyProof.Rows.All
import Wide.All
import OpenK.AllK
import Wide.FinOn
import HandS.ForMost
import HandS.EndBits
import HandS.IsInst
import HandS.Conv
import HandS.RevRange
import HandS.Walk
import HandS.Wide
import HandS.Codes
import HandS.ForExc
import HandS.ExcInit
import HandS.ExcSuper
import KE.KSuper
import KE.RegKSuper
import KE.KExcSuper
import KE.KExcIs
import HandS.ExcField
import HandS.ExcIs
import HandS.FStr
import KE.RegKIsAll
import HandS.FStr
import HandS.IntHex
import HandS.WideBits
import KE.IntTextLaws
import KE.KIntText
import PyProof.Rows.StrMul
import PyProof.StrBlock2
import PySem.Challenge.RW_packetpicture_k24_bounds_of_the_coder
set_option Elab.async false
set_option linter.all false
set_option maxRecDepth 100000
set_option maxHeartbeats 4000000
set_option exponentiation.threshold 4000
/-! Steps of a reading, one lemma a construct; `walk_at "go"` tries them one after another. -/
namespace Gx
open PySem L2
section
variable {K : PySem.W.Frag} {σ : L2.St} {H : Hp} {Q : VK} {D : Ends} {ta tb te to ti tv : TE} {t u : TT} {tr : TA} {tu tw : TS} {x y z v : V} {i j : Int} {B : Bool → Hp → Prop} {A1 A2 : Prop} {b : Bool}
/-- a test's answer; a branch -/
def TB (x : V) (H : Hp) (Q : Bool → Hp → Prop) : Prop := ∃ k, x = .bl k ∧ Q k H
def IfP (c : Bool) (A B : Prop) : Prop := if c = true then A else B
theorem tB_ (q : TB (.bl b) H B ) : TB (.bl b) H B := q
theorem tb_go (q : B b H) : TB (.bl b) H B := ⟨b, rfl, q⟩
theorem if_t (q : A1) : IfP true A1 A2 := by unfold IfP; rw [if_pos rfl]; exact q
theorem if_f (q : A2) : IfP false A1 A2 := by unfold IfP; rw [if_neg Bool.false_ne_true]; exact q
theorem if_nt (q : A2) : IfP (!true) A1 A2 := if_f q
theorem if_nf (q : A1) : IfP (!false) A1 A2 := if_t q
theorem if_y {c : Bool} (h : c = true) (q : A1) : IfP c A1 A2 := by subst h; exact if_t q
theorem if_n {c : Bool} (h : c = false) (q : A2) : IfP c A1 A2 := by subst h; exact if_f q
theorem if_b {c : Bool} (q1 : c = true → A1) (q2 : c = false → A2) : IfP c A1 A2 := by
  cases c with
  | true => exact if_t (q1 rfl)
  | false => exact if_f (q2 rfl)
theorem if_d {p : Prop} [Decidable p] (q1 : p → A1) (q2 : ¬ p → A2) : IfP (decide p) A1 A2 := if_b (fun h => q1 (of_decide_eq_true h)) (fun h => q2 (of_decide_eq_false h))
theorem if_dn {p : Prop} [Decidable p] (q1 : ¬ p → A1) (q2 : p → A2) : IfP (!decide p) A1 A2 := by
  by_cases h : p
  · rw [decide_eq_true h]; exact if_f (q2 h)
  · rw [decide_eq_false h]; exact if_t (q1 h)
theorem if_andc {c d : Bool} {X : Prop} {B : Bool → Hp → Prop} {H : Hp} (h : B d H → X) (q : B (c && d) H) : IfP c X (B false H) := by
  cases c with
  | true => exact if_t (h q)
  | false => exact if_f q
theorem if_andf {c : Bool} (h : c = true → A2 → A1) (q : A2) : IfP c A1 A2 := by
  cases c with
  | true => exact if_t (h rfl q)
  | false => exact if_f q
theorem if_orc {c d : Bool} {X : Prop} {B : Bool → Hp → Prop} {H : Hp} (h : B d H → X) (q : B (c || d) H) : IfP c (B true H) X := by
  cases c with
  | true => exact if_t q
  | false => exact if_f (h q)
theorem if_dy {p : Prop} [Decidable p] (h : p) (q : A1) : IfP (decide p) A1 A2 := if_y (decide_eq_true h) q
theorem if_dno {p : Prop} [Decidable p] (h : ¬ p) (q : A2) : IfP (decide p) A1 A2 := if_n (decide_eq_false h) q
theorem if_two {c : Bool} {x y : Int} {σ : L2.St} {H : Hp} {Q' : VK} (q : ∀ n, (n = x ∨ n = y) → Q' (.int n) H) : IfP c (tC (.int x) σ H Q') (tC (.int y) σ H Q') := if_b (fun _ => q x (.inl rfl)) (fun _ => q y (.inr rfl))
/-- names, constants -/
theorem var {i : Nat} (h : σ[i]? = some (some v)) (q : Q v H) : tVar i σ H Q := ⟨v, h, q⟩
theorem cst (q : Q v H) : tC v σ H Q := q
/-- operators -/
theorem op {r : R2} (q : ta σ H fun x H1 => tb σ H1 fun y H2 => r x y H2 Q) : tOp r ta tb σ H Q := q
theorem un {r : V → Hp → VK → Prop} (q : ta σ H fun x H1 => r x H1 Q) : tUn r ta σ H Q := q
theorem i0 {g : Int → Int → V} (q : Q (g i j) H) : rI0 g (.int i) (.int j) H Q := ⟨i, j, rfl, rfl, q⟩
theorem ic {C : Int → Int → Prop} {g : Int → Int → V} (c : C i j) (q : Q (g i j) H) : rI C g (.int i) (.int j) H Q := ⟨i, j, rfl, rfl, c, q⟩
theorem uu {g : Int → V} (q : Q (g i) H) : rU g (.int i) H Q := ⟨i, rfl, q⟩
theorem eqv (q : Q (.bl (decide (x = y))) H) (h : scal x y = true := by rfl) : rEq x y H Q := ⟨h, q⟩
theorem nev (q : Q (.bl (!decide (x = y))) H) (h : scal x y = true := by rfl) : rNe x y H Q := ⟨h, q⟩
theorem eqI {p : Int} {q' : Int} : decide (V.int p = V.int q') = decide (p = q') := by simp
theorem eqS {p q' : Str} : decide (V.str p = V.str q') = decide (p = q') := by simp
theorem eqvI (q : Q (.bl (decide (i = j))) H) : rEq (.int i) (.int j) H Q := eqv (by rw [eqI]; exact q)
theorem nevI (q : Q (.bl (!decide (i = j))) H) : rNe (.int i) (.int j) H Q := nev (by rw [eqI]; exact q)
theorem eqvS {a b : Str} (q : Q (.bl (decide (a = b))) H) : rEq (.str a) (.str b) H Q := eqv (by rw [eqS]; exact q)
theorem nevS {a b : Str} (q : Q (.bl (!decide (a = b))) H) : rNe (.str a) (.str b) H Q := nev (by rw [eqS]; exact q)
/-- tests -/
theorem test (q : te σ H fun x H1 => TB x H1 B) : tTest te σ H B := q
theorem tB (q : te σ H fun x H1 => TB x H1 B) : L2.tB te σ H B := q
theorem and_ (q : t σ H fun c H1 => IfP c (u σ H1 B) (B false H1)) : tAnd t u σ H B := q
theorem or_ (q : t σ H fun c H1 => IfP c (B true H1) (u σ H1 B)) : tOr t u σ H B := q
theorem not_ (q : t σ H fun c H1 => B (!c) H1) : tNot t σ H B := q
theorem ifx (q : t σ H fun c H1 => IfP c (ta σ H1 Q) (tb σ H1 Q)) : tIf t ta tb σ H Q := q
/-- and, or, not as values -/
def BV (x : V) (H : Hp) (Q : Bool → Hp → Prop) : Prop := ∃ c, x = .bl c ∧ Q c H
theorem bv_go (q : B b H) : BV (.bl b) H B := ⟨b, rfl, q⟩
theorem andV (q : ta σ H fun x H1 => BV x H1 fun c H1 => IfP c (tb σ H1 Q) (Q (.bl false) H1)) : tAndV ta tb σ H Q := q
theorem orV (q : ta σ H fun x H1 => BV x H1 fun c H1 => IfP c (Q (.bl true) H1) (tb σ H1 Q)) : tOrV ta tb σ H Q := q
theorem notV (q : ta σ H fun x H1 => BV x H1 fun c H1 => Q (.bl (!c)) H1) : tNotV ta σ H Q := q
/-- or, and as values, both sides looked at without a change: one answer for what follows -/
def tOrW (ta tb : TE) : TE := tOrV ta tb
def tAndW (ta tb : TE) : TE := tAndV ta tb
theorem pe_orW {X : Cx} {e : Expr} (h : PE X e (tOrV ta tb)) : PE X e (tOrW ta tb) := h
theorem pe_andW {X : Cx} {e : Expr} (h : PE X e (tAndV ta tb)) : PE X e (tAndW ta tb) := h
def OrP (c : Bool) (tb : TE) (σ : L2.St) (H : Hp) (Q : VK) : Prop := if c = true then Q (.bl true) H else tb σ H Q
def AndP (c : Bool) (tb : TE) (σ : L2.St) (H : Hp) (Q : VK) : Prop := if c = true then tb σ H Q else Q (.bl false) H
theorem orW (q : ta σ H fun x H1 => BV x H1 fun c H1 => OrP c tb σ H1 Q) : tOrW ta tb σ H Q := q
theorem andW (q : ta σ H fun x H1 => BV x H1 fun c H1 => AndP c tb σ H1 Q) : tAndW ta tb σ H Q := q
theorem orp {c d : Bool} (h : ∀ R : VK, R (.bl d) H → tb σ H R) (q : Q (.bl (c || d)) H) : OrP c tb σ H Q := by
  cases c with
  | true => exact q
  | false => exact h _ q
theorem andp {c d : Bool} (h : ∀ R : VK, R (.bl d) H → tb σ H R) (q : Q (.bl (c && d)) H) : AndP c tb σ H Q := by
  cases c with
  | true => exact h _ q
  | false => exact q
/-- methods of texts -/
def M1P (te : TE) (r : V → List V → Hp → VK → Prop) (σ : L2.St) (x : V) (H : Hp) (Q : VK) : Prop := (∃ a, x = .str a) ∧ te σ H fun y H2 => r x [y] H2 Q
theorem m1 {r : V → List V → Hp → VK → Prop} (q : ta σ H fun x H1 => M1P te r σ x H1 Q) : tM1 r ta te σ H Q := q
theorem m1s {r : V → List V → Hp → VK → Prop} {z : Str} (q : te σ H fun y H2 => r (.str z) [y] H2 Q) : M1P te r σ (.str z) H Q := ⟨⟨z, rfl⟩, q⟩
/-- argument lists, displays -/
theorem nil {R : List V → Hp → Prop} (q : R [] H) : tNil σ H R := q
theorem cons {R : List V → Hp → Prop} (q : ta σ H fun x H1 => tr σ H1 fun xs H2 => R (x :: xs) H2) : tCons ta tr σ H R := q
/-- a new object -/
def NewP (H : Hp) (o : HO) (Q : VK) : Prop := ∀ p, H p = none → Q (.ref p) (upd H p o)
def LstP (xs : List V) (H : Hp) (Q : VK) : Prop := xs.length ≤ sizeLine ∧ NewP H (.lst xs) Q
def TupP (xs : List V) (H : Hp) (Q : VK) : Prop := xs.length ≤ sizeLine ∧ NewP H (.tup xs) Q
theorem lst (q : tr σ H fun xs H1 => LstP xs H1 Q) : tLst tr σ H Q := q
theorem tup (q : tr σ H fun xs H1 => TupP xs H1 Q) : tTup tr σ H Q := q
theorem lstP {xs : List V} (h : xs.length ≤ sizeLine) (q : ∀ p, H p = none → Q (.ref p) (upd H p (.lst xs))) : LstP xs H Q := ⟨h, q⟩
theorem tupP {xs : List V} (h : xs.length ≤ sizeLine) (q : ∀ p, H p = none → Q (.ref p) (upd H p (.tup xs))) : TupP xs H Q := ⟨h, q⟩
/-- calls -/
def CP (sp : Sp) (vs dvs : List V) (H : Hp) (Q : VK) (E : XK) : Prop := sp (vs ++ dvs) H Q E
theorem call {sp : Sp} {dvs : List V} {E : XK} (q : tr σ H fun vs H1 => CP sp vs dvs H1 Q E) : tCall sp dvs E tr σ H Q := q
theorem cb {r : List V → Hp → VK → Prop} (q : tr σ H fun vs H1 => r vs H1 Q) : tCB r tr σ H Q := q
/-- statements -/
theorem seq (q : tu { D with nx := tw D } σ H) : tSeq tu tw D σ H := q
theorem next (q : D.nx σ H) : tNext D σ H := q
theorem ret (q : te σ H D.rt) : tRet te D σ H := q
theorem retN (q : D.rt .non H) : tRetN D σ H := q
theorem drop (q : te σ H fun _ H1 => D.nx σ H1) : tDrop te D σ H := q
theorem asg {g : TG} (q : te σ H fun x H1 => g x σ H1 D.nx) : tAsg te g D σ H := q
theorem name {i : Nat} {R : L2.St → Hp → Prop} (q : R (σ.set i (some v)) H) : gName i v σ H R := q
theorem ifs {c : TT} (q : c σ H fun b H1 => IfP b (tu D σ H1) (tw D σ H1)) : tIfS c tu tw D σ H := q
theorem brk (q : D.bk σ H) : tBreak D σ H := q
theorem cnt (q : D.ct σ H) : tCont D σ H := q
def AugP (i : Nat) (x y : V) (ip : TIp) (D : Ends) (σ : L2.St) (H : Hp) : Prop := ip x y H fun z H2 => D.nx (σ.set i (some z)) H2
theorem aug {i : Nat} {tip : TIp} (h : σ[i]? = some (some x)) (q : te σ H fun y H1 => AugP i x y tip D σ H1) : tAug i te tip D σ H := ⟨x, h, q⟩
theorem augI {n : Nat} {f : Int → Int → Int} (q : D.nx (σ.set n (some (.int (f i j)))) H) : AugP n (.int i) (.int j) (ipI f) D σ H := ⟨i, j, rfl, rfl, q⟩
/-- loops: what walks (FW), for a range -/
def FW (J : It) (g : TG) (tb : TS) (D : Ends) (σ : L2.St) (H : Hp) : Prop := ∃ W : Nat → Nat → L2.St → Hp → Prop, (∃ m, W 0 m σ H) ∧ ∀ i m σ H, W i m σ H →
  (J.stop i H ∧ D.nx σ H) ∨ (J.go i H ∧ ∃ N : L2.St → Hp → Prop, (∀ σ' H', N σ' H' → ∃ m', m' < m ∧ W (i + 1) m' σ' H') ∧ ∀ x H', J.yld i H x H' → g x σ H' fun σ2 H2 => tb { D with nx := N, ct := N, bk := D.nx } σ2 H2)
theorem for_ {wi : TI} {g : TG} (q : wi σ H fun J H1 => FW J g tu D σ H1) : tFor wi g tu D σ H := q
def R1P (vs : List V) (H : Hp) (R : It → Hp → Prop) : Prop := ∃ j : Int, vs = [.int j] ∧ -(2 ^ 62) ≤ j ∧ j < 2 ^ 62 ∧ R (Itr 0 j.toNat) H
def R2P (vs : List V) (H : Hp) (R : It → Hp → Prop) : Prop := ∃ i j : Int, vs = [.int i, .int j] ∧ (-(2 ^ 62) ≤ i ∧ i < 2 ^ 62 ∧ -(2 ^ 62) ≤ j ∧ j < 2 ^ 62) ∧ R (Itr i (j - i).toNat) H
theorem rng1 {R : It → Hp → Prop} (q : tr σ H fun vs H1 => R1P vs H1 R) : iRng1 tr σ H R := q
theorem rng2 {R : It → Hp → Prop} (q : tr σ H fun vs H1 => R2P vs H1 R) : iRng2 tr σ H R := q
theorem r1 {R : It → Hp → Prop} (h1 : -(2 ^ 62) ≤ j) (h2 : j < 2 ^ 62) (q : R (Itr 0 j.toNat) H) : R1P [.int j] H R := ⟨j, rfl, h1, h2, q⟩
theorem r2 {R : It → Hp → Prop} (h1 : -(2 ^ 62) ≤ i ∧ i < 2 ^ 62 ∧ -(2 ^ 62) ≤ j ∧ j < 2 ^ 62) (q : R (Itr i (j - i).toNat) H) : R2P [.int i, .int j] H R := ⟨i, j, rfl, h1, q⟩
theorem fwR {lo : Int} {n : Nat} {g : TG} (Pv : Nat → L2.St → Hp → Prop) (h0 : Pv 0 σ H) (hs : ∀ i σ H, i < n → Pv i σ H → g (.int (lo + i)) σ H fun σ2 H2 => tu { D with nx := Pv (i + 1), ct := Pv (i + 1), bk := D.nx } σ2 H2) (hd : ∀ σ H, Pv n σ H → D.nx σ H) :
    FW (Itr lo n) g tu D σ H := for_range Pv h0 hs hd
def LP (K : PySem.W.Frag) (x : V) (H : Hp) (R : It → Hp → Prop) : Prop := ∃ a, x = .ref a ∧ (∃ xs, SqL K H a xs) ∧ R (Itl K a) H
theorem lwk {R : It → Hp → Prop} (q : te σ H fun x H1 => LP K x H1 R) : iList K te σ H R := q
theorem lp {a : Addr} {xs : List V} {R : It → Hp → Prop} (h : SqL K H a xs) (q : R (Itl K a) H) : LP K (.ref a) H R := ⟨a, rfl, ⟨xs, h⟩, q⟩
theorem fwL {a : Addr} {g : TG} (xs : List V) (Pv : Nat → L2.St → Hp → Prop) (h0 : Pv 0 σ H) (hl : ∀ i σ H, i ≤ xs.length → Pv i σ H → SqL K H a xs)
    (hs : ∀ i x σ H, xs[i]? = some x → Pv i σ H → g x σ H fun σ2 H2 => tu { D with nx := Pv (i + 1), ct := Pv (i + 1), bk := D.nx } σ2 H2) (hd : ∀ σ H, Pv xs.length σ H → D.nx σ H) : FW (Itl K a) g tu D σ H := for_list Pv h0 hl hs hd
/-- built-in functions, under names of their own -/
def rInt1 : List V → Hp → VK → Prop := fun xs H Q => (∃ i, xs = [.int i] ∧ Q (.int i) H) ∨ ∃ k, xs = [.bl k] ∧ Q (.int (if k then 1 else 0)) H
def rAbs : List V → Hp → VK → Prop := fun xs H Q => ∃ i, xs = [.int i] ∧ Q (.int (if i < 0 then -i else i)) H
def rStrI : List V → Hp → VK → Prop := fun xs H Q => ∃ i, xs = [.int i] ∧ i.natAbs.log2 < 1920 ∧ Q (.str (toString i)) H
def rLen (K : PySem.W.Frag) : List V → Hp → VK → Prop := fun xs H Q => ∃ x n, xs = [x] ∧ LenV K x H n ∧ Q (.int n) H
theorem int1 (q : Q (.int i) H) : rInt1 [.int i] H Q := .inl ⟨i, rfl, q⟩
theorem intB {k : Bool} (q : Q (.int (if k then 1 else 0)) H) : rInt1 [.bl k] H Q := .inr ⟨k, rfl, q⟩
theorem abs1 (q : Q (.int (if i < 0 then -i else i)) H) : rAbs [.int i] H Q := ⟨i, rfl, q⟩
theorem strI (h : i.natAbs.log2 < 1920) (q : Q (.str (toString i)) H) : rStrI [.int i] H Q := ⟨i, rfl, h, q⟩
theorem lenS {s : Str} (h : s.length ≤ sizeLine) (q : Q (.int (s.length : Nat)) H) : rLen K [.str s] H Q := ⟨_, _, rfl, ⟨h, rfl⟩, q⟩
theorem lenL {p : Addr} {xs : List V} (h : SqL K H p xs) (q : Q (.int (xs.length : Nat)) H) : rLen K [.ref p] H Q := ⟨_, _, rfl, .inl ⟨_, h, rfl⟩, q⟩
theorem lenT {p : Addr} {xs : List V} (h : SqT K H p xs) (q : Q (.int (xs.length : Nat)) H) : rLen K [.ref p] H Q := ⟨_, _, rfl, .inr ⟨_, h, rfl⟩, q⟩
/-- xs[i], s[i] -/
theorem ixL {p : Addr} {xs : List V} (h : SqL K H p xs) (ha : atI xs i = some v) (q : Q v H) : rIx K (.ref p) (.int i) H Q := .inl ⟨p, xs, i, v, rfl, rfl, h, ha, q⟩
theorem ixT {p : Addr} {xs : List V} (h : SqT K H p xs) (ha : atI xs i = some v) (q : Q v H) : rIx K (.ref p) (.int i) H Q := .inr (.inl ⟨p, xs, i, v, rfl, rfl, h, ha, q⟩)
theorem ixS {s : Str} {c : Nat} (h : s.length ≤ sizeLine) (ha : atI s.cps.toList i = some c) (q : Q (.str ⟨#[c]⟩) H) : rIx K (.str s) (.int i) H Q := .inr (.inr ⟨s, i, c, rfl, rfl, h, ha, q⟩)
/-- a, b = t -/
theorem gtup {n : Nat} {a : Addr} {xs : List V} {tg : TGs} {R : L2.St → Hp → Prop} (h : SqT K H a xs) (hl : xs.length = n) (q : tg xs σ H R) : gTup K n tg (.ref a) σ H R := ⟨a, xs, rfl, h, hl, q⟩
theorem gcons {g : TG} {tg : TGs} {xs : List V} {R : L2.St → Hp → Prop} (q : g v σ H fun σ' H' => tg xs σ' H' R) : gCons g tg (v :: xs) σ H R := ⟨v, xs, rfl, q⟩
theorem gnil {R : L2.St → Hp → Prop} (q : R σ H) : gNil [] σ H R := ⟨rfl, q⟩
/-- n.bit_length() -/
def BiP (x : V) (H : Hp) (Q : VK) : Prop := ∃ i, x = .int i ∧ Q (.int (Builtin.Int.intBits i : Nat)) H
/-- o.f, o.f = v, o.m(..), C(..) -/
def FP (K : PySem.W.Frag) (f : Str) (x : V) (H : Hp) (Q : VK) : Prop := ∃ a C dx fs v, x = .ref a ∧ H a = some (.ins C dx fs) ∧ Cls K C ∧ NoAttr K C f ∧ fs.lookup f = some v ∧ Q v H
theorem fld {f : Str} (q : ta σ H fun x H1 => FP K f x H1 Q) : tFld K ta f σ H Q := q
theorem fp {f : Str} {a C dx : Addr} {fs : List (Str × V)} (h : H a = some (.ins C dx fs)) (c : Cls K C) (n : NoAttr K C f) (l : fs.lookup f = some v) (q : Q v H) : FP K f (.ref a) H Q := ⟨a, C, dx, fs, v, rfl, h, c, n, l, q⟩
def SFP (K : PySem.W.Frag) (f : Str) (y x : V) (D : Ends) (σ : L2.St) (H : Hp) : Prop := ∃ a C dx fs, x = .ref a ∧ H a = some (.ins C dx fs) ∧ Cls K C ∧ NoAttr K C f ∧ fs.length < 1000 ∧ D.nx σ (upd H a (.ins C dx (putF f y fs)))
theorem sfld {f : Str} (q : tv σ H fun y H1 => ta σ H1 fun x H2 => SFP K f y x D σ H2) : sFld K ta tv f D σ H := q
theorem sfp {f : Str} {a C dx : Addr} {fs gs : List (Str × V)} (h : H a = some (.ins C dx fs)) (c : Cls K C) (n : NoAttr K C f) (l : fs.length < 1000) (e : putF f y fs = gs) (q : D.nx σ (upd H a (.ins C dx gs))) : SFP K f y (.ref a) D σ H := ⟨a, C, dx, fs, rfl, h, c, n, l, by rw [e]; exact q⟩
theorem few {f : Str} {v : V} : ∀ {fs : List (Str × V)} {k : Nat}, fs.length ≤ k → (putF f v fs).length ≤ k + 1
  | [], k, _ => Nat.succ_le_succ (Nat.zero_le k)
  | (g, u) :: r, k, h => by
    unfold putF
    split
    · exact Nat.le_succ_of_le h
    · cases k with
      | zero => cases h
      | succ k => exact Nat.succ_le_succ (few (Nat.le_of_succ_le_succ h))
def MP (C : Addr) (m : Str) (sp : Sp) (dvs : List V) (E : XK) (t : TA) (σ : L2.St) (x : V) (H : Hp) (Q : VK) : Prop := ∃ a dx fs, x = .ref a ∧ H a = some (.ins C dx fs) ∧ fs.lookup m = none ∧ t σ H fun vs H2 => sp (x :: (vs ++ dvs)) H2 Q E
theorem meth {C : Addr} {m : Str} {sp : Sp} {dvs : List V} {E : XK} (q : ta σ H fun x H1 => MP C m sp dvs E tr σ x H1 Q) : tMeth C m sp dvs E ta tr σ H Q := q
theorem mp {C a dx : Addr} {m : Str} {sp : Sp} {dvs : List V} {E : XK} {fs : List (Str × V)} (h : H a = some (.ins C dx fs)) (n : fs.lookup m = none) (q : tr σ H fun vs H2 => CP sp (.ref a :: vs) dvs H2 Q E) : MP C m sp dvs E tr σ (.ref a) H Q := ⟨a, dx, fs, rfl, h, n, q⟩
def MkP (C : Addr) (sp : Sp) (vs dvs : List V) (H : Hp) (Q : VK) (E : XK) : Prop := ∀ x dx, H x = none → H dx = none → dx ≠ x → CP sp (.ref x :: vs) dvs (upd (upd H dx (.own x)) x (.ins C dx [])) (fun v H2 => v = .non ∧ Q (.ref x) H2) E
theorem make {C : Addr} {sp : Sp} {dvs : List V} {E : XK} (q : tr σ H fun vs H1 => MkP C sp vs dvs H1 Q E) : tMake C sp dvs E tr σ H Q := q
/-- [v] * n -/
def rRepN : R2 := fun x y H Q => ∃ l k xs, x = .ref l ∧ y = .int k ∧ H l = some (.lst xs) ∧ -(2 ^ 63) ≤ k ∧ k < 2 ^ 63 ∧ xs.length * k.toNat ≤ sizeLine ∧ ∀ p, H p = none → Q (.ref p) (upd H p (.lst (List.replicate k.toNat xs).flatten))
theorem repN {l : Addr} {n : Nat} (h : H l = some (.lst [v])) (hn : n ≤ 100000) (q : ∀ p, H p = none → Q (.ref p) (upd H p (.lst (List.replicate n v)))) : rRepN (.ref l) (.int (n : Int)) H Q :=
  ⟨l, n, [v], rfl, rfl, h, by omega, by omega, by rw [Int.toNat_natCast, sizeLine_eq]; show 1 * n ≤ _; omega, fun p hp => by
    rw [Int.toNat_natCast, show (List.replicate n [v]).flatten = List.replicate n v by simp]; exact q p hp⟩
/-- xs[i] op= e -/
def rGetN (K : PySem.W.Frag) : V → V → Hp → VK → Prop := fun x y H Q => ∃ (p : Addr) (xs : List V) (i : Nat) (v : V), x = .ref p ∧ y = .int (i : Int) ∧ SqL K H p xs ∧ i < 1000000 ∧ xs[i]? = some v ∧ Q v H
def AgP (tip : TIp) (tset : TSet) (o i x y : V) (D : Ends) (σ : L2.St) (H : Hp) : Prop := tip x y H fun z H5 => tset o i z H5 fun H6 => D.nx σ H6
theorem augS {tget : V → V → Hp → VK → Prop} {tip : TIp} {tset : TSet} (q : to σ H fun o H1 => ti σ H1 fun i H2 => tget o i H2 fun x H3 => te σ H3 fun y H4 => AgP tip tset o i x y D σ H4) : tAugS to ti te tget tip tset D σ H := q
theorem getN {p : Addr} {xs : List V} {i : Nat} (h : SqL K H p xs) (hi : i < 1000000) (hx : xs[i]? = some v) (q : Q v H) : rGetN K (.ref p) (.int (i : Int)) H Q := ⟨p, xs, i, v, rfl, rfl, h, hi, hx, q⟩
theorem agL {l : Addr} {xs : List V} {k : Nat} {f : Int → Int → Int} (h : H l = some (.lst xs)) (hk : k < xs.length) (q : D.nx σ (upd H l (.lst (xs.set k (.int (f i j)))))) : AgP (ipI f) rSetL (.ref l) (.int (k : Int)) (.int i) (.int j) D σ H :=
  ⟨i, j, rfl, rfl, l, xs, k, k, rfl, rfl, h, by unfold ixN; rw [if_pos (by omega), if_pos (by omega)]; rfl, q⟩
/-- o[i] = v -/
def SbP (ti : TE) (t : TSet) (v : V) (σ : L2.St) (o : V) (H : Hp) (R : L2.St → Hp → Prop) : Prop := ti σ H fun i H2 => t o i v H2 fun H3 => R σ H3
theorem sub {ts : TSet} {R : L2.St → Hp → Prop} (q : to σ H fun o H1 => SbP ti ts v σ o H1 R) : gSub to ti ts v σ H R := q
theorem sbp {ts : TSet} {R : L2.St → Hp → Prop} (q : ti σ H fun i H2 => ts x i v H2 fun H3 => R σ H3) : SbP ti ts v σ x H R := q
theorem setL {l : Addr} {xs : List V} {k : Int} {j : Nat} {R : Hp → Prop} (h : H l = some (.lst xs)) (hk : ixN xs.length k = some j) (q : R (upd H l (.lst (xs.set j v)))) : rSetL (.ref l) (.int k) v H R := ⟨l, xs, k, j, rfl, rfl, h, hk, q⟩
/-- slices -/
def PtP (x : V) (H : Hp) (R : Option Int → Hp → Prop) : Prop := ∃ i, x = .int i ∧ R (some i) H
theorem slc {r : V → Option Int → Option Int → Hp → VK → Prop} {tl th : TO} (q : te σ H fun x H1 => tl σ H1 fun a H2 => th σ H2 fun b H3 => r x a b H3 Q) : tSl r te tl th σ H Q := q
theorem noP {R : Option Int → Hp → Prop} (q : R none H) : tNoPart σ H R := q
theorem part {R : Option Int → Hp → Prop} (q : te σ H fun x H1 => PtP x H1 R) : tPart te σ H R := q
theorem ptp {R : Option Int → Hp → Prop} (q : R (some i) H) : PtP (.int i) H R := ⟨i, rfl, q⟩
theorem slS {z : Str} {lo hi : Option Int} (h : z.length ≤ sizeLine) (q : Q (.str (cutS z lo hi)) H) : rSlS (.str z) lo hi H Q := ⟨z, rfl, h, q⟩
/-- texts put together -/
def rCatS : R2 := fun x y H Q => ∃ i j, x = .str i ∧ y = .str j ∧ i.length + j.length ≤ sizeLine ∧ Q (.str (i ++ j)) H
theorem addS {a b : Str} (h : a.length + b.length ≤ sizeLine) (q : Q (.str (a ++ b)) H) : rCatS (.str a) (.str b) H Q := ⟨a, b, rfl, rfl, h, q⟩
theorem at_map {ns : List Int} {k : Nat} (h : k < ns.length) : atI (ns.map V.int) (k : Int) = some (.int (ns.getD k 0)) := by
  refine atI_nat ?_
  rw [List.getElem?_map, List.getElem?_eq_getElem h]
  simp [List.getD_eq_getElem?_getD, List.getElem?_eq_getElem h]
/-- methods of built-in types -/
def BmP (K : PySem.W.Frag) (T : String) (r : V → List V → Hp → VK → Prop) (t : TA) (σ : L2.St) (x : V) (H : Hp) (Q : VK) : Prop := tyV K T x H ∧ t σ H fun xs H2 => r x xs H2 Q
theorem bm {T : String} {r : V → List V → Hp → VK → Prop} (q : to σ H fun x H1 => BmP K T r tr σ x H1 Q) : tBM K T r to tr σ H Q := q
theorem bmS {T : String} {r : V → List V → Hp → VK → Prop} (h : tyV K T x H) (q : tr σ H fun xs H2 => r x xs H2 Q) : BmP K T r tr σ x H Q := ⟨h, q⟩
theorem app {l : Addr} {xs : List V} (h : H l = some (.lst xs)) (hz : xs.length < sizeLine) (q : Q .non (upd H l (.lst (xs ++ [y])))) : rAppend (.ref l) [y] H Q := ⟨l, xs, y, rfl, rfl, h, hz, q⟩
theorem tyL {p : Addr} {xs : List V} (h : SqL K H p xs) : tyV K "list" (.ref p) H := .inl ⟨rfl, _, h⟩
/-- what follows is shown once, from the word between -/
theorem cut {tz : TS} (M : L2.St → Hp → Prop) (h : tu { D with nx := M } σ H) (k : ∀ σ' H', M σ' H' → tz D σ' H') : C8.tCut tu tz D σ H := ⟨M, h, k⟩
/-- while: a word that falls -/
def WhI (W : Nat → L2.St → Hp → Prop) (m : Nat) (tb : TS) (D : Ends) (σ : L2.St) (b : Bool) (H : Hp) : Prop :=
  if b = true then ∃ N : L2.St → Hp → Prop, (∀ σ' H', N σ' H' → ∃ m', m' < m ∧ W m' σ' H') ∧ tb { D with nx := N, ct := N, bk := D.nx } σ H else D.nx σ H
theorem whI_t {W : Nat → L2.St → Hp → Prop} {m : Nat} (q : tu { D with nx := fun σ' H' => ∃ m', m' < m ∧ W m' σ' H', ct := fun σ' H' => ∃ m', m' < m ∧ W m' σ' H', bk := D.nx } σ H) : WhI W m tu D σ true H := by
  unfold WhI; rw [if_pos rfl]; exact ⟨_, fun _ _ h => h, q⟩
theorem whI_f {W : Nat → L2.St → Hp → Prop} {m : Nat} (q : D.nx σ H) : WhI W m tu D σ false H := by
  unfold WhI; rw [if_neg Bool.false_ne_true]; exact q
theorem whI_d {W : Nat → L2.St → Hp → Prop} {m : Nat} {p : Prop} [Decidable p] (q1 : p → WhI W m tu D σ true H) (q2 : ¬ p → WhI W m tu D σ false H) : WhI W m tu D σ (decide p) H := by
  by_cases h : p
  · rw [decide_eq_true h]; exact q1 h
  · rw [decide_eq_false h]; exact q2 h
theorem whI_b {W : Nat → L2.St → Hp → Prop} {m : Nat} (q1 : b = true → WhI W m tu D σ true H) (q2 : b = false → WhI W m tu D σ false H) : WhI W m tu D σ b H := by
  cases b with
  | true => exact q1 rfl
  | false => exact q2 rfl
theorem whl (W : Nat → L2.St → Hp → Prop) (m0 : Nat) (h0 : W m0 σ H) (hs : ∀ m σ' H', W m σ' H' → t σ' H' fun b H1 => WhI W m tu D σ' b H1) : tWhile t tu D σ H := ⟨W, ⟨m0, h0⟩, hs⟩
/-- any walk -/
theorem fw {J : It} {n : Nat} {G : Hp → Prop} {Y : Nat → Hp → V → Hp → Prop} {g : TG} (w : Walk J n G Y) (Pv : Nat → L2.St → Hp → Prop) (h0 : Pv 0 σ H) (hG : ∀ i σ H, i ≤ n → Pv i σ H → G H)
    (hs : ∀ i x σ H H', i < n → Pv i σ H → Y i H x H' → g x σ H' fun σ2 H2 => tu { D with nx := Pv (i + 1), ct := Pv (i + 1), bk := D.nx } σ2 H2) (hd : ∀ σ H, Pv n σ H → D.nx σ H) : FW J g tu D σ H := for_it w Pv h0 hG hs hd
def StrP (x : V) (H : Hp) (R : It → Hp → Prop) : Prop := ∃ z, x = .str z ∧ R (Its z) H
theorem strw {R : It → Hp → Prop} (q : te σ H fun x H1 => StrP x H1 R) : iStr te σ H R := q
theorem strp {z : Str} {R : It → Hp → Prop} (q : R (Its z) H) : StrP (.str z) H R := ⟨z, rfl, q⟩
/-- comprehensions -/
def LcP (J : It) (g : TG) (tt : TT) (te : TE) (vs : List Nat) (σ : L2.St) (Q : VK) (H1 : Hp) : Prop := ∀ D, H1 D = none → ∃ W : Nat → Nat → Hp → Prop, (∃ m, W 0 m (upd H1 D (.lst []))) ∧ ∀ i m H, W i m H →
  (J.stop i H ∧ Q (.ref D) H) ∨ (J.go i H ∧ ∃ Nx : Hp → Prop, (∀ H', Nx H' → ∃ m', m' < m ∧ W (i + 1) m' H') ∧ ∀ x H', J.yld i H x H' → g x (wipe σ vs) H' fun σ2 H2 => wipe σ2 vs = wipe σ vs ∧ tt σ2 H2 fun b H3 =>
    if b = true then te σ2 H3 fun y H4 => ∃ acc, H4 D = some (.lst acc) ∧ acc.length < sizeLine ∧ Nx (upd H4 D (.lst (acc ++ [y]))) else Nx H3)
theorem lc {wi : TI} {g : TG} {vs : List Nat} (q : wi σ H fun J H1 => LcP J g t te vs σ Q H1) : tLc wi g t te vs σ H Q := q
def WP (A B : Prop) : Prop := A ∧ B
theorem wp (h : A1) (q : A2) : WP A1 A2 := ⟨h, q⟩
theorem yes (q : B true H) : tYes σ H B := q
theorem same_up {H H' : Hp} {p : Addr} {o : HO} (h : H p = none) (s : Same H H') : Same H (upd H' p o) := fun a u e => by rw [upd_ne (ne_of_none e h)]; exact s a u e
theorem same_new {H : Hp} {p : Addr} {o : HO} (h : H p = none) : Same H (upd H p o) := same_up h (Same.refl H)
theorem snoc {H : Hp} {p : Addr} {xs : List Int} {z : Int} : upd H p (.lst (xs.map V.int ++ [.int z])) p = some (.lst ((xs ++ [z]).map V.int)) := by rw [upd_same, List.map_append]; rfl
/-- a comprehension whose turns leave what stands: the list of the turns that are kept -/
theorem lcFil {J : It} {n : Nat} {G : Hp → Prop} {Y : Nat → Hp → V → Hp → Prop} {g : TG} {vs : List Nat} (w : Walk J n G Y) (hn : n < 16777216) (c : Nat → Bool) (f : Nat → V) (hG : ∀ H', Same H H' → G H') (hY : ∀ i H x H', Y i H x H' → Same H H')
    (hs : ∀ i x H1 H' (R : V → Hp → Prop) (R0 : Hp → Prop), i < n → Same H H1 → Y i H1 x H' → (c i = true → ∀ H4, Same H' H4 → R (f i) H4) → (c i = false → ∀ H4, Same H' H4 → R0 H4) →
      g x (wipe σ vs) H' fun σ2 H2 => WP (wipe σ2 vs = wipe σ vs) (t σ2 H2 fun b H3 => IfP b (te σ2 H3 R) (R0 H3)))
    (q : ∀ p H2, H p = none → Same H H2 → H2 p = some (.lst (((List.range n).filter c).map f)) → Q (.ref p) H2) : LcP J g t te vs σ Q H := fun p hp => by
  refine lc_it w (fun i H' => Same H H' ∧ H' p = some (.lst (((List.range i).filter c).map f))) ⟨same_new hp, upd_same⟩ (fun i H' _ h => hG H' h.1) (fun i x H1 H' hi h y => ?_) (fun H' h => q p H' hp h.1 h.2)
  obtain ⟨h1, h2⟩ := h
  have s1 := hY i H1 x H' y
  refine hs i x H1 H' _ _ hi h1 y (fun hc H4 s4 => ⟨_, s4 _ _ (s1 _ _ h2), ?_, same_up hp (h1.trans (s1.trans s4)), ?_⟩) (fun hc H4 s4 => ⟨h1.trans (s1.trans s4), ?_⟩)
  · rw [List.length_map]
    have := List.length_filter_le c (List.range i)
    rw [List.length_range] at this
    rw [sizeLine_eq]; omega
  · rw [upd_same, List.range_succ, List.filter_append, List.map_append, List.filter_cons, if_pos hc]; rfl
  · rw [List.range_succ, List.filter_append, List.map_append, List.filter_cons, if_neg (by rw [hc]; decide)]
    rw [s4 _ _ (s1 _ _ h2)]; simp
theorem lcMap {J : It} {n : Nat} {G : Hp → Prop} {Y : Nat → Hp → V → Hp → Prop} {g : TG} {vs : List Nat} (w : Walk J n G Y) (hn : n < 16777216) (f : Nat → V) (hG : ∀ H', Same H H' → G H') (hY : ∀ i H x H', Y i H x H' → Same H H')
    (hs : ∀ i x H1 H' (R : V → Hp → Prop) (R0 : Hp → Prop), i < n → Same H H1 → Y i H1 x H' → (∀ H4, Same H' H4 → R (f i) H4) →
      g x (wipe σ vs) H' fun σ2 H2 => WP (wipe σ2 vs = wipe σ vs) (t σ2 H2 fun b H3 => IfP b (te σ2 H3 R) (R0 H3)))
    (q : ∀ p H2, H p = none → Same H H2 → H2 p = some (.lst ((List.range n).map f)) → Q (.ref p) H2) : LcP J g t te vs σ Q H := by
  refine lcFil w hn (fun _ => true) f hG hY (fun i x H1 H' R R0 hi h1 y hr _ => hs i x H1 H' R R0 hi h1 y (hr rfl)) ?_
  rw [List.filter_eq_self.mpr (fun _ _ => rfl)]
  exact q
theorem sameFn {f : Nat → V} : ∀ i H x H', YFn f i H x H' → Same H H' := fun _ _ _ _ y => y.1 ▸ Same.refl _
theorem sameAt {xs : List V} : ∀ i H x H', YAt xs i H x H' → Same H H' := fun _ _ _ _ y => y.1 ▸ Same.refl _
/-- reversed ranges -/
def RrP (a b : Int) (H : Hp) (R : It → Hp → Prop) : Prop := -(2 ^ 62) ≤ a ∧ a < 2 ^ 62 ∧ -(2 ^ 62) ≤ b ∧ b < 2 ^ 62 ∧ R (Itc (a + (((b - a).toNat : Nat) : Int) - 1) (-1) (b - a).toNat) H
def Rg1P (x : V) (H : Hp) (R : Int → Int → Hp → Prop) : Prop := ∃ j, x = .int j ∧ R 0 j H
theorem rrv {tr : L2.St → Hp → (Int → Int → Hp → Prop) → Prop} {R : It → Hp → Prop} (q : tr σ H fun a b H1 => RrP a b H1 R) : iRevR tr σ H R := q
theorem rr {a b : Int} {R : It → Hp → Prop} (h : -(2 ^ 62) ≤ a ∧ a < 2 ^ 62 ∧ -(2 ^ 62) ≤ b ∧ b < 2 ^ 62) (q : R (Itc (a + (((b - a).toNat : Nat) : Int) - 1) (-1) (b - a).toNat) H) : RrP a b H R := ⟨h.1, h.2.1, h.2.2.1, h.2.2.2, q⟩
theorem rg1 {R : Int → Int → Hp → Prop} (q : ta σ H fun x H1 => Rg1P x H1 R) : tRg1 ta σ H R := q
theorem rg1p {R : Int → Int → Hp → Prop} (q : R 0 j H) : Rg1P (.int j) H R := ⟨j, rfl, q⟩
/-- isinstance with a built-in class -/
theorem isi {n : String} {tv : Value} (ty : TyX K H x tv) (q : Q (.bl b) H) (e : PySem.W.kitOne K tv (.type n) = some b) : rIsi K [x, .ty n] H Q := ⟨x, .ty n, tv, .type n, b, rfl, .ty n, ty, e, q⟩
theorem isiI {n : String} (q : Q (.bl b) H) (e : kitB "int" n = some b) : rIsi K [.int i, .ty n] H Q := isi (.base (.int i)) q (kit_ty e)
theorem isiS {n : String} {z : Str} (q : Q (.bl b) H) (e : kitB "str" n = some b) : rIsi K [.str z, .ty n] H Q := isi (.base (.str z)) q (kit_ty e)
theorem isiB {n : String} {k : Bool} (q : Q (.bl b) H) (e : kitB "bool" n = some b) : rIsi K [.bl k, .ty n] H Q := isi (.base (.bl k)) q (kit_ty e)
theorem isiN {n : String} (q : Q (.bl b) H) (e : kitB "NoneType" n = some b) : rIsi K [.non, .ty n] H Q := isi (.base .non) q (kit_ty e)
/-- int of a text, order of texts -/
def rIntS : List V → Hp → VK → Prop := fun xs H Q => ∃ a n, xs = [.str a] ∧ PySem.intText? a = some n ∧ a.length ≤ 640 ∧ Q (.int n) H
theorem intS {a : Str} {n : Int} (h : PySem.intText? a = some n) (hl : a.length ≤ 640) (q : Q (.int n) H) : rIntS [.str a] H Q := ⟨a, n, rfl, h, hl, q⟩
def rLtS : R2 := fun x y H Q => ∃ i j, x = .str i ∧ y = .str j ∧ Q (.bl (decide (i.cps.toList < j.cps.toList))) H
theorem ltS {a b : Str} (q : Q (.bl (decide (a.cps.toList < b.cps.toList))) H) : rLtS (.str a) (.str b) H Q := ⟨a, b, rfl, rfl, q⟩
theorem eqB {p q' : Bool} : decide (V.bl p = V.bl q') = decide (p = q') := by simp
theorem eqvB {a b : Bool} (q : Q (.bl (decide (a = b))) H) : rEq (.bl a) (.bl b) H Q := eqv (by rw [eqB]; exact q)
def rMin2 : List V → Hp → VK → Prop := fun xs H Q => ∃ i j, xs = [.int i, .int j] ∧ Q (.int (if j < i then j else i)) H
def rMax2 : List V → Hp → VK → Prop := fun xs H Q => ∃ i j, xs = [.int i, .int j] ∧ Q (.int (if j > i then j else i)) H
theorem min2 (q : Q (.int (if j < i then j else i)) H) : rMin2 [.int i, .int j] H Q := ⟨i, j, rfl, q⟩
theorem max2 (q : Q (.int (if j > i then j else i)) H) : rMax2 [.int i, .int j] H Q := ⟨i, j, rfl, q⟩
/-- x in (..), of ints -/
theorem inL {p : Addr} {xs : List V} {neg : Bool} (h : SqL K H p xs) (f : xs.all flatV = true) (q : Q (.bl (if neg then !inV (.int i) xs else inV (.int i) xs)) H) : rIn K neg (.int i) (.ref p) H Q := ⟨p, xs, rfl, .inl h, rfl, f, q⟩
theorem flat_ints : ∀ xs : List Int, (xs.map V.int).all flatV = true
  | [] => rfl
  | _ :: xs => by rw [List.map_cons, List.all_cons, flat_ints xs]; rfl
theorem notin_ints {z : Int} : ∀ xs : List Int, (∀ y ∈ xs, y ≠ z) → inV (.int z) (xs.map V.int) = false
  | [], _ => rfl
  | y :: xs, h => by
    have ih := notin_ints xs fun u hu => h u (List.mem_cons_of_mem _ hu)
    unfold inV at *
    rw [List.map_cons, List.any_cons, ih, Bool.or_false]
    show (y == z) = false
    exact beq_eq_false_iff_ne.mpr (h y List.mem_cons_self)
theorem inT {p : Addr} {xs : List V} {neg : Bool} (h : SqT K H p xs) (f : xs.all flatV = true) (q : Q (.bl (if neg then !inV (.int i) xs else inV (.int i) xs)) H) : rIn K neg (.int i) (.ref p) H Q := ⟨p, xs, rfl, .inr h, rfl, f, q⟩
/-- x in (..), of texts -/
theorem inLS {p : Addr} {xs : List Str} {z : Str} {neg : Bool} (h : SqL K H p (xs.map V.str)) (q : Q (.bl (if neg then !decide (z ∈ xs) else decide (z ∈ xs))) H) : rIn K neg (.str z) (.ref p) H Q := by
  have fl : ∀ xs : List Str, (xs.map V.str).all flatV = true := fun xs => by simp [flatV]
  have e : ∀ xs : List Str, inV (.str z) (xs.map V.str) = decide (z ∈ xs) := fun xs => by
    rw [Bool.eq_iff_iff, decide_eq_true_iff]
    unfold inV
    rw [List.any_map, List.any_eq_true]
    constructor
    · rintro ⟨y, hy, e⟩
      have : y = z := by simpa [eqV] using e
      rw [← this]; exact hy
    · intro hz
      exact ⟨z, hz, by simp [eqV]⟩
  exact ⟨p, _, rfl, .inl h, rfl, fl xs, by rw [e]; exact q⟩
theorem inTS {p : Addr} {xs : List Str} {z : Str} {neg : Bool} (h : SqT K H p (xs.map V.str)) (q : Q (.bl (if neg then !decide (z ∈ xs) else decide (z ∈ xs))) H) : rIn K neg (.str z) (.ref p) H Q := by
  have fl : ∀ xs : List Str, (xs.map V.str).all flatV = true := fun xs => by simp [flatV]
  have e : ∀ xs : List Str, inV (.str z) (xs.map V.str) = decide (z ∈ xs) := fun xs => by
    rw [Bool.eq_iff_iff, decide_eq_true_iff]
    unfold inV
    rw [List.any_map, List.any_eq_true]
    constructor
    · rintro ⟨y, hy, e⟩
      have : y = z := by simpa [eqV] using e
      rw [← this]; exact hy
    · intro hz
      exact ⟨z, hz, by simp [eqV]⟩
  exact ⟨p, _, rfl, .inr h, rfl, fl xs, by rw [e]; exact q⟩
/-- == of lists of ints -/
theorem eqvAll_int : ∀ xs ys : List Int, PyData.eqvAll (xs.map .int) (ys.map .int) = decide (xs = ys)
  | [], [] => by simp [PyData.eqvAll]
  | [], _ :: _ => by simp [PyData.eqvAll]
  | _ :: _, [] => by simp [PyData.eqvAll]
  | x :: xs, y :: ys => by
    simp only [List.map_cons, PyData.eqvAll, PyData.eqv, eqvAll_int xs ys]
    by_cases h : x = y
    · subst h; simp
    · simp [h]
theorem canLay_ints : ∀ xs : List Int, PyData.canLayAll0 (xs.map .int) = true
  | [] => rfl
  | _ :: xs => by simp [PyData.canLayAll0, PyData.canLay0, canLay_ints xs]
theorem depth_ints : ∀ xs : List Int, PyData.depthAll (xs.map .int) = 0
  | [] => rfl
  | _ :: xs => by simp [PyData.depthAll, PyData.depth, depth_ints xs]
theorem shaped_ints (xs : List Int) : SeqAt.shaped (.list (xs.map .int)) = true := by
  simp [SeqAt.shaped, PyData.canLay0, PyData.depth, canLay_ints, depth_ints]
theorem shaped_tints (xs : List Int) : SeqAt.shaped (.tuple (xs.map .int)) = true := by
  simp [SeqAt.shaped, PyData.canLay0, PyData.depth, canLay_ints, depth_ints]
theorem dpAll_int : ∀ xs : List Int, DpAll K H (xs.map V.int) (xs.map PyData.int)
  | [] => .nil
  | x :: xs => .cons (.int x) (dpAll_int xs)
theorem eqDI {p q' : Addr} {xs ys : List Int} (h1 : SqL K H p (xs.map V.int)) (h2 : SqL K H q' (ys.map V.int)) (q : Q (.bl (decide (xs = ys))) H) : rEqD K (.ref p) (.ref q') H Q :=
  ⟨_, _, .lst h1 (dpAll_int xs), .lst h2 (dpAll_int ys), shaped_ints xs, shaped_ints ys, by rw [show PyData.eqv (.list (xs.map .int)) (.list (ys.map .int)) = decide (xs = ys) from eqvAll_int xs ys]; exact q⟩
theorem neDI {p q' : Addr} {xs ys : List Int} (h1 : SqL K H p (xs.map V.int)) (h2 : SqL K H q' (ys.map V.int)) (q : Q (.bl (!decide (xs = ys))) H) : rNeD K (.ref p) (.ref q') H Q :=
  ⟨_, _, .lst h1 (dpAll_int xs), .lst h2 (dpAll_int ys), shaped_ints xs, shaped_ints ys, by rw [show PyData.eqv (.list (xs.map .int)) (.list (ys.map .int)) = decide (xs = ys) from eqvAll_int xs ys]; exact q⟩
theorem eqDT {p q' : Addr} {xs ys : List Int} (h1 : SqT K H p (xs.map V.int)) (h2 : SqT K H q' (ys.map V.int)) (q : Q (.bl (decide (xs = ys))) H) : rEqD K (.ref p) (.ref q') H Q :=
  ⟨_, _, .tup h1 (dpAll_int xs), .tup h2 (dpAll_int ys), shaped_tints xs, shaped_tints ys, by rw [show PyData.eqv (.tuple (xs.map .int)) (.tuple (ys.map .int)) = decide (xs = ys) from eqvAll_int xs ys]; exact q⟩
theorem neDT {p q' : Addr} {xs ys : List Int} (h1 : SqT K H p (xs.map V.int)) (h2 : SqT K H q' (ys.map V.int)) (q : Q (.bl (!decide (xs = ys))) H) : rNeD K (.ref p) (.ref q') H Q :=
  ⟨_, _, .tup h1 (dpAll_int xs), .tup h2 (dpAll_int ys), shaped_tints xs, shaped_tints ys, by rw [show PyData.eqv (.tuple (xs.map .int)) (.tuple (ys.map .int)) = decide (xs = ys) from eqvAll_int xs ys]; exact q⟩
/-- all, any, sum, list(..) of a list -/
theorem allP {p : Addr} {bs : List Bool} (h : SqL K H p (bs.map V.bl)) (q : Q (.bl (bs.all id)) H) : L2.rAll K [.ref p] H Q := ⟨p, bs, rfl, h, q⟩
theorem anyP {p : Addr} {bs : List Bool} (h : SqL K H p (bs.map V.bl)) (q : Q (.bl (bs.any id)) H) : L2.rAny K [.ref p] H Q := ⟨p, bs, rfl, h, q⟩
theorem sumP {p : Addr} {ns : List Int} (h : SqL K H p (ns.map V.int)) (q : Q (.int ns.sum) H) : L2.rSum K [.ref p] H Q := ⟨p, ns, rfl, h, q⟩
def rList (K : PySem.W.Frag) : List V → Hp → VK → Prop := fun xs H Q => ∃ p ys, xs = [.ref p] ∧ (SqL K H p ys ∨ SqT K H p ys) ∧ ∀ l, H l = none → Q (.ref l) (upd H l (.lst ys))
theorem listL {p : Addr} {xs : List V} (h : SqL K H p xs) (q : ∀ l, H l = none → Q (.ref l) (upd H l (.lst xs))) : rList K [.ref p] H Q := ⟨p, xs, rfl, .inl h, q⟩
theorem listT {p : Addr} {xs : List V} (h : SqT K H p xs) (q : ∀ l, H l = none → Q (.ref l) (upd H l (.lst xs))) : rList K [.ref p] H Q := ⟨p, xs, rfl, .inr h, q⟩
def rDivmod : List V → Hp → VK → Prop := fun xs H Q => ∃ i j, xs = [.int i, .int j] ∧ CDiv i j ∧ ∀ p, H p = none → Q (.ref p) (upd H p (.tup [.int (i / j), .int (i % j)]))
theorem dvm (c : CDiv i j) (q : ∀ p, H p = none → Q (.ref p) (upd H p (.tup [.int (i / j), .int (i % j)]))) : rDivmod [.int i, .int j] H Q := ⟨i, j, rfl, c, q⟩
theorem cat {l b : Addr} {xs zs : List V} (h1 : H l = some (.lst xs)) (h2 : H b = some (.lst zs)) (hz : xs.length + zs.length ≤ sizeLine) (q : ∀ p, H p = none → Q (.ref p) (upd H p (.lst (xs ++ zs)))) : rCat (.ref l) (.ref b) H Q := ⟨l, b, xs, zs, rfl, rfl, h1, h2, hz, q⟩
def TwP (K : PySem.W.Frag) (x : V) (H : Hp) (R : It → Hp → Prop) : Prop := ∃ a, x = .ref a ∧ (∃ xs, SqT K H a xs) ∧ R (Itt K a) H
theorem twk {R : It → Hp → Prop} (q : te σ H fun x H1 => TwP K x H1 R) : iTup K te σ H R := q
theorem twp {a : Addr} {xs : List V} {R : It → Hp → Prop} (h : SqT K H a xs) (q : R (Itt K a) H) : TwP K (.ref a) H R := ⟨a, rfl, ⟨xs, h⟩, q⟩
/-- a list of tuples of ints -/
def TL (H : Hp) (l : Addr) (n : Nat) (f : Nat → List Int) : Prop := ∃ ps : List Addr, H l = some (.lst (ps.map V.ref)) ∧ ps.length = n ∧ ∀ j a, ps[j]? = some a → H a = some (.tup ((f j).map V.int))
theorem TL.keep {H' : Hp} {l : Addr} {n : Nat} {f : Nat → List Int} (t : TL H l n f) (s : Same H H') : TL H' l n f := by
  obtain ⟨ps, h1, h2, h3⟩ := t
  exact ⟨ps, s _ _ h1, h2, fun j a e => s _ _ (h3 j a e)⟩
theorem TL.nil {l : Addr} {f : Nat → List Int} (h : H l = some (.lst [])) : TL H l 0 f := ⟨[], h, rfl, fun j a e => by cases e⟩
theorem TL.snoc {l t : Addr} {n : Nat} {f : Nat → List Int} (x : TL H l n f) (h : H t = some (.tup ((f n).map V.int))) : ∃ xs, H l = some (.lst xs) ∧ xs.length = n ∧ TL (upd H l (.lst (xs ++ [.ref t]))) l (n + 1) f := by
  obtain ⟨ps, h1, h2, h3⟩ := x
  have ne : ∀ {a : Addr} {ys : List V}, H a = some (.tup ys) → a ≠ l := fun e => ne_of e h1 (by intro z; cases z)
  refine ⟨_, h1, by rw [List.length_map]; exact h2, ps ++ [t], by rw [upd_same, List.map_append]; rfl, by rw [List.length_append, h2]; rfl, fun j a e => ?_⟩
  by_cases hj : j < ps.length
  · rw [List.getElem?_append_left hj] at e
    rw [upd_ne (ne (h3 j a e))]; exact h3 j a e
  · rw [List.getElem?_append_right (by omega)] at e
    have hj2 : j - ps.length = 0 := by
      rcases Nat.eq_zero_or_pos (j - ps.length) with z | z
      · exact z
      · rw [List.getElem?_eq_none (by show 1 ≤ _; omega)] at e; cases e
    rw [hj2] at e
    have e2 : t = a := Option.some.inj e
    subst e2
    rw [upd_ne (ne h), show j = n by omega]; exact h
theorem TL.len {l : Addr} {n : Nat} {f : Nat → List Int} (x : TL H l n f) : ∃ xs, H l = some (.lst xs) ∧ xs.length = n := by
  obtain ⟨ps, h1, h2, h3⟩ := x
  exact ⟨_, h1, by rw [List.length_map]; exact h2⟩
theorem TL.get {l : Addr} {n j : Nat} {f : Nat → List Int} (x : TL H l n f) (hj : j < n) : ∃ xs a, H l = some (.lst xs) ∧ atI xs (j : Int) = some (.ref a) ∧ H a = some (.tup ((f j).map V.int)) := by
  obtain ⟨ps, h1, h2, h3⟩ := x
  have hj2 : j < ps.length := by omega
  refine ⟨_, ps[j], h1, atI_nat ?_, h3 j _ (List.getElem?_eq_getElem hj2)⟩
  rw [List.getElem?_map, List.getElem?_eq_getElem hj2]; rfl
theorem dp_tups : ∀ (ps : List Addr) (g : Nat → List Int), (∀ j a, ps[j]? = some a → H a = some (.tup ((g j).map V.int))) → DpAll K H (ps.map V.ref) ((List.range ps.length).map fun j => PyData.tuple ((g j).map PyData.int))
  | [], _, _ => .nil
  | a :: ps, g, h => by
    rw [List.length_cons, List.range_succ_eq_map, List.map_cons, List.map_cons, List.map_map]
    exact .cons (.tup (SqT.of (h 0 a rfl)) (dpAll_int _)) (dp_tups ps (fun j => g (j + 1)) fun j b e => h (j + 1) b (by simpa using e))
theorem lay_tups : ∀ rows : List (List Int), PyData.canLayAll0 (rows.map fun r => PyData.tuple (r.map PyData.int)) = true ∧ PyData.depthAll (rows.map fun r => PyData.tuple (r.map PyData.int)) ≤ 1 ∧ PyData.eqvAll (rows.map fun r => PyData.tuple (r.map PyData.int)) (rows.map fun r => PyData.tuple (r.map PyData.int)) = true
  | [] => ⟨rfl, by simp [PyData.depthAll], by simp [PyData.eqvAll]⟩
  | r :: rows => by
    obtain ⟨h1, h2, h3⟩ := lay_tups rows
    refine ⟨by simp [PyData.canLayAll0, PyData.canLay0, canLay_ints, h1], ?_, ?_⟩
    · simp only [List.map_cons, PyData.depthAll, PyData.depth, depth_ints]; omega
    · simp [PyData.eqvAll, PyData.eqv, eqvAll_int, h3]
theorem TL.dp {l : Addr} {n : Nat} {f : Nat → List Int} (x : TL H l n f) : Dp K H (.ref l) (.list (((List.range n).map f).map fun r => PyData.tuple (r.map PyData.int))) := by
  obtain ⟨ps, h1, h2, h3⟩ := x
  have := dp_tups (K := K) ps f h3
  rw [h2] at this
  rw [List.map_map]
  exact .lst (SqL.of h1) this
theorem shaped_tups (rows : List (List Int)) : SeqAt.shaped (.list (rows.map fun r => PyData.tuple (r.map PyData.int))) = true := by
  obtain ⟨h1, h2, _⟩ := lay_tups rows
  unfold SeqAt.shaped
  simp only [PyData.canLay0, PyData.depth, h1, Bool.true_and]
  exact decide_eq_true (by omega)
theorem eqTL {l m : Addr} {n : Nat} {f : Nat → List Int} (x : TL H l n f) (y : TL H m n f) (q : Q (.bl true) H) : rEqD K (.ref l) (.ref m) H Q :=
  ⟨_, _, x.dp, y.dp, shaped_tups _, shaped_tups _, by rw [show PyData.eqv (.list (((List.range n).map f).map fun r => PyData.tuple (r.map PyData.int))) (.list (((List.range n).map f).map fun r => PyData.tuple (r.map PyData.int))) = true from (lay_tups _).2.2]; exact q⟩
theorem neTL {l m : Addr} {n : Nat} {f : Nat → List Int} (x : TL H l n f) (y : TL H m n f) (q : Q (.bl false) H) : rNeD K (.ref l) (.ref m) H Q :=
  ⟨_, _, x.dp, y.dp, shaped_tups _, shaped_tups _, by rw [show PyData.eqv (.list (((List.range n).map f).map fun r => PyData.tuple (r.map PyData.int))) (.list (((List.range n).map f).map fun r => PyData.tuple (r.map PyData.int))) = true from (lay_tups _).2.2]; exact q⟩
/-- a comprehension whose turns make a tuple each -/
theorem lcTup {J : It} {n : Nat} {G : Hp → Prop} {Y : Nat → Hp → V → Hp → Prop} {g : TG} {vs : List Nat} (w : Walk J n G Y) (hn : n < 16777216) (f : Nat → List Int) (hG : ∀ H', Same H H' → G H') (hY : ∀ i H x H', Y i H x H' → Same H H')
    (hs : ∀ i x H1 H' (R : V → Hp → Prop) (R0 : Hp → Prop), i < n → Same H H1 → Y i H1 x H' → (∀ p H4, Same H' H4 → H4 p = some (.tup ((f i).map V.int)) → R (.ref p) H4) →
      g x (wipe σ vs) H' fun σ2 H2 => WP (wipe σ2 vs = wipe σ vs) (t σ2 H2 fun b H3 => IfP b (te σ2 H3 R) (R0 H3)))
    (q : ∀ p H2, H p = none → Same H H2 → TL H2 p n f → Q (.ref p) H2) : LcP J g t te vs σ Q H := fun p hp => by
  refine lc_it w (fun i H' => Same H H' ∧ TL H' p i f) ⟨same_new hp, TL.nil upd_same⟩ (fun i H' _ h => hG H' h.1) (fun i x H1 H' hi h y => ?_) (fun H' h => q p H' hp h.1 h.2)
  obtain ⟨h1, h2⟩ := h
  have s1 := hY i H1 x H' y
  refine hs i x H1 H' _ _ hi h1 y (fun a H4 s4 ha => ?_)
  obtain ⟨xs, e1, e2, e3⟩ := (h2.keep (s1.trans s4)).snoc ha
  exact ⟨xs, e1, by rw [sizeLine_eq]; omega, same_up hp (h1.trans (s1.trans s4)), e3⟩
/-- a list of lists of ints -/
def LL (H : Hp) (l : Addr) (n : Nat) (f : Nat → List Int) : Prop := ∃ ps : List Addr, H l = some (.lst (ps.map V.ref)) ∧ ps.length = n ∧ ∀ j a, ps[j]? = some a → H a = some (.lst ((f j).map V.int))
theorem LL.keep {H' : Hp} {l : Addr} {n : Nat} {f : Nat → List Int} (t : LL H l n f) (s : Same H H') : LL H' l n f := by
  obtain ⟨ps, h1, h2, h3⟩ := t
  exact ⟨ps, s _ _ h1, h2, fun j a e => s _ _ (h3 j a e)⟩
theorem LL.nil {l : Addr} {f : Nat → List Int} (h : H l = some (.lst [])) : LL H l 0 f := ⟨[], h, rfl, fun j a e => by cases e⟩
theorem LL.snoc {l t : Addr} {n : Nat} {f : Nat → List Int} (x : LL H l n f) (h : H t = some (.lst ((f n).map V.int))) (ne : t ≠ l) : ∃ xs, H l = some (.lst xs) ∧ xs.length = n ∧ LL (upd H l (.lst (xs ++ [.ref t]))) l (n + 1) f := by
  obtain ⟨ps, h1, h2, h3⟩ := x
  have nl : ∀ {j : Nat} {a : Addr}, ps[j]? = some a → a ≠ l := fun {j a} e z => by
    have e2 := h3 j a e
    rw [z, h1] at e2
    have e3 : ps.map V.ref = (f j).map V.int := by injection e2 with e2; injection e2
    cases hp : ps with
    | nil => rw [hp] at e; cases e
    | cons b r =>
      rw [hp] at e3
      cases hf : f j with
      | nil => rw [hf] at e3; cases e3
      | cons z zs => rw [hf] at e3; injection e3 with e4; cases e4
  refine ⟨_, h1, by rw [List.length_map]; exact h2, ps ++ [t], by rw [upd_same, List.map_append]; rfl, by rw [List.length_append, h2]; rfl, fun j a e => ?_⟩
  by_cases hj : j < ps.length
  · rw [List.getElem?_append_left hj] at e
    rw [upd_ne (nl e)]; exact h3 j a e
  · rw [List.getElem?_append_right (by omega)] at e
    have hj2 : j - ps.length = 0 := by
      rcases Nat.eq_zero_or_pos (j - ps.length) with z | z
      · exact z
      · rw [List.getElem?_eq_none (by show 1 ≤ _; omega)] at e; cases e
    rw [hj2] at e
    have e2 : t = a := Option.some.inj e
    subst e2
    rw [upd_ne ne, show j = n by omega]; exact h
theorem LL.len {l : Addr} {n : Nat} {f : Nat → List Int} (x : LL H l n f) : ∃ xs, H l = some (.lst xs) ∧ xs.length = n := by
  obtain ⟨ps, h1, h2, h3⟩ := x
  exact ⟨_, h1, by rw [List.length_map]; exact h2⟩
theorem LL.all {l : Addr} {n : Nat} {f : Nat → List Int} (x : LL H l n f) : ∃ xs, H l = some (.lst xs) ∧ xs.length = n ∧ ∀ j v, xs[j]? = some v → ∃ a, v = .ref a ∧ H a = some (.lst ((f j).map V.int)) := by
  obtain ⟨ps, h1, h2, h3⟩ := x
  refine ⟨_, h1, by rw [List.length_map]; exact h2, fun j v e => ?_⟩
  rw [List.getElem?_map] at e
  cases ea : ps[j]? with
  | none => rw [ea] at e; cases e
  | some a => rw [ea] at e; exact ⟨a, (Option.some.inj e).symm, h3 j a ea⟩
theorem LL.get {l : Addr} {n j : Nat} {f : Nat → List Int} (x : LL H l n f) (hj : j < n) : ∃ xs a, H l = some (.lst xs) ∧ atI xs (j : Int) = some (.ref a) ∧ H a = some (.lst ((f j).map V.int)) := by
  obtain ⟨ps, h1, h2, h3⟩ := x
  have hj2 : j < ps.length := by omega
  refine ⟨_, ps[j], h1, atI_nat ?_, h3 j _ (List.getElem?_eq_getElem hj2)⟩
  rw [List.getElem?_map, List.getElem?_eq_getElem hj2]; rfl
theorem LL.congr {l : Addr} {n : Nat} {f g : Nat → List Int} (x : LL H l n f) (h : ∀ j, j < n → f j = g j) : LL H l n g := by
  obtain ⟨ps, h1, h2, h3⟩ := x
  refine ⟨ps, h1, h2, fun j a e => ?_⟩
  have hj : j < ps.length := by
    rcases Nat.lt_or_ge j ps.length with z | z
    · exact z
    · rw [List.getElem?_eq_none z] at e; cases e
  rw [← h j (by omega)]; exact h3 j a e
theorem dp_lists : ∀ (ps : List Addr) (g : Nat → List Int), (∀ j a, ps[j]? = some a → H a = some (.lst ((g j).map V.int))) → DpAll K H (ps.map V.ref) ((List.range ps.length).map fun j => PyData.list ((g j).map PyData.int))
  | [], _, _ => .nil
  | a :: ps, g, h => by
    rw [List.length_cons, List.range_succ_eq_map, List.map_cons, List.map_cons, List.map_map]
    exact .cons (.lst (SqL.of (h 0 a rfl)) (dpAll_int _)) (dp_lists ps (fun j => g (j + 1)) fun j b e => h (j + 1) b (by simpa using e))
theorem lay_lists : ∀ rows : List (List Int), PyData.canLayAll0 (rows.map fun r => PyData.list (r.map PyData.int)) = true ∧ PyData.depthAll (rows.map fun r => PyData.list (r.map PyData.int)) ≤ 1 ∧ PyData.eqvAll (rows.map fun r => PyData.list (r.map PyData.int)) (rows.map fun r => PyData.list (r.map PyData.int)) = true
  | [] => ⟨rfl, by simp [PyData.depthAll], by simp [PyData.eqvAll]⟩
  | r :: rows => by
    obtain ⟨h1, h2, h3⟩ := lay_lists rows
    refine ⟨by simp [PyData.canLayAll0, PyData.canLay0, canLay_ints, h1], ?_, ?_⟩
    · simp only [List.map_cons, PyData.depthAll, PyData.depth, depth_ints]; omega
    · simp [PyData.eqvAll, PyData.eqv, eqvAll_int, h3]
theorem LL.dp {l : Addr} {n : Nat} {f : Nat → List Int} (x : LL H l n f) : Dp K H (.ref l) (.list (((List.range n).map f).map fun r => PyData.list (r.map PyData.int))) := by
  obtain ⟨ps, h1, h2, h3⟩ := x
  have := dp_lists (K := K) ps f h3
  rw [h2] at this
  rw [List.map_map]
  exact .lst (SqL.of h1) this
theorem shaped_lists (rows : List (List Int)) : SeqAt.shaped (.list (rows.map fun r => PyData.list (r.map PyData.int))) = true := by
  obtain ⟨h1, h2, _⟩ := lay_lists rows
  unfold SeqAt.shaped
  simp only [PyData.canLay0, PyData.depth, h1, Bool.true_and]
  exact decide_eq_true (by omega)
theorem eqLL {l m : Addr} {n : Nat} {f : Nat → List Int} (x : LL H l n f) (y : LL H m n f) (q : Q (.bl true) H) : rEqD K (.ref l) (.ref m) H Q :=
  ⟨_, _, x.dp, y.dp, shaped_lists _, shaped_lists _, by rw [show PyData.eqv (.list (((List.range n).map f).map fun r => PyData.list (r.map PyData.int))) (.list (((List.range n).map f).map fun r => PyData.list (r.map PyData.int))) = true from (lay_lists _).2.2]; exact q⟩
/-- a comprehension whose turns make a list each -/
theorem lcLst {J : It} {n : Nat} {G : Hp → Prop} {Y : Nat → Hp → V → Hp → Prop} {g : TG} {vs : List Nat} (w : Walk J n G Y) (hn : n < 16777216) (f : Nat → List Int) (hG : ∀ H', Same H H' → G H') (hY : ∀ i H x H', Y i H x H' → Same H H')
    (hs : ∀ i x H1 H' (R : V → Hp → Prop) (R0 : Hp → Prop), i < n → Same H H1 → Y i H1 x H' → (∀ p H4, H' p = none → Same H' H4 → H4 p = some (.lst ((f i).map V.int)) → R (.ref p) H4) →
      g x (wipe σ vs) H' fun σ2 H2 => WP (wipe σ2 vs = wipe σ vs) (t σ2 H2 fun b H3 => IfP b (te σ2 H3 R) (R0 H3)))
    (q : ∀ p H2, H p = none → Same H H2 → LL H2 p n f → Q (.ref p) H2) : LcP J g t te vs σ Q H := fun p hp => by
  refine lc_it w (fun i H' => Same H H' ∧ LL H' p i f) ⟨same_new hp, LL.nil upd_same⟩ (fun i H' _ h => hG H' h.1) (fun i x H1 H' hi h y => ?_) (fun H' h => q p H' hp h.1 h.2)
  obtain ⟨h1, h2⟩ := h
  have s1 := hY i H1 x H' y
  refine hs i x H1 H' _ _ hi h1 y (fun a H4 hf s4 ha => ?_)
  obtain ⟨ys, hy, _⟩ := h2.len
  obtain ⟨xs, e1, e2, e3⟩ := (h2.keep (s1.trans s4)).snoc ha (ne_of_none (s1 _ _ hy) hf).symm
  exact ⟨xs, e1, by rw [sizeLine_eq]; omega, same_up hp (h1.trans (s1.trans s4)), e3⟩
theorem cutV_ints (xs : List Int) {b n : Nat} (h : b + n ≤ xs.length) : cutV (xs.map V.int) (some (b : Int)) (some ((b + n : Nat) : Int)) = ((xs.drop b).take n).map V.int := by
  unfold cutV
  rw [HT.sIx_nat, HT.sIx_nat, List.length_map, Nat.min_eq_left h, Nat.min_eq_left (show b ≤ xs.length by omega), Nat.add_sub_cancel_left, List.map_take, List.map_drop]
/-- a comprehension whose turns give ints that are told by a property alone -/
theorem lcInt {J : It} {n : Nat} {G : Hp → Prop} {Y : Nat → Hp → V → Hp → Prop} {g : TG} {vs : List Nat} (w : Walk J n G Y) (hn : n < 16777216) (P : Nat → Int → Prop) (hG : ∀ H', Same H H' → G H') (hY : ∀ i H x H', Y i H x H' → Same H H')
    (hs : ∀ i x H1 H' (R : V → Hp → Prop) (R0 : Hp → Prop), i < n → Same H H1 → Y i H1 x H' → (∀ z H4, P i z → Same H' H4 → R (.int z) H4) →
      g x (wipe σ vs) H' fun σ2 H2 => WP (wipe σ2 vs = wipe σ vs) (t σ2 H2 fun b H3 => IfP b (te σ2 H3 R) (R0 H3)))
    (q : ∀ (xs : List Int) (p : Addr) H2, xs.length = n → (∀ j z, xs[j]? = some z → P j z) → H p = none → Same H H2 → H2 p = some (.lst (xs.map V.int)) → Q (.ref p) H2) : LcP J g t te vs σ Q H := fun p hp => by
  refine lc_it w (fun i H' => Same H H' ∧ ∃ xs : List Int, xs.length = i ∧ (∀ j z, xs[j]? = some z → P j z) ∧ H' p = some (.lst (xs.map V.int))) ⟨same_new hp, [], rfl, (fun j z e => nomatch e), upd_same⟩ (fun i H' _ h => hG H' h.1) (fun i x H1 H' hi h y => ?_) (fun H' h => ?_)
  · obtain ⟨h1, xs, hl, hP, h2⟩ := h
    have s1 := hY i H1 x H' y
    refine hs i x H1 H' _ _ hi h1 y (fun z H4 hz s4 => ⟨_, s4 _ _ (s1 _ _ h2), by rw [List.length_map, hl, sizeLine_eq]; omega, same_up hp (h1.trans (s1.trans s4)), xs ++ [z], by rw [List.length_append, hl]; rfl, fun j u e => ?_, by rw [upd_same, List.map_append]; rfl⟩)
    by_cases hj : j < xs.length
    · rw [List.getElem?_append_left hj] at e; exact hP j u e
    · rw [List.getElem?_append_right (by omega)] at e
      have hj2 : j - xs.length = 0 := by
        rcases Nat.eq_zero_or_pos (j - xs.length) with c | c
        · exact c
        · rw [List.getElem?_eq_none (by show 1 ≤ _; omega)] at e; cases e
      rw [hj2] at e
      cases e
      rw [show j = i by omega]; exact hz
  · obtain ⟨h1, xs, hl, hP, h2⟩ := h
    exact q xs p H' hl hP hp h1 h2
/-- a comprehension over two ranges -/
def Lc2In (J1 : It) (g1 : TG) (tt1 : TT) (te : TE) (vs1 : List Nat) (D : Addr) (Nx : Hp → Prop) (σ2 : L2.St) (H4 : Hp) : Prop := ∃ W1 : Nat → Nat → Hp → Prop, (∃ m, W1 0 m H4) ∧ ∀ j k H, W1 j k H →
      (J1.stop j H ∧ Nx H) ∨ (J1.go j H ∧ ∃ Nx1 : Hp → Prop, (∀ H', Nx1 H' → ∃ k', k' < k ∧ W1 (j + 1) k' H') ∧ ∀ x H', J1.yld j H x H' → g1 x (wipe σ2 vs1) H' fun σ3 H5 => wipe σ3 vs1 = wipe σ2 vs1 ∧ tt1 σ3 H5 fun b H6 =>
        if b = true then te σ3 H6 fun y H7 => ∃ acc, H7 D = some (.lst acc) ∧ acc.length < sizeLine ∧ Nx1 (upd H7 D (.lst (acc ++ [y]))) else Nx1 H6)
def Lc2P (J : It) (g : TG) (tt : TT) (wi1 : TI) (g1 : TG) (tt1 : TT) (te : TE) (vs vs1 : List Nat) (σ : L2.St) (Q : VK) (H1 : Hp) : Prop := ∀ D, H1 D = none → ∃ W : Nat → Nat → Hp → Prop, (∃ m, W 0 m (upd H1 D (.lst []))) ∧ ∀ i m H, W i m H →
  (J.stop i H ∧ Q (.ref D) H) ∨ (J.go i H ∧ ∃ Nx : Hp → Prop, (∀ H', Nx H' → ∃ m', m' < m ∧ W (i + 1) m' H') ∧ ∀ x H', J.yld i H x H' → g x (wipe σ vs) H' fun σ2 H2 => wipe σ2 vs = wipe σ vs ∧ tt σ2 H2 fun b H3 =>
    if b = true then wi1 σ2 H3 fun J1 H4 => Lc2In J1 g1 tt1 te vs1 D Nx σ2 H4 else Nx H3)
theorem lc2 {wi wi1 : TI} {g g1 : TG} {tt tt1 : TT} {vs vs1 : List Nat} (q : wi σ H fun J H1 => Lc2P J g tt wi1 g1 tt1 te vs vs1 σ Q H1) : tLc2 wi g tt wi1 g1 tt1 te vs vs1 σ H Q := q
/-- what is made after i whole turns of the outer walk -/
def made (m : Nat) (f : Nat → Nat → V) (i : Nat) : List V := (List.range i).flatMap fun i => (List.range m).map (f i)
theorem made_len (m : Nat) (f : Nat → Nat → V) : ∀ i, (made m f i).length = i * m
  | 0 => by simp [made]
  | i + 1 => by
    have := made_len m f i
    unfold made at *
    rw [List.range_succ, List.flatMap_append, List.length_append, this, Nat.succ_mul]; simp
theorem made_succ (m : Nat) (f : Nat → Nat → V) (i : Nat) : made m f (i + 1) = made m f i ++ (List.range m).map (f i) := by
  unfold made
  rw [List.range_succ, List.flatMap_append]; simp
theorem lc2O {J : It} {n : Nat} {wi1 : TI} {g g1 : TG} {tt tt1 : TT} {vs vs1 : List Nat} {G : Hp → Prop} {Y : Nat → Hp → V → Hp → Prop} (w : Walk J n G Y) (Pv : Addr → Nat → Hp → Prop) (h0 : ∀ D, H D = none → Pv D 0 (upd H D (.lst []))) (hG : ∀ D i H', i ≤ n → Pv D i H' → G H')
    (hs : ∀ D i x H1 H', i < n → Pv D i H1 → Y i H1 x H' → g x (wipe σ vs) H' fun σ2 H2 => WP (wipe σ2 vs = wipe σ vs) (tt σ2 H2 fun b H3 => IfP b (wi1 σ2 H3 fun J1 H4 => Lc2In J1 g1 tt1 te vs1 D (Pv D (i + 1)) σ2 H4) (Pv D (i + 1) H3)))
    (hd : ∀ D H', H D = none → Pv D n H' → Q (.ref D) H') : Lc2P J g tt wi1 g1 tt1 te vs vs1 σ Q H := fun D hD => by
  refine ⟨fun i m H => m = n - i ∧ i ≤ n ∧ Pv D i H, ⟨n, by simp, Nat.zero_le _, h0 D hD⟩, ?_⟩
  rintro i m H' ⟨rfl, hi, p⟩
  have q := hG D i H' hi p
  by_cases hlt : i < n
  · refine .inr ⟨w.goes i H' hlt q, Pv D (i + 1), fun H' p' => ⟨n - (i + 1), by omega, rfl, hlt, p'⟩, fun x H2 y => hs D i x H' H2 hlt p (w.yields i H' x H2 hlt q y)⟩
  · have e : i = n := by omega
    subst e
    exact .inl ⟨w.stops H' q, hd D H' hD p⟩
theorem lc2I {J1 : It} {n : Nat} {g1 : TG} {tt1 : TT} {vs1 : List Nat} {D : Addr} {Nx : Hp → Prop} {G : Hp → Prop} {Y : Nat → Hp → V → Hp → Prop} (w : Walk J1 n G Y) (Pv : Nat → Hp → Prop) (h0 : Pv 0 H) (hG : ∀ i H', i ≤ n → Pv i H' → G H')
    (hs : ∀ i x H1 H', i < n → Pv i H1 → Y i H1 x H' → g1 x (wipe σ vs1) H' fun σ3 H5 => WP (wipe σ3 vs1 = wipe σ vs1) (tt1 σ3 H5 fun b H6 => IfP b (te σ3 H6 fun y H7 => ∃ acc, H7 D = some (.lst acc) ∧ acc.length < sizeLine ∧ Pv (i + 1) (upd H7 D (.lst (acc ++ [y])))) (Pv (i + 1) H6)))
    (hd : ∀ H', Pv n H' → Nx H') : Lc2In J1 g1 tt1 te vs1 D Nx σ H := by
  refine ⟨fun i m H => m = n - i ∧ i ≤ n ∧ Pv i H, ⟨n, by simp, Nat.zero_le _, h0⟩, ?_⟩
  rintro i m H' ⟨rfl, hi, p⟩
  have q := hG i H' hi p
  by_cases hlt : i < n
  · refine .inr ⟨w.goes i H' hlt q, Pv (i + 1), fun H' p' => ⟨n - (i + 1), by omega, rfl, hlt, p'⟩, fun x H2 y => hs i x H' H2 hlt p (w.yields i H' x H2 hlt q y)⟩
  · have e : i = n := by omega
    subst e
    exact .inl ⟨w.stops H' q, hd H' p⟩
theorem slL {a : Addr} {xs : List V} {lo hi : Option Int} (h : SqL K H a xs) (q : ∀ p, H p = none → Q (.ref p) (upd H p (.lst (cutV xs lo hi)))) : rSlL K (.ref a) lo hi H Q := ⟨a, xs, rfl, h, q⟩
theorem up_seq {p l : Addr} {xs : List V} {o : HO} (h : SqL K H p xs) (hl : H l = none) : SqL K (upd H l o) p xs := (same_new hl).seq h
end
section
variable {X : Cx}
theorem o_rep : OpR X (binaryOp .Mult) rRepN := op_rep
theorem pget_list : PGet X (rGetN X.K) := by
  intro pins s σ H o i ov iv Q I ro ri h
  obtain ⟨p, xs, k, v, rfl, rfl, hq, hk, hx, q⟩ := h
  cases ro
  obtain ⟨t, rfl⟩ := ri
  obtain ⟨its, r, pl, hz⟩ := I.list hq
  obtain ⟨w, ew, rw'⟩ := r.get hx
  exact wpAny_getItem_list pl.isList (by omega) (by omega) (by rw [Int.toNat_natCast]; simpa using ew) ⟨v, H, I, rw', q⟩
theorem o_addS : OpR X (binaryOp .Add) rCatS := op_add_str
theorem o_ltS : OpR X (compareOp .Lt) rLtS := op_lt_str
theorem c_intS : CallR X (.type "int") rIntS := call_int_str
theorem c_min2 (hc : X.calm = true) : CallR X (.builtin "min") rMin2 := call_min2 hc
theorem c_max2 (hc : X.calm = true) : CallR X (.builtin "max") rMax2 := call_max2 hc
theorem c_divmod : CallR X (.builtin "divmod") rDivmod := call_divmod
theorem c_list : CallR X (.type "list") (rList X.K) := call_list_of
theorem c_listK {K : PySem.W.Frag} (h : X.K = K) : CallR X (.type "list") (rList K) := by subst h; exact call_list_of
theorem c_isiK {K : PySem.W.Frag} (h : X.K = K) : CallR X (.builtin "isinstance") (rIsi K) := by subst h; exact call_isi
theorem c_lenK {K : PySem.W.Frag} (h : X.K = K) : CallR X (.builtin "len") (rLen K) := by subst h; exact call_len
theorem ix_seqK {K : PySem.W.Frag} (h : X.K = K) : IxR X (rIx K) := by subst h; exact ix_seq
theorem sl_listK {K : PySem.W.Frag} (h : X.K = K) : SlR X (rSlL K) := by subst h; exact sl_list
theorem pe_fldK {K : PySem.W.Frag} {e : Expr} {ta : TE} {f : Str} {pos : Pos} (h : X.K = K) (he : PE X e ta) (hb : attributeBase e f X.env (eval e X.env) = eval e X.env) : PE X (.Attribute e f pos) (tFld K ta f) := by subst h; exact pe_fld he hb
theorem c_int : CallR X (.type "int") rInt1 := call_int1
theorem c_abs : CallR X (.builtin "abs") rAbs := call_abs
theorem c_strI : CallR X (.type "str") rStrI := call_str_int
theorem c_len : CallR X (.builtin "len") (rLen X.K) := call_len
end
end Gx
local macro_rules | `(tactic| walk_at "few") => `(tactic| (refine Nat.lt_of_le_of_lt (m := 30) ?_ (by decide); repeat (first | exact Nat.zero_le _ | refine Gx.few ?_)))
local macro_rules | `(tactic| walk_at "side") => `(tactic| ((try dsimp only [L2.CMul, L2.CDiv, L2.CPow, L2.CDivN]); first | omega | decide | assumption))
local macro_rules | `(tactic| walk_at "go1") => `(tactic| (first
  | with_reducible refine Gx.seq ?_
  | with_reducible refine Gx.asg ?_
  | with_reducible refine Gx.op ?_
  | ((with_reducible refine' Gx.var ?h0 ?_); (case h0 => rfl))
  | with_reducible refine Gx.cst ?_
  | with_reducible refine Gx.i0 ?_
  | with_reducible refine Gx.name ?_
  | with_reducible refine Gx.cons ?_
  | with_reducible refine Gx.nil ?_
  | with_reducible refine Gx.call ?_
  | with_reducible refine Gx.cb ?_
  | with_reducible refine Gx.int1 ?_
  | with_reducible refine Gx.intB ?_
  | with_reducible refine Gx.abs1 ?_
  | with_reducible refine Gx.un ?_
  | with_reducible refine Gx.uu ?_
  | with_reducible refine Gx.ifs ?_
  | with_reducible refine Gx.ifx ?_
  | with_reducible refine Gx.test ?_
  | with_reducible refine Gx.tB ?_
  | with_reducible refine Gx.tb_go ?_
  | with_reducible refine Gx.bv_go ?_
  | with_reducible refine Gx.and_ ?_
  | with_reducible refine Gx.or_ ?_
  | with_reducible refine Gx.not_ ?_
  | with_reducible refine Gx.andV ?_
  | with_reducible refine Gx.m1 ?_
  | with_reducible refine Gx.m1s ?_
  | with_reducible refine Gx.orW ?_
  | with_reducible refine Gx.andW ?_
  | with_reducible refine Gx.orV ?_
  | with_reducible refine Gx.notV ?_
  | with_reducible refine Gx.eqvI ?_
  | with_reducible refine Gx.nevI ?_
  | with_reducible refine Gx.eqvS ?_
  | with_reducible refine Gx.eqvB ?_
  | with_reducible refine Gx.ltS ?_
  | with_reducible refine Gx.nevS ?_
  | with_reducible refine Gx.ret ?_
  | with_reducible refine Gx.retN ?_
  | with_reducible refine Gx.drop ?_
  | with_reducible refine Gx.next ?_
  | with_reducible refine Gx.brk ?_
  | with_reducible refine Gx.cnt ?_
  | with_reducible refine Gx.if_t ?_
  | with_reducible refine Gx.if_f ?_
  | with_reducible refine Gx.if_nt ?_
  | with_reducible refine Gx.whI_t ?_
  | with_reducible refine Gx.whI_f ?_
  | with_reducible refine Gx.if_nf ?_
  | with_reducible refine Gx.for_ ?_
  | with_reducible refine Gx.rng1 ?_
  | with_reducible refine Gx.rng2 ?_
  | with_reducible refine Gx.lwk ?_
  | with_reducible refine Gx.twk ?_
  | with_reducible refine Gx.lst ?_
  | with_reducible refine Gx.tup ?_
  | with_reducible refine Gx.bm ?_
  | with_reducible refine Gx.lc ?_
  | with_reducible refine Gx.lc2 ?_
  | with_reducible refine Gx.gcons ?_
  | with_reducible refine Gx.gnil ?_
  | with_reducible refine Gx.strw ?_
  | with_reducible refine Gx.strp ?_
  | with_reducible refine Gx.fld ?_
  | with_reducible refine Gx.sfld ?_
  | with_reducible refine Gx.meth ?_
  | with_reducible refine Gx.make ?_
  | with_reducible refine Gx.augS ?_
  | with_reducible refine Gx.sub ?_
  | with_reducible refine Gx.slc ?_
  | with_reducible refine Gx.noP ?_
  | with_reducible refine Gx.part ?_
  | with_reducible refine Gx.ptp ?_
  | with_reducible refine Gx.sbp ?_
  | ((with_reducible refine' Gx.wp ?h0 ?_); (case h0 => rfl))
  | with_reducible refine Gx.yes ?_
  | with_reducible refine Gx.rrv ?_
  | with_reducible refine Gx.rg1 ?_
  | with_reducible refine Gx.rg1p ?_
  | ((with_reducible refine' Gx.aug ?h0 ?_); (case h0 => rfl))
  | with_reducible refine Gx.augI ?_))
local macro_rules | `(tactic| walk_at "go") => `(tactic| repeat walk_at "go1")

/-! An own exception whose __init__ begins with super().__init__(e), its base chain ending at ValueError: the promise of that __init__. -/
namespace Sx
open PySem PySem.W PySem.Calls PyProof.Rows L2

/-- what the written part says of the class at C and of its __init__ at f -/
structure SupK (P : Program) (K : Frag) (mg : Str → Option Value) (C f : Addr) (fd : FuncData) (qual : Str) (st : Stmt) : Prop where
  ex : ∃ (oc : Value) (od : Option Addr) (kV doc pm ct : Value) (an : Option Addr) (cda cc : Addr) (osl : Array (Option Value)),
    fd = ksFn "__init__" qual (defArgs st) (defBody st) (defScope st) .none kV doc pm an (.ref cda) ct cc ∧ K.lookup f = some ⟨oc, od, .func fd, osl⟩ ∧ codeIn K (.ref cda) qual = true ∧
    (∃ (ccl : Value) (cdd : Option Addr) (vs : Array Value) (ccs : Array (Option Value)) (file : Str) (tf : Tok), K.lookup cda = some ⟨ccl, cdd, .fields vs, ccs⟩ ∧ vs[2]? = some (.str file tf) ∧ ((P.main.file : Str) == file) = true) ∧
    (∃ (cl : Value) (cld : Option Addr) (csl : Array (Option Value)), K.lookup cc = some ⟨cl, cld, .cell (some (.ref C)), csl⟩)
  top : (P.main.scope.names.lookup ("super" : Str)).isSome = false
  ns : mg "super" = none
  sub : mroIn K C (.ref C) = some true
  opq : nsIn K cStatics "thirdparty.any" = some none
  sup : ks_superIn K C C "__init__" = some (some (.builtin "ValueError.__init__"))
  isV : subIn K (.ref C) (.type "ValueError") = some true

/-- the scope of such an __init__ -/
structure SupScope (N P : List Str) (sc : Scope) : Prop where
  kind : sc.kind = .function
  co : sc.isCoroutine = false
  gen : sc.isGenerator = false
  nd : N.Nodup
  pre : N.take P.length = P
  par : ∀ x ∈ P, sc.names.lookup x = some .local
  nocell : ∀ y ∈ sc.names, y.2 ≠ .cell
  free : ∀ y ∈ sc.names, y.2 = .free → y.1 = "__class__"
  ks : sc.names.lookup ("super" : Str) = some .globalImplicit
  kc : sc.names.lookup ("__class__" : Str) = some .free

def cxS (P : Program) (w : World) (K : Frag) (mg : Str → Option Value) (base : Heap) (N : List Str) (qual : Str) (scope : Scope) (f cda cc : Addr) (A : Around) (outer : List Env) (s : Shared) (H : Hp) : Cx where
  prog := P
  w := w
  K := K
  mg := mg
  base := base
  A := A.deeper (ksEnv qual scope s.heap.objs.size f (.ref cda) cc)
  N := N
  s_0 := s
  H_0 := H
  env := ksEnv qual scope s.heap.objs.size f (.ref cda) cc
  outer := outer
  stack := ksEnv qual scope s.heap.objs.size f (.ref cda) cc :: outer
  ex := []
  calm := true
  fn := fun _ => false
  pn := []
  xe := fun _ _ => False

theorem start_at {N : List Str} {vs : List V} {i : Nat} {v : V} (h : (L2.start N vs)[i]? = some (some v)) : vs[i]? = some v := by
  rcases Nat.lt_or_ge i vs.length with q | q
  · simpa [L2.start, List.getElem?_append, q] using h
  · simp [L2.start, List.getElem?_append, Nat.not_lt.mpr q, List.getElem?_replicate] at h
theorem inv_sup {P : Program} {w : World} {K : Frag} {mg : Str → Option Value} {base : Heap} {N ps : List Str} {qual : Str} {scope : Scope} {f cda cc C : Addr} {A : Around} {outer : List Env} {s : Shared} {H : Hp} {us : List Value} {vs : List V} {cl : Value} {cld : Option Addr} {csl : Array (Option Value)} {h1 : Heap} {t : Nat}
    (S : SupScope N ps scope) (hd : A.handled = none) (e0 : Env0 P w K mg base A outer s H) (hl : vs.length = ps.length) (r : Vals vs us) (hcc : K.lookup cc = some ⟨cl, cld, .cell (some (.ref C)), csl⟩)
    (hn : h1.Ns s.heap.objs.size (fun x => (ps.zip us).reverse.lookup x)) (hk : ∀ b o, s.heap.get? b = some o → h1.get? b = some o) :
    Inv (cxS P w K mg base N qual scope f cda cc A outer s H) [] (L2.start N vs) H { s with heap := h1, toks := t } := by
  have hpl : ps.length ≤ N.length := by have := congrArg List.length S.pre; rw [List.length_take] at this; omega
  have noA : ∀ b : Addr, b ∉ (cxS P w K mg base N qual scope f cda cc A outer s H).ex := fun b z => absurd (show b ∈ ([] : List Addr) from z) (by simp)
  have bcc : base.get? cc = some ⟨cl, cld, .cell (some (.ref C)), csl⟩ := e0.mod.kin _ _ hcc
  have one : ∀ {x : Str} {c : Addr}, ([(("__class__" : Str), cc)] : List (Str × Addr)).lookup x = some c → x = "__class__" ∧ c = cc := fun {x c} e => by
    by_cases hx : x = ("__class__" : Str)
    · subst hx
      simp [List.lookup] at e
      exact ⟨rfl, e.symm⟩
    · have hb : (x == ("__class__" : Str)) = false := beq_eq_false_iff_ne.mpr hx
      simp [List.lookup, hb] at e
  refine ⟨⟨e0.mod, S.kind, rfl, rfl, Nat.le_refl _, fun y z c h1 h2 => ?_, fun y hy => ?_, fun y c h _ => (Bool.noConfusion h), fun _ => hd, Around.frames_deeper e0.frames, .inr ⟨rfl, rfl⟩, fun b z => absurd z (noA b), e0.bs, e0.bsz, fun b _ _ => noA b, fun b z => absurd z (noA b), e0.funs, e0.frf⟩,
    rfl, e0.bare, Un.kept hk, ⟨_, hn, fun i y v h1 h2 h3 => ?_⟩, fun y c h => ⟨some (.ref C), ?_⟩, e0.hok.fresh (Nat.le_refl _), fun y c h => ?_, fun p hp => absurd (show p ∈ ([] : List (Addr × Obj)) from hp) (by simp), e0.hok.kept hk, ?_⟩
  · exact (one h1).1.trans (one h2).1.symm
  · have hy : scope.names.lookup y = some .cell ∨ scope.names.lookup y = some .free := hy
    rcases hy with hy | hy
    · exact absurd rfl (S.nocell _ (PySem.mem_of_lookup hy))
    · have := S.free _ (PySem.mem_of_lookup hy) rfl
      dsimp only at this
      subst this
      exact ⟨cc, rfl⟩
  · have ha := start_at h2
    have hi : i < vs.length := (List.getElem?_eq_some_iff.mp ha).1
    obtain ⟨u, hu, rv⟩ := r.get ha
    have hp : ps[i]? = some y := by
      rw [← S.pre, List.getElem?_take_of_lt (by omega)]; exact h1
    have ndP : ps.Nodup := by rw [← S.pre]; exact S.nd.sublist (List.take_sublist _ _)
    refine ⟨u, rv, .inl ⟨S.par y (List.mem_of_getElem? hp), ?_⟩⟩
    have hul : us.length = ps.length := by rw [← r.length]; exact hl
    show (ps.zip us).reverse.lookup y = some u
    have mem : (y, u) ∈ (ps.zip us).reverse := List.mem_reverse.mpr (List.mem_of_getElem? (i := i) (by rw [List.getElem?_zip_eq_some]; exact ⟨hp, hu⟩))
    have keys : ∀ v', (y, v') ∈ (ps.zip us).reverse → v' = u := fun v' hm => by
      rw [List.mem_reverse, List.mem_iff_getElem?] at hm
      obtain ⟨j, hj⟩ := hm
      rw [List.getElem?_zip_eq_some] at hj
      have hij : j = i := by
        have hjl : j < ps.length := (List.getElem?_eq_some_iff.mp hj.1).1
        have hil : i < ps.length := (List.getElem?_eq_some_iff.mp hp).1
        exact (List.getElem?_inj hjl ndP).mp (hj.1.trans hp.symm)
      rw [hij, hu] at hj
      exact (Option.some.inj hj.2).symm
    cases hlk : (ps.zip us).reverse.lookup y with
    | none =>
      exfalso
      have := List.lookup_eq_none_iff.mp hlk _ mem
      simp at this
    | some v' => rw [keys v' (PySem.mem_of_lookup hlk)]
  · obtain ⟨rfl, rfl⟩ := one h
    exact ⟨_, hk _ _ (e0.bs _ _ bcc).1, rfl⟩
  · obtain ⟨rfl, rfl⟩ := one h
    exact (e0.bs _ _ bcc).2
  · show (vs.map some ++ List.replicate (N.length - vs.length) none).length = N.length
    rw [List.length_append, List.length_map, List.length_replicate]; omega

theorem ex_O {C t : Addr} : excObj C t none .none = ({ cls := .ref C, dict := none, data := .fields #[.ref t, .none, .none, .none, .bool false, .none] } : Obj) := rfl

/-- the method-wrapper called: the args are laid anew, nothing of it is told -/
theorem sup_call {X : Cx} {pins : List (Addr × Obj)} {σ : L2.St} {H : Hp} {s : Shared} {a u C : Addr} {us : List Value} {Q : Value → Shared → Prop} {A : Around} {E : Value → Shared → Prop} (T : OexC X.K C) (I : Inv X pins σ H s) (e : H a = some (exo a C none)) (hu : s.heap.get? u = some (kxs_mw "ValueError.__init__" a)) (hl : us.length ≤ sizeLine)
    (h : ∀ s', Inv X pins σ H s' → Q .none s') : wpAny (model X.prog X.w) A (call (.ref u) us) Q E s := by
  obtain ⟨nm, q, N, bs, bm, sn, sub, ab, col, dd, k0, k1, k2, k3, k5, hC, hbm⟩ := T.cls
  obtain ⟨t1, ho⟩ := exo_at I.hok e
  have hCh := I.kIn _ _ hC
  obtain ⟨hp, g, d, t, os⟩ := s
  have fin : ∀ h', (∀ b o, b ≠ a → hp.get? b = some o → h'.get? b = some o) → h'.get? a = some (excObj C hp.objs.size none .none) → h'.get? hp.objs.size = some (excTup us) → Q .none ⟨h', g, d, t, os⟩ := fun h' k hx _ => by
    have J := I.write (t' := t) (x := a) (e := a) (o := exo a C none) (by rw [e]; exact True.intro) (.inl rfl) k ⟨_, hx⟩ (exo_ok hx)
    have eu : upd H a (exo a C none) = H := by
      funext b
      by_cases hb : b = a
      · rw [hb, upd_same, e]
      · rw [upd_ne hb]
    rw [eu] at J
    exact h _ J
  refine wpAny_call (codeAny_of_tree ?_)
  show wpAny _ A.in1 (callAny (.ref u) ⟨us, []⟩) _ _ _
  simp only [callAny]
  refine wpAny_bind (wpAny_load hu ?_)
  simp only [kxs_mw, show (Value.type "method-wrapper" == Value.type "method" || Value.type "method-wrapper" == Value.type "builtin_function_or_method" || Value.type "method-wrapper" == Value.type "method-wrapper") = true by decide, if_true]
  refine KFB.if_so (by decide) ?_
  refine wpAny_bind (check_bound_init F.excBase_ValueError.toExcCallFacts hCh ho rfl ?_)
  refine wpAny_bind (wpAny_pure (wpAny_pure ?_))
  refine ⟨plainId_quiet F.excBase_ValueError.init.plain _, codeAny_builtin F.excBase_ValueError.initEntry ?_⟩
  exact exc_init_tree (cls := .ref C) (t0 := t1) (dv := none) (c2 := .none) (c3 := .none) (b4 := .bool false) ho hl fin

/-- super() in a body -/
theorem sup_base {P : Program} {w : World} {K : Frag} {mg : Str → Option Value} {base : Heap} {N : List Str} {qual : Str} {scope : Scope} {f cda cc C a : Addr} {A : Around} {outer : List Env} {s0 s : Shared} {H0 H : Hp} {pins : List (Addr × Obj)} {σ : L2.St} {fd : FuncData} {ar : Arg} {body : List Stmt} {p0 p1 : Pos} {attr : Str} {whole : Sem Value}
    {oc cl ccl : Value} {od cld cdd : Option Addr} {osl csl ccs : Array (Option Value)} {vs : Array Value} {file : Str} {tf : Tok} {Q : Value → Shared → Prop} {E : Value → Shared → Prop} {N0 ps : List Str}
    (S : SupScope N0 ps scope) (T : OexC K C) (I : Inv (cxS P w K mg base N qual scope f cda cc A outer s0 H0) pins σ H s) (e : H a = some (exo a C none)) (lkf : K.lookup f = some ⟨oc, od, .func fd, osl⟩) (hp : (fd.params.posonlyargs ++ fd.params.args).head? = some ar) (hlo : scope.names.lookup ar.arg = some .local)
    (hN : N[0]? = some ar.arg) (hσ : σ[0]? = some (some (.ref a)))
    (hcode : K.lookup cda = some ⟨ccl, cdd, .fields vs, ccs⟩) (hvs : vs[2]? = some (.str file tf)) (hfile : ((P.main.file : Str) == file) = true) (hcc : K.lookup cc = some ⟨cl, cld, .cell (some (.ref C)), csl⟩) (hsub : mroIn K C (.ref C) = some true) (hns : mg "super" = none)
    (htop : (P.main.scope.names.lookup ("super" : Str)).isSome = false) (hat : (attr == ("__class__" : Str)) = false)
    (h : ∀ so h', (∀ b o, s.heap.get? b = some o → h'.get? b = some o) → h'.get? so = some (ks_superObj C a C) → Q (.ref so) { s with heap := h' }) :
    PySem.wpAt (model P w) (A.deeper (ksEnv qual scope s0.heap.objs.size f (.ref cda) cc)) (.func body (ksEnv qual scope s0.heap.objs.size f (.ref cda) cc))
      (attributeBase (.Call (.Name "super" p0) [] [] p1) attr (ksEnv qual scope s0.heap.objs.size f (.ref cda) cc) whole) Q E s := by
  have KX : K.In s.heap := I.kIn
  obtain ⟨nm, q, NN, bs, bm, sn, sub, ab, col, dd, k0, k1, k2, k3, k5, hC, hbm⟩ := T.cls
  have hCh := KX _ _ hC
  obtain ⟨t1, ho⟩ := exo_at I.hok e
  obtain ⟨m, hm, hlook⟩ := I.loc
  obtain ⟨mb, b1, b2⟩ := I.ok.mod.blt
  have hv : m ar.arg = some (.ref a) := by
    obtain ⟨u, ru, lk⟩ := hlook 0 _ _ hN hσ (.inl hlo)
    obtain rfl : u = .ref a := ru
    rcases lk with ⟨_, z⟩ | ⟨z, _⟩
    · exact z
    · have z : scope.names.lookup ar.arg = some .cell ∨ scope.names.lookup ar.arg = some .free := z
      rw [hlo] at z
      rcases z with z | z <;> cases z
  have hglob : s.heap.Ns mainGlobals mg := I.ok.mod.glob.keeps I.bk
  have hblt : s.heap.Ns builtinsNs mb := b1.keeps I.bk
  obtain ⟨hh, g, d, t, os⟩ := s
  refine ks_wpAt_super_base (env := ksEnv qual scope s0.heap.objs.size f (.ref cda) cc) S.ks S.kc hat rfl (KX _ _ lkf) rfl hp rfl (KX _ _ hcode) rfl hvs hfile htop ?_
  refine ks_loadName_global S.kind S.ks (loadGlobal_builtin (env := ksEnv qual scope s0.heap.objs.size f (.ref cda) cc) hglob hns hblt ((b2 "super" (by decide)).trans (by first | rfl | kernel_rfl)) ⟨rfl, ?_⟩)
  refine wpAny_loadName_free S.kind S.kc rfl ⟨_, KX _ _ hcc, rfl⟩ ?_
  refine wpAny_loadName_local S.kind hlo hm hv ?_
  refine ks_wpAny_isType_cls hCh rfl ⟨rfl, ?_⟩
  refine ks_wpAny_call_super hCh rfl ho rfl (fun c e => by cases e) (looks_mroIn KX hsub) (fun h' e' k => ?_)
  exact h _ _ (fun b o x => k b o x) e'

/-- THE RULE for an __init__ that begins with super().__init__(e, ..) -/
theorem fn_sup {P : Program} {w : World} {K : Frag} {mg : Str → Option Value} {base : Heap} {k : Nat} {C f : Addr} {fd : FuncData} {qual : Str} {st : Stmt} {N ps : List Str} {sp : Sp} {e : Expr} {es : List Expr} {p0 p1 p2 p3 p4 : Pos} {rest : List Stmt} {ar : Arg}
    (T : OexC K C) (F : SupK P K mg C f fd qual st) (S : SupScope N ps (defScope st)) (len : ∀ vs H Q E, sp vs H Q E → vs.length = ps.length)
    (hbd : defBody st = .Expr (.Call (.Attribute (.Call (.Name "super" p0) [] [] p1) "__init__" p2) (e :: es) [] p3) p4 :: rest)
    (har : ((defArgs st).posonlyargs ++ (defArgs st).args).head? = some ar) (hlo : (defScope st).names.lookup ar.arg = some .local) (hN : N[0]? = some ar.arg)
    (he : ∀ env, starEach (e :: es) env = (false, eval e env) :: starEach es env) (hev : ∀ env, ∃ pl : Sem Bool, eval (.Call (.Attribute (.Call (.Name "super" p0) [] [] p1) "__init__" p2) (e :: es) [] p3) env = (do
      let ov ← attributeBase (.Call (.Name "super" p0) [] [] p1) "__init__" env (eval (.Call (.Name "super" p0) [] [] p1) env)
      standAt p2.atName
      let (f, first) ← holding [ov] (getMethod ov "__init__" pl)
      callWith p3 f first (backTo p3 (starEach (e :: es) env)) []))
    (hpl : ∀ env, (backTo p3 (starEach es env)).any (·.1) = false)
    (hbody : ∀ (cda cc : Addr) (A : Around) (outer : List Env) (s : Shared) (H : Hp) (vs : List V) (Q : VK) (E : XK), sp vs H Q E →
      ∃ ta t a ws, PA (cxS P w K mg base N qual (defScope st) f cda cc A outer s H) (e :: es) ta ∧ PSs (cxS P w K mg base N qual (defScope st) f cda cc A outer s H) rest t ∧ vs = .ref a :: ws ∧ H a = some (exo a C none) ∧
        ta (L2.start N vs) H fun us H1 => us.length ≤ 1000 ∧ H1 a = some (exo a C none) ∧ t { nx := fun _ H' => Q .non H', rt := Q } (L2.start N vs) H1) :
    FnOk P w K mg base CX0 (k + 1) f fd ps sp := by
  obtain ⟨oc, od, kV, doc, pm, ct, an, cda, cc, osl, rfl, lk, hcd, ⟨ccl, cdd, vsC, ccs, file, tf, lcode, hvs, hfile⟩, cl, cld, csl, lcell⟩ := F.ex
  refine ⟨len, fun A outer s H args us vs Q E hr e0 hb r hsp => ?_⟩
  have hl := len _ _ _ _ hsp
  have KX : K.In s.heap := e0.mod.kin.keeps fun b o e => (e0.bs b o e).1
  have lim : s.heap.NoLimit := e0.mod.nolimit.keeps fun b o e => (e0.bs b o e).1
  refine ks_codeAny_call_defAt (body := .Expr (.Call (.Attribute (.Call (.Name "super" p0) [] [] p1) "__init__" p2) (e :: es) [] p3) p4 :: rest) (binds := ps.zip us) hr.depth (KX _ _ lk) rfl lim (codeRec_of KX hcd) (by show FuncBody.stmts (defBody st) = _; rw [hbd]) hb S.nocell
    (fun y hy => S.par _ (List.of_mem_zip hy).1) (fun h₁ hns hk₁ => ?_) S.co S.gen S.kind
  have I := inv_sup (t := s.toks + (ps.zip us).length) (f := f) (cda := cda) (qual := qual) (w := w) S hr.hd e0 hl r lcell hns hk₁
  obtain ⟨ta, t, a, ws, hA, hS, rfl, ea, hta⟩ := hbody cda cc A outer s H vs Q E hsp
  have hσ : (L2.start N (.ref a :: ws))[0]? = some (some (.ref a)) := rfl
  obtain ⟨pl, hev⟩ := hev (ksEnv qual (defScope st) s.heap.objs.size f (.ref cda) cc)
  refine ks_wpAt_execs_cons (ks_wpAt_Expr_any (ks_wpAt_MethodCall ?_ hev) (hi := I.quiet))
  refine sup_base S T I ea lk har hlo hN hσ lcode hvs hfile lcell F.sub F.ns F.top (by decide) fun so h' k hso => ?_
  have I1 := I.kept (t' := s.toks + (ps.zip us).length) k
  have KX1 : K.In h' := I1.kIn
  obtain ⟨nm, q, NN, bs, bm, sn, sub, ab, col, dd, k0, k1, k2, k3, k5, hC, hbm⟩ := T.cls
  obtain ⟨t1, ho⟩ := exo_at I1.hok ea
  have hI : Looks (model P w) h' (isInstance (.ref a) (.type "ValueError")) true := (show InstAt h' a _ C none from ⟨ho, rfl, rfl, trivial⟩).type.andThen (looks_subIn KX1 F.isV)
  have hcl : clsIn K C = some { name := nm, bases := bs, mro := .ref C :: bm, ns := NN, qualname := q, hasDict := true, slotNames := sn, subclasses := sub, abstract := ab, collection := col, hasDel := false } := by unfold clsIn; rw [hC] <;> rfl
  have hsup := F.sup
  unfold ks_superIn at hsup
  rw [hcl, Option.bind_some] at hsup
  have hxC : a ≠ C := fun z => by
    have h1 := KX1 _ _ hC
    have h2 := ho
    rw [z] at h2
    rw [show h'.get? C = _ from h2] at h1
    cases h1
  refine kxs_getMethod kxs_ValueError hso (looks_opaque KX1 F.opq) (l₀ := .ref C :: bm) (fun A Q E s k q => wpAny_bind ((looks_clsIn KX1 hcl) A _ E s k (wpAny_pure q))) rfl KX1 hsup hI hxC (by decide) ?_
  have I2 := I1.kept (h' := h'.push (kxs_mw "ValueError.__init__" a)) (t' := s.toks + (ps.zip us).length + 1) fun b o e => Heap.get?_push_of_some _ e
  have hu : (h'.push (kxs_mw "ValueError.__init__" a)).get? h'.objs.size = some (kxs_mw "ValueError.__init__" a) := Heap.get?_push_at rfl rfl
  have hfr : H h'.objs.size = none := I1.hok.fresh (Nat.le_refl _)
  have I3 := I2.pins_of (pins' := [(h'.objs.size, kxs_mw "ValueError.__init__" a)]) fun p hp => by
    rcases List.mem_singleton.mp hp with rfl
    exact ⟨hu, hfr, fun z => absurd I1.lt (by rw [← show h'.objs.size = _ from z]; exact Nat.lt_irrefl _), I1.nofs (Nat.le_refl _), fun v z => by cases z⟩
  refine kxs_callWith (i := "ValueError.__init__") (x := a) ?_ ?_
  · rw [he]; exact (show (false || (backTo p3 (starEach es (ksEnv qual (defScope st) s.heap.objs.size f (.ref cda) cc))).any (·.1)) = false from by rw [Bool.false_or]; exact hpl _)
  rw [he]
  refine evalArgs_plain ?_
  have hAr := hA.run p3 _ _ _ _ _ I3 hta
  rw [he] at hAr
  refine wpAny_mono hAr (fun vs1 s1 h1 => ?_) (fun _ _ z => False.elim z)
  obtain ⟨xs, H1, J, rv, hle, ea1, hrest⟩ := h1
  have pu := J.pin (h'.objs.size, kxs_mw "ValueError.__init__" a) (List.mem_append_right _ (List.mem_singleton.mpr rfl))
  refine ⟨pu.1, ?_⟩
  refine sup_call (X := cxS P w K mg base N qual (defScope st) f cda cc A outer s H) T J ea1 pu.1 (show vs1.length ≤ sizeLine by rw [← show xs.length = vs1.length from Paired.length rv, sizeLine_eq]; omega) fun s2 J2 => ?_
  refine wpAt_of_any (wpAny_mono (hS.run _ _ _ _ _ J2 hrest) (fun fl s3 h3 => ?_) fun _ _ z => False.elim z)
  have fin : ∀ {σ' : L2.St} {H' : Hp} {v : V} {u : Value}, Inv (cxS P w K mg base N qual (defScope st) f cda cc A outer s H) [(h'.objs.size, kxs_mw "ValueError.__init__" a)] σ' H' s3 → RelV v u → Q v H' → CE outer P w H s Q u s3 :=
    fun {σ' H' v u} J rv q => ⟨v, H', J.os, J.bare, J.base, J.hok, rv, q⟩
  cases fl with
  | ret u =>
    obtain ⟨v, σ', H', J, rv, q⟩ := h3
    exact fin J rv q
  | next =>
    obtain ⟨σ', H', J, q⟩ := h3
    exact fin (v := V.non) (u := Value.none) J rfl q
  | brk =>
    obtain ⟨_, _, _, q⟩ := h3
    exact q.elim
  | cont =>
    obtain ⟨_, _, _, q⟩ := h3
    exact q.elim

/-! ### an own class E(Base) with def __init__(self, x): super().__init__(f"..") ; self.f = x -/
/-- what isinstance asks of the class -/
structure IsC (K : Frag) (C : Addr) : Prop where
  cl : (clsIn K C).isSome = true
  ga : findIn K (.ref C) "__getattribute__" = some (some (.builtin "BaseException.__getattribute__"))
  gg : findIn K (.ref C) "__getattr__" = some none
  bs : subIn K (.ref C) (.type "BaseException") = some true
  ca : findIn K (.ref C) "__class__" = some (some (.builtin "object.__class__"))
  sp : specialIn K (.builtin "object.__class__") "__get__" = some (some (.builtin "getset_descriptor.__get__"))
  tk : takesIn K (.builtin "object.__class__") = some true
  ob : mroIn K C (.type "object") = some true
structure ExcAt (P : Program) (K : Frag) (mg : Str → Option Value) (x q : Str) (st : Stmt) (ps : List Str) where
  C : Addr
  a : Addr
  d : FuncData
  g : mg x = some (.ref C)
  o : OexC K C
  s : SupK P K mg C a d q st
  i : findIn K (.ref C) "__init__" = some (some (.ref a))
  t : typeIn K (.ref a) = some (.type "function")
  b : Binds K d ps []
  xf : XfC K C
  is : IsC K C
  te : exmOne K (.ref C) (.ref C) = some true
/-- an own class without an __init__ -/
structure BareAt (K : Frag) (mg : Str → Option Value) (x : Str) where
  C : Addr
  g : mg x = some (.ref C)
  k : keepIn K (.ref C) = true
  x : excIn K C [.type "ValueError", .type "Exception", .type "BaseException", .type "object"] "ValueError.__new__" = true
  b : subIn K (.ref C) (.type "BaseException") = some true
  t : typeIn K (.ref C) = some (.type "type")
  te : exmOne K (.ref C) (.ref C) = some true
/-- such an __init__ with one text field -/
def sp1 (C : Addr) (f : Str) : Sp := fun vs H Q _ => ∃ (a : Addr) (z : Str), vs = [.ref a, .str z] ∧ z.length ≤ 1000 ∧ H a = some (exo a C none) ∧ ∀ dx, H dx = none → dx ≠ a → Q .non (upd (upd H dx (exd dx [(f, .str z)])) a (exo a C (some dx)))
theorem mkO {C : Addr} {f z : Str} {H : Hp} {Q : XK} (hz : z.length ≤ 1000) (q : ∀ d, H d = none → Q (.ref C) (some d) (upd H d (.xd [(f, .str z)]))) {σ : L2.St} {ta : TA} (hta : ∀ R : List V → Hp → Prop, R [.str z] H → ta σ H R) : tMkO C (sp1 C f) [] ta σ H Q := by
  refine hta _ ⟨by show 1 ≤ 1000; decide, fun a ha => ⟨a, z, rfl, hz, upd_same, fun dx hd hne => ⟨rfl, dx, [(f, .str z)], upd_same, ?_, ?_, ?_⟩⟩⟩
  · rw [upd_ne hne, upd_same]
  · rw [upd_ne hne] at hd; exact hd
  · rw [upd_ne hne] at hd
    have e : upd (L2.del (upd (upd (upd H a (exo a C none)) dx (exd dx [(f, .str z)])) a (exo a C (some dx))) a) dx (.xd [(f, .str z)]) = upd H dx (.xd [(f, .str z)]) := by
      funext b
      by_cases hb : b = dx
      · rw [hb, upd_same, upd_same]
      · rw [upd_ne hb, upd_ne hb]
        by_cases hba : b = a
        · rw [hba, L2.del_same, ha]
        · rw [L2.del_ne hba, upd_ne hba, upd_ne hb, upd_ne hba]
    rw [e]
    exact q dx hd
/-- isinstance(e, c) of the caught exception, its dict known -/
def rIsD (K : Frag) (D a : Addr) (cls : Value) (d : Option Addr) : List V → Hp → VK → Prop := fun xs H Q => ∃ (c : V) (cv : Value) (b : Bool) (dd : Addr) (fs : List (Str × V)), xs = [.ref a, c] ∧ cls = .ref D ∧ d = some dd ∧ H dd = some (.xd fs) ∧ (∀ u, RelV c u → u = cv) ∧ kitOne K (.ref D) cv = some b ∧ Q (.bl b) H
theorem call_isD {X : Cx} {a D : Addr} {oe : Obj} {cls : Value} {d : Option Addr} {pn : List (Addr × Obj)} (T : IsC X.K D) (hz : Zc cls d oe) (hf : ∃ vs, oe.data = .fields vs) : CallR (X.suite a ((a, oe) :: pn)) (.builtin "isinstance") (rIsD X.K D a cls d) := by
  intro pins s σ H xs us Q I r h
  obtain ⟨c, cv, b, dd, fs, rfl, rfl, rfl, hd, hcv, e, q⟩ := h
  cases r with
  | cons rx rr =>
    cases rr with
    | cons rt rr =>
      cases rr
      cases rx
      obtain rfl := hcv _ rt
      have pe := (I.pin (a, oe) (List.mem_append_left _ List.mem_cons_self)).1
      obtain ⟨vs, hv⟩ := hf
      have hx : ObjOk X.prog X.w H s.heap dd (.xd fs) := I.hok dd _ hd
      obtain ⟨mA, hns, _⟩ := hx
      obtain ⟨od, ho, _⟩ := lookIn_ns hns
      have J : InstAt s.heap a oe D (some od) := ⟨pe, hz.1, by unfold notCls; rw [hv] <;> rfl, by rw [hz.2]; exact ho⟩
      exact kia_one (kitx_exc T.cl T.ga T.gg T.bs T.ca T.sp T.tk T.ob) I.kIn J e (fun z => nomatch z) fun tk => ⟨.bl b, H, I.kept (t' := tk) fun _ _ z => z, rfl, q⟩

/-! ### calls whose wish about exceptions knows the caller's slots -/
section
variable {X : Cx} {CX : CXT} {k : Nat} {f C : Addr} {fd : FuncData} {ps : List Str} {sp : Sp} {E : L2.St → XK} {x m : Str} {p pos apos : Pos} {e o : Expr} {es : List Expr} {ta : TE} {t : TA}
def tMakeS (C : Addr) (sp : Sp) (E : L2.St → XK) (t : TA) : TE := fun σ H Q => t σ H fun vs H1 => ∀ x dx, H1 x = none → H1 dx = none → dx ≠ x → sp (.ref x :: vs) (upd (upd H1 dx (.own x)) x (.ins C dx [])) (fun v H2 => v = .non ∧ Q (.ref x) H2) (E σ)
theorem makeS_run {pins : List (Addr × Obj)} {σ : L2.St} {H : Hp} {s : Shared} {Q : VK} {us : List Value} {vs : List V} (M : Mk X.K C f) (F : FnOk X.prog X.w X.K X.mg X.base CX k f fd ps sp) (hr : Room (k + 1) X.A) (hb : Binds X.K fd ps []) (hx : PassesAt CX X σ (E σ)) (I : Inv X pins σ H s) (r : Vals vs us)
    (h : ∀ x dx, H x = none → H dx = none → dx ≠ x → sp (.ref x :: vs) (upd (upd H dx (.own x)) x (.ins C dx [])) (fun v H2 => v = .non ∧ Q (.ref x) H2) (E σ)) : wpAny (model X.prog X.w) X.A (call (.ref C) us) (EP X pins σ Q) X.xe s := by
  generalize hn : s.heap.objs.size = n
  have q0 := h (n + 1) n (I.hok.fresh (by omega)) (I.hok.fresh (by omega)) (by show ¬ (n : Nat) = n + 1; omega)
  subst hn
  have J := Inv.made (C := C) I
  have rv : Vals (V.ref (s.heap.objs.size + 1) :: vs) (Value.ref (s.heap.objs.size + 1) :: us) := .cons (show RelV (V.ref (s.heap.objs.size + 1)) (Value.ref (s.heap.objs.size + 1)) from rfl) r
  have hl := (Paired.length rv).symm.trans (F.len _ _ _ _ q0)
  have bd := hb _ (Value.ref (s.heap.objs.size + 1) :: us) J.kIn (by rw [List.append_nil]; exact hl)
  rw [List.append_nil] at bd
  refine wpAny_call (make_map (f := f) I.kIn M.makes M.init (beq_iff_eq.mp M.fn) ?_)
  refine codeAny_mono (F.run _ X.stack _ _ _ _ _ _ (E σ) (hr.make C us []) (J.env0.make C us []) bd rv q0) fun res s' hq => ?_
  match res, hq with
  | .error e, hq => exact hx pins _ _ e s' J hq
  | .ok (.ret u), hq =>
    obtain ⟨v, H', I3, rv, ev, q3⟩ := J.after hq
    subst ev
    exact ⟨rv, V.ref (s.heap.objs.size + 1), H', I3, rfl, q3⟩
  | .ok .next, hq => exact hq.elim
  | .ok .brk, hq => exact hq.elim
  | .ok .cont, hq => exact hq.elim
theorem pe_makeS (M : Mk X.K C f) (F : FnOk X.prog X.w X.K X.mg X.base CX k f fd ps sp) (hr : Room (k + 1) X.A) (hg : Gl X x) (hm : X.mg x = some (.ref C)) (hb : Binds X.K fd ps []) (hx : ∀ σ, PassesAt CX X σ (E σ)) (ha : PA X (e :: es) t)
    (hdb : (x == ("__debug__" : Str)) = false := by decide) (he : starEach (e :: es) X.env = (false, eval e X.env) :: starEach es X.env := by rfl) (hpl : (backTo pos (starEach es X.env)).any (·.1) = false := by rfl) : PE X (.Call (.Name x p) (e :: es) [] pos) (tMakeS C sp E t) :=
  ⟨fun pins s σ H Q I h => wpAny_Call_Name_kw (ld_glob I hg hm (callWith_K (h₀ := X.base) I.ok.mod.kin M.kp (thn (ha.run pos pins s σ H _ I h) fun us s1 ⟨vs, H1, I1, r, q⟩ => ⟨I1.kIn, makeS_run M F hr hb (hx σ) I1 r q⟩) he hpl) hdb)⟩
def tMethS (C : Addr) (m : Str) (sp : Sp) (E : L2.St → XK) (ta : TE) (t : TA) : TE := fun σ H Q => ta σ H fun x H1 => ∃ a dx fs, x = .ref a ∧ H1 a = some (.ins C dx fs) ∧ fs.lookup m = none ∧ t σ H1 fun vs H2 => sp (x :: vs) H2 Q (E σ)
theorem pe_methS {pl : Sem Bool} (he : PE X o ta) (c : Cls X.K C) (hm : Meth X.K C m f) (F : FnOk X.prog X.w X.K X.mg X.base CX k f fd ps sp) (hr : Room k X.A) (hb : Binds X.K fd ps []) (hx : ∀ σ, PassesAt CX X σ (E σ)) (ha : PA X (e :: es) t)
    (hst : starEach (e :: es) X.env = (false, eval e X.env) :: starEach es X.env := by rfl) (hpl : (backTo pos (starEach es X.env)).any (·.1) = false := by rfl)
    (ht : eval (.Call (.Attribute o m apos) (e :: es) [] pos) X.env = (eval o X.env >>= fun ov => standAt apos.atName >>= fun _ => holding [ov] (getMethod ov m pl) >>= fun z => callWith pos z.1 z.2 (backTo pos (starEach (e :: es) X.env)) (backToKw pos (keywordEach [] X.env))) := by rfl) :
    PE X (.Call (.Attribute o m apos) (e :: es) [] pos) (tMethS C m sp E ta t) := by
  refine ⟨fun pins s σ H Q I h => methodCall_KW (pl := pl) (thn (he.run pins s σ H _ I h) fun u s1 ⟨x, H1, I1, rx, a, dx, fs, ex, ea, l, q⟩ => ?_) ht⟩
  subst ex
  obtain rfl : u = Value.ref a := rx
  exact getmeth_ok I1 ea c hm l (callWith_K (first := [.ref a]) (h₀ := X.base) I.ok.mod.kin hm.kp (thn (ha.run pos pins s1 σ H1 _ I1 q) fun us s2 ⟨vs, H2, I2, r, q2⟩ => ⟨I2.kIn, run_fnS (us := .ref a :: us) (vs := .ref a :: vs) F hr hb (hx σ) I2 (.cons rfl r) q2⟩) hst hpl)
end
/-- an error with this name is raised, whatever was made before -/
def Err (C : Addr) (H : Hp) (z : Str) (E : XK) : Prop := ∀ (H' : Hp) (d : Addr), Same H H' → H' d = none → E (.ref C) (some d) (upd H' d (.xd [("name", .str z)]))
theorem Err.mono {C : Addr} {H H1 : Hp} {z : Str} {E : XK} (h : Err C H z E) (s : Same H H1) : Err C H1 z E := fun H' d s2 hd => h H' d (s.trans s2) hd
theorem Err.now {C : Addr} {H : Hp} {z : Str} {E : XK} (h : Err C H z E) : ∀ d, H d = none → E (.ref C) (some d) (upd H d (.xd [("name", .str z)])) := fun d hd => h H d (Same.refl H) hd
/-- the first number out of its bounds -/
def kindBad (w h d c : Int) : Option Str := if ¬ (1 ≤ w ∧ w ≤ 64) then some "width" else if ¬ (1 ≤ h ∧ h ≤ 64) then some "height" else if ¬ (1 ≤ d ∧ d ≤ 8) then some "depth" else if ¬ (c = 1 ∨ c = 3) then some "channels" else none
def frameBad (w h d c t : Int) : Option Str := match kindBad w h d c with
  | some z => some z
  | none => if ¬ (1 ≤ t ∧ t ≤ 16) then some "tile" else if w * h * c > 3072 then some "size" else none
theorem kindBad_none {w h d c : Int} : kindBad w h d c = none ↔ (1 ≤ w ∧ w ≤ 64) ∧ (1 ≤ h ∧ h ≤ 64) ∧ (1 ≤ d ∧ d ≤ 8) ∧ (c = 1 ∨ c = 3) := by
  unfold kindBad
  by_cases h1 : 1 ≤ w ∧ w ≤ 64 <;> by_cases h2 : 1 ≤ h ∧ h ≤ 64 <;> by_cases h3 : 1 ≤ d ∧ d ≤ 8 <;> by_cases h4 : c = 1 ∨ c = 3 <;> simp [h1, h2, h3, h4]
theorem frameBad_none {w h d c t : Int} : frameBad w h d c t = none ↔ (1 ≤ w ∧ w ≤ 64) ∧ (1 ≤ h ∧ h ≤ 64) ∧ (1 ≤ d ∧ d ≤ 8) ∧ (c = 1 ∨ c = 3) ∧ (1 ≤ t ∧ t ≤ 16) ∧ w * h * c ≤ 3072 := by
  unfold frameBad
  cases e : kindBad w h d c with
  | some z =>
    constructor
    · intro h; cases h
    · rintro ⟨a, b, c', d', _⟩
      rw [kindBad_none.mpr ⟨a, b, c', d'⟩] at e; cases e
  | none =>
    obtain ⟨a, b, c', d'⟩ := kindBad_none.mp e
    by_cases h5 : 1 ≤ t ∧ t ≤ 16 <;> by_cases h6 : w * h * c > 3072 <;> simp [a, b, c', d', h5, h6] <;> omega
theorem frameBad_ne {w h d c t : Int} {z : Str} (e : frameBad w h d c t = some z) : z ≠ "" ∧ z.length ≤ 100 := by
  have key : z = "width" ∨ z = "height" ∨ z = "depth" ∨ z = "channels" ∨ z = "tile" ∨ z = "size" := by
    unfold frameBad kindBad at e
    by_cases h1 : 1 ≤ w ∧ w ≤ 64 <;> by_cases h2 : 1 ≤ h ∧ h ≤ 64 <;> by_cases h3 : 1 ≤ d ∧ d ≤ 8 <;> by_cases h4 : c = 1 ∨ c = 3 <;> by_cases h5 : 1 ≤ t ∧ t ≤ 16 <;> by_cases h6 : w * h * c > 3072 <;> simp [h1, h2, h3, h4, h5, h6] at e <;> simp [← e]
  rcases key with e | e | e | e | e | e <;> subst e <;> exact ⟨by decide +kernel, by decide +kernel⟩
/-- the first part of a key, of a channel and a pixel, that is out of its bounds -/
def keyBad (c n d : Nat) (ch ti pl : Int) : Option Str := if ¬ (0 ≤ ch ∧ ch ≤ (c : Int) - 1) then some "channel" else if ¬ (0 ≤ ti ∧ ti ≤ (n : Int) - 1) then some "tile" else if ¬ (0 ≤ pl ∧ pl ≤ (d : Int) - 1) then some "plane" else none
def pixBad (c n : Nat) (ch px : Int) : Option Str := if ¬ (0 ≤ ch ∧ ch ≤ (c : Int) - 1) then some "channel" else if ¬ (0 ≤ px ∧ px ≤ (n : Int) - 1) then some "pixel" else none
theorem kit_self (K : Frag) (v : Value) : kitOne K v v = some true := by unfold kitOne; rw [if_pos (by simp)]
/-! ### steps of a reading -/
section
variable {K : Frag} {σ : L2.St} {H : Hp} {Q : VK} {D : Ends} {ta te : TE} {t : TA} {sp : Sp} {E : L2.St → XK} {C a : Addr} {m f : Str} {cls : Value} {d : Option Addr} {v : V}
def CS (sp : Sp) (vs : List V) (H : Hp) (Q : VK) (E : XK) : Prop := sp vs H Q E
theorem callS (q : t σ H fun vs H1 => CS sp vs H1 Q (E σ)) : tCallS sp E t σ H Q := q
def MkS (C : Addr) (sp : Sp) (vs : List V) (H : Hp) (Q : VK) (E : XK) : Prop := ∀ x dx, H x = none → H dx = none → dx ≠ x → CS sp (.ref x :: vs) (upd (upd H dx (.own x)) x (.ins C dx [])) (fun v H2 => v = .non ∧ Q (.ref x) H2) E
theorem makeS (q : t σ H fun vs H1 => MkS C sp vs H1 Q (E σ)) : tMakeS C sp E t σ H Q := q
def MtS (C : Addr) (m : Str) (sp : Sp) (E : L2.St → XK) (t : TA) (σ : L2.St) (x : V) (H : Hp) (Q : VK) : Prop := ∃ a dx fs, x = .ref a ∧ H a = some (.ins C dx fs) ∧ fs.lookup m = none ∧ t σ H fun vs H2 => sp (x :: vs) H2 Q (E σ)
theorem methS (q : ta σ H fun x H1 => MtS C m sp E t σ x H1 Q) : tMethS C m sp E ta t σ H Q := q
theorem mts {dx : Addr} {fs : List (Str × V)} (h : H a = some (.ins C dx fs)) (n : fs.lookup m = none) (q : t σ H fun vs H2 => CS sp (.ref a :: vs) H2 Q (E σ)) : MtS C m sp E t σ (.ref a) H Q := ⟨a, dx, fs, rfl, h, n, q⟩
def XfP (a : Addr) (cls : Value) (d : Option Addr) (C : Addr) (f : Str) (x : V) (H : Hp) (Q : VK) : Prop := x = .ref a ∧ cls = .ref C ∧ ∃ (dd : Addr) (fs : List (Str × V)) (v : V), d = some dd ∧ H dd = some (.xd fs) ∧ fs.lookup f = some v ∧ Q v H
theorem xf (q : te σ H fun x H1 => XfP a cls d C f x H1 Q) : tXf a cls d C f te σ H Q := q
theorem xfp {dd : Addr} (h : H dd = some (.xd [(f, v)])) (q : Q v H) : XfP a (.ref C) (some dd) C f (.ref a) H Q := ⟨rfl, rfl, dd, _, v, rfl, h, by simp [List.lookup], q⟩
theorem isD {dd : Addr} {fs : List (Str × V)} {D2 : V} {cv : Value} {b : Bool} (h : H dd = some (.xd fs)) (r : ∀ u, RelV D2 u → u = cv) (k : kitOne K (.ref C) cv = some b) (q : Q (.bl b) H) : rIsD K C a (.ref C) (some dd) [.ref a, D2] H Q := ⟨D2, cv, b, dd, fs, rfl, rfl, rfl, h, r, k, q⟩
theorem isR {dd c : Addr} {fs : List (Str × V)} {b : Bool} (h : H dd = some (.xd fs)) (k : kitOne K (.ref C) (.ref c) = some b) (q : Q (.bl b) H) : rIsD K C a (.ref C) (some dd) [.ref a, .ref c] H Q := isD h (fun u e => e) k q
theorem isT {dd : Addr} {n : String} {fs : List (Str × V)} {b : Bool} (h : H dd = some (.xd fs)) (k : kitOne K (.ref C) (.type n) = some b) (q : Q (.bl b) H) : rIsD K C a (.ref C) (some dd) [.ref a, .ty n] H Q := isD h (fun u e => e) k q
/-- the except clause takes it -/
theorem took {c : Value} {i : Nat} {ts : Addr → Value → Option Addr → TS} {Wout : WX} {H' : Hp} (h : exmOne K cls c = some true) (q : ∀ a, H' a = none → ts a cls d { nx := fun σ' H' => D.nx (σ'.set i none) H', rt := D.rt, bk := fun σ' H' => D.bk (σ'.set i none) H', ct := fun σ' H' => D.ct (σ'.set i none) H' } (σ.set i (some (.ref a))) H') : WE (wAs K c i ts Wout D) σ cls d H' :=
  ⟨true, h, fun _ => q, fun z => Bool.noConfusion z⟩
end
end Sx
local macro_rules | `(tactic| walk_at "go1") => `(tactic| (first
  | with_reducible refine Sx.callS ?_
  | with_reducible refine Sx.makeS ?_
  | with_reducible refine Sx.methS ?_
  | with_reducible refine Sx.xf ?_))

namespace Bs
open PySem L2
/-- a bit string as a text of the signs 0 and 1 -/
def cd (b : Bool) : Nat := if b then 49 else 48
def S (bs : List Bool) : Str := ⟨(bs.map cd).toArray⟩
theorem cd_inj {a b : Bool} (h : cd a = cd b) : a = b := by cases a <;> cases b <;> first | rfl | (exact absurd h (by decide))
theorem len (bs : List Bool) : (S bs).length = bs.length := by simp [S, Str.length]
theorem cat (a b : List Bool) : S a ++ S b = S (a ++ b) := by
  show Str.mk ((a.map cd).toArray ++ (b.map cd).toArray) = Str.mk ((a ++ b).map cd).toArray
  rw [List.map_append]; simp
theorem inj {a b : List Bool} : S a = S b ↔ a = b := by
  constructor
  · intro h
    have h2 : a.map cd = b.map cd := congrArg (fun x : Str => x.cps.toList) h
    exact List.map_inj_right (f := cd) (fun _ _ => cd_inj) |>.mp h2
  · intro h; rw [h]
theorem lit0 : Str.ofString "0" = S [false] := by decide +kernel
theorem lit1 : Str.ofString "1" = S [true] := by decide +kernel
theorem lit11 : Str.ofString "11" = S [true, true] := by decide +kernel
theorem lit_ : Str.ofString "" = S [] := by decide +kernel
theorem eq1 (b : Bool) : decide (S [b] = Str.ofString "1") = b := by
  rw [lit1]; cases b
  · exact decide_eq_false (fun h => absurd (inj.mp h) (by decide))
  · exact decide_eq_true rfl
theorem eq0 (b : Bool) : decide (S [b] = Str.ofString "0") = !b := by
  rw [lit0]; cases b
  · exact decide_eq_true rfl
  · exact decide_eq_false (fun h => absurd (inj.mp h) (by decide))
theorem at_ {bs : List Bool} {i : Nat} (h : i < bs.length) : atI (S bs).cps.toList (i : Int) = some (cd (bs.getD i false)) := by
  refine atI_nat ?_
  show (bs.map cd)[i]? = _
  rw [List.getElem?_map, List.getElem?_eq_getElem h]
  simp [List.getD_eq_getElem?_getD, List.getElem?_eq_getElem h]
theorem get_ {bs : List Bool} {i : Nat} (h : i < bs.length) : (S bs).cps[i]? = some (cd (bs.getD i false)) := by
  show ((bs.map cd).toArray)[i]? = _
  rw [List.getElem?_toArray, List.getElem?_map, List.getElem?_eq_getElem h]
  simp [List.getD_eq_getElem?_getD, List.getElem?_eq_getElem h]
section
variable {K : PySem.W.Frag} {H : Hp} {Q : VK}
theorem ix {bs : List Bool} {i : Int} (h0 : 0 ≤ i) (h1 : i < bs.length) (hz : bs.length ≤ 16777216) (q : Q (.str (S [bs.getD i.toNat false])) H) : rIx K (.str (S bs)) (.int i) H Q := by
  have e : i = (i.toNat : Int) := by omega
  rw [e]
  refine Gx.ixS (by rw [len, sizeLine_eq]; exact hz) (at_ (by omega)) ?_
  exact q
theorem lenB {bs : List Bool} (hz : bs.length ≤ 16777216) (q : Q (.int (bs.length : Nat)) H) : Gx.rLen K [.str (S bs)] H Q := by
  refine Gx.lenS (by rw [len, sizeLine_eq]; exact hz) ?_
  rw [len]; exact q
theorem strbit {r : Int} (h : r = 0 ∨ r = 1) (q : ∀ c : Bool, c = decide (r = 1) → Q (.str (S [c])) H) : Gx.rStrI [.int r] H Q := by
  rcases h with h | h
  · subst h
    refine Gx.strI (by decide) ?_
    rw [show (toString (0 : Int) : Str) = S [false] by decide +kernel]
    exact q _ rfl
  · subst h
    refine Gx.strI (by decide) ?_
    rw [show (toString (1 : Int) : Str) = S [true] by decide +kernel]
    exact q _ rfl
end
/-- a bit string, bit by bit -/
theorem walk {bs : List Bool} : Walk (Its (S bs)) bs.length (fun _ => True) (fun i H v H' => H' = H ∧ v = .str (S [bs.getD i false])) := by
  have e : (S bs).cps.size = bs.length := len bs
  refine ⟨fun i H hi _ => ?_, fun H _ => ?_, fun i H v H' hi _ y => ?_⟩
  · show i < (S bs).cps.size; omega
  · show (S bs).cps.size ≤ bs.length; omega
  · obtain ⟨h1, c, hc, rfl⟩ := y
    refine ⟨h1, ?_⟩
    have h := get_ hi
    rw [hc] at h
    rw [Option.some.inj h]; rfl
theorem cut_hi (bs : List Bool) (n : Nat) : cutS (S bs) none (some (n : Int)) = S (bs.take n) := by
  unfold cutS
  have e1 : HT.sIx (S bs).length 0 none = 0 := rfl
  have e2 : HT.sIx (S bs).length (S bs).length (some (n : Int)) = min n bs.length := by
    rw [len]; unfold HT.sIx
    first
      | omega
      | (simp only []; split <;> omega)
      | (split <;> omega)
  rw [e1, e2]
  show Str.mk (List.take (min n bs.length - 0) ((bs.map cd).drop 0)).toArray = Str.mk ((bs.take n).map cd).toArray
  rw [List.drop_zero, Nat.sub_zero, ← List.map_take]
  congr 3
  rw [← List.take_take, List.take_length]
theorem cut_lo (bs : List Bool) (n : Nat) : cutS (S bs) (some (n : Int)) none = S (bs.drop n) := by
  unfold cutS
  have e1 : HT.sIx (S bs).length 0 (some (n : Int)) = min n bs.length := by
    rw [len]; unfold HT.sIx
    first
      | omega
      | (simp only []; split <;> omega)
      | (split <;> omega)
  have e2 : HT.sIx (S bs).length (S bs).length none = bs.length := by rw [len]; rfl
  rw [e1, e2]
  show Str.mk (List.take (bs.length - min n bs.length) ((bs.map cd).drop (min n bs.length))).toArray = Str.mk ((bs.drop n).map cd).toArray
  rw [← List.map_drop, ← List.map_take]
  congr 3
  by_cases h : n ≤ bs.length
  · rw [Nat.min_eq_left h, List.take_of_length_le (by rw [List.length_drop]; omega)]
  · rw [Nat.min_eq_right (by omega), List.drop_eq_nil_of_le (Nat.le_refl _), List.drop_eq_nil_of_le (by omega), List.take_nil]
end Bs

namespace Cx_
open PySem L2
def bt (bs : List Bool) (i : Int) : Bool := bs.getD i.toNat false
/-- the context of a place (the document's four neighbours) -/
def ctx (w : Nat) (bs : List Bool) (n : Nat) : Nat :=
  (if n % w ≠ 0 ∧ bs.getD (n - 1) false = true then 1 else 0) + (if w ≤ n then (if n % w ≠ 0 ∧ bs.getD (n - w - 1) false = true then 2 else 0) + (if bs.getD (n - w) false = true then 4 else 0) + (if n % w < w - 1 ∧ bs.getD (n - w + 1) false = true then 8 else 0) else 0)
theorem ctx_lt (w : Nat) (bs : List Bool) (n : Nat) : ctx w bs n < 16 := by
  unfold ctx
  split <;> split <;> (try split) <;> (try split) <;> (try split) <;> omega
/-- it hangs on the bits before the place alone -/
theorem ctx_same {w n : Nat} {bs cs : List Bool} (hw : 0 < w) (h : ∀ i, i < n → bs.getD i false = cs.getD i false) : ctx w bs n = ctx w cs n := by
  unfold ctx
  by_cases h0 : n = 0
  · subst h0
    simp [Nat.zero_mod, show ¬ w = 0 by omega]
  rw [h (n - 1) (by omega)]
  by_cases hwn : w ≤ n
  · rw [if_pos hwn, if_pos hwn, h (n - w - 1) (by omega), h (n - w) (by omega)]
    by_cases hc : n % w < w - 1
    · rw [h (n - w + 1) (by omega)]
    · rw [if_neg (c := n % w < w - 1 ∧ bs.getD (n - w + 1) false = true) (fun z => hc z.1), if_neg (c := n % w < w - 1 ∧ cs.getD (n - w + 1) false = true) (fun z => hc z.1)]
  · rw [if_neg hwn, if_neg hwn]
theorem getD_take {bs : List Bool} {n i : Nat} (h : i < n) : (bs.take n).getD i false = bs.getD i false := by
  rw [List.getD_eq_getElem?_getD, List.getD_eq_getElem?_getD, List.getElem?_take_of_lt h]
theorem ctx_take {w n : Nat} {bs : List Bool} (hw : 0 < w) (hn : n ≤ bs.length) : ctx w (bs.take n) n = ctx w bs n := ctx_same hw fun i h => getD_take h
theorem ctx_more {w n : Nat} {bs cs : List Bool} (hw : 0 < w) (hn : n ≤ bs.length) : ctx w (bs.take n ++ cs) n = ctx w bs n := ctx_same hw fun i h => by
  rw [List.getD_eq_getElem?_getD, List.getElem?_append_left (by rw [List.length_take]; omega), ← List.getD_eq_getElem?_getD, getD_take h]
end Cx_

namespace Iv
open PySem L2 Cx_
/-- how often the bit b came in the context c before place n -/
def cnt (w : Nat) (bs : List Bool) (b : Bool) : Nat → Nat → Nat
  | 0, _ => 0
  | n + 1, c => cnt w bs b n c + if ctx w bs n = c ∧ bs.getD n false = b then 1 else 0
/-- the interval of the first n bits: low, size, whole -/
def iv (w : Nat) (bs : List Bool) : Nat → Nat × Nat × Nat
  | 0 => (0, 1, 1)
  | n + 1 =>
    let l := (iv w bs n).1
    let s := (iv w bs n).2.1
    let h := (iv w bs n).2.2
    let z := 1 + cnt w bs false n (ctx w bs n)
    let o := 1 + cnt w bs true n (ctx w bs n)
    if bs.getD n false = true then (l * (z + o) + s * z, s * o, h * (z + o)) else (l * (z + o), s * z, h * (z + o))
theorem cnt_le (w : Nat) (bs : List Bool) (b : Bool) : ∀ n c, cnt w bs b n c ≤ n
  | 0, _ => Nat.le_refl _
  | n + 1, c => by
    have h := cnt_le w bs b n c
    unfold cnt
    split <;> omega
theorem cnt_same {w : Nat} {bs cs : List Bool} {b : Bool} (hw : 0 < w) : ∀ n c, (∀ i, i < n → bs.getD i false = cs.getD i false) → cnt w bs b n c = cnt w cs b n c
  | 0, _, _ => rfl
  | n + 1, c, h => by
    unfold cnt
    rw [cnt_same hw n c fun i hi => h i (by omega), ctx_same hw fun i hi => h i (by omega), h n (by omega)]
theorem iv_same {w : Nat} {bs cs : List Bool} (hw : 0 < w) : ∀ n, (∀ i, i < n → bs.getD i false = cs.getD i false) → iv w bs n = iv w cs n
  | 0, _ => rfl
  | n + 1, h => by
    unfold iv
    rw [iv_same hw n fun i hi => h i (by omega), cnt_same hw n _ fun i hi => h i (by omega), cnt_same hw n _ fun i hi => h i (by omega), ctx_same hw fun i hi => h i (by omega), h n (by omega)]
theorem getD_app {bs cs : List Bool} {i : Nat} (h : i < bs.length) : (bs ++ cs).getD i false = bs.getD i false := by
  rw [List.getD_eq_getElem?_getD, List.getElem?_append_left h, ← List.getD_eq_getElem?_getD]
theorem getD_len {bs cs : List Bool} {b : Bool} : (bs ++ b :: cs).getD bs.length false = b := by
  rw [List.getD_eq_getElem?_getD, List.getElem?_append_right (Nat.le_refl _), Nat.sub_self]; rfl
/-- the counts of one context after all of some bits -/
def zs (w : Nat) (bs : List Bool) (c : Nat) : Nat := 1 + cnt w bs false bs.length c
def os (w : Nat) (bs : List Bool) (c : Nat) : Nat := 1 + cnt w bs true bs.length c
def lo (w : Nat) (bs : List Bool) : Nat := (iv w bs bs.length).1
def sz (w : Nat) (bs : List Bool) : Nat := (iv w bs bs.length).2.1
def wh (w : Nat) (bs : List Bool) : Nat := (iv w bs bs.length).2.2
/-- the context of the next bit -/
def nx (w : Nat) (bs : List Bool) : Nat := ctx w bs bs.length
def both (w : Nat) (bs : List Bool) : Nat := zs w bs (nx w bs) + os w bs (nx w bs)
section
variable {w : Nat} {bs : List Bool} {b : Bool} (hw : 0 < w)
include hw
theorem app_same (cs : List Bool) : ∀ i, i < bs.length → (bs ++ cs).getD i false = bs.getD i false := fun i hi => getD_app hi
theorem cnt_app (c : Nat) (b' : Bool) : cnt w (bs ++ [b]) b' (bs ++ [b]).length c = cnt w bs b' bs.length c + if nx w bs = c ∧ b = b' then 1 else 0 := by
  rw [List.length_append, List.length_singleton]
  show cnt w (bs ++ [b]) b' bs.length c + (if ctx w (bs ++ [b]) bs.length = c ∧ (bs ++ [b]).getD bs.length false = b' then 1 else 0) = _
  rw [cnt_same hw _ c (app_same hw [b]), ctx_same hw (app_same hw [b]), getD_len]; rfl
theorem zs_app (c : Nat) : zs w (bs ++ [b]) c = zs w bs c + if nx w bs = c ∧ b = false then 1 else 0 := by
  unfold zs; rw [cnt_app hw]; omega
theorem os_app (c : Nat) : os w (bs ++ [b]) c = os w bs c + if nx w bs = c ∧ b = true then 1 else 0 := by
  unfold os; rw [cnt_app hw]; omega
theorem iv_app : iv w (bs ++ [b]) (bs ++ [b]).length = if b = true then (lo w bs * both w bs + sz w bs * zs w bs (nx w bs), sz w bs * os w bs (nx w bs), wh w bs * both w bs) else (lo w bs * both w bs, sz w bs * zs w bs (nx w bs), wh w bs * both w bs) := by
  rw [List.length_append, List.length_singleton]
  rw [iv, iv_same hw bs.length (app_same hw [b]), cnt_same hw _ _ (app_same hw [b]), cnt_same hw _ _ (app_same hw [b]), ctx_same hw (app_same hw [b]), getD_len]
  rfl
theorem lo_app : lo w (bs ++ [b]) = lo w bs * both w bs + if b = true then sz w bs * zs w bs (nx w bs) else 0 := by
  unfold lo; rw [iv_app hw]; cases b <;> simp [lo]
theorem sz_app : sz w (bs ++ [b]) = if b = true then sz w bs * os w bs (nx w bs) else sz w bs * zs w bs (nx w bs) := by
  unfold sz; rw [iv_app hw]; cases b <;> simp [sz]
theorem wh_app : wh w (bs ++ [b]) = wh w bs * both w bs := by
  unfold wh; rw [iv_app hw]; cases b <;> simp [wh]
end
/-- the lists of counts as they stand -/
def zl (w : Nat) (bs : List Bool) : List V := (List.range 16).map fun c => .int (zs w bs c : Nat)
def ol (w : Nat) (bs : List Bool) : List V := (List.range 16).map fun c => .int (os w bs c : Nat)
theorem zl_get {w : Nat} {bs : List Bool} {c : Nat} (h : c < 16) : (zl w bs)[c]? = some (.int (zs w bs c : Nat)) := by
  unfold zl; rw [List.getElem?_map, List.getElem?_range h]; rfl
theorem ol_get {w : Nat} {bs : List Bool} {c : Nat} (h : c < 16) : (ol w bs)[c]? = some (.int (os w bs c : Nat)) := by
  unfold ol; rw [List.getElem?_map, List.getElem?_range h]; rfl
theorem set_map {f g : Nat → V} {n k : Nat} {v : V} (hk : g k = v) (h : ∀ c, c ≠ k → g c = f c) : ((List.range n).map f).set k v = (List.range n).map g := by
  apply List.ext_getElem?
  intro i
  rw [List.getElem?_set, List.getElem?_map, List.getElem?_map, List.length_map, List.length_range]
  by_cases hi : k = i
  · subst hi
    rw [if_pos rfl]
    by_cases hn : k < n
    · rw [if_pos hn, List.getElem?_range hn]; rw [← hk]; rfl
    · rw [if_neg hn, List.getElem?_eq_none (by rw [List.length_range]; omega)]; rfl
  · rw [if_neg hi]
    by_cases hn : i < n
    · rw [List.getElem?_range hn]; simp only [Option.map_some]; rw [h i (Ne.symm hi)]
    · rw [List.getElem?_eq_none (by rw [List.length_range]; omega)]; rfl
theorem zl_app0 {w : Nat} {bs : List Bool} (hw : 0 < w) : (zl w bs).set (nx w bs) (.int ((zs w bs (nx w bs) : Nat) + 1)) = zl w (bs ++ [false]) :=
  set_map (by rw [zs_app hw, if_pos ⟨rfl, rfl⟩]; rfl) fun c hc => by rw [zs_app hw, if_neg (fun z => hc z.1.symm)]; rfl
theorem zl_app1 {w : Nat} {bs : List Bool} (hw : 0 < w) : zl w bs = zl w (bs ++ [true]) :=
  List.map_congr_left fun c _ => by rw [zs_app hw, if_neg (fun z => absurd z.2 (by decide))]; rfl
theorem ol_app1 {w : Nat} {bs : List Bool} (hw : 0 < w) : (ol w bs).set (nx w bs) (.int ((os w bs (nx w bs) : Nat) + 1)) = ol w (bs ++ [true]) :=
  set_map (by rw [os_app hw, if_pos ⟨rfl, rfl⟩]; rfl) fun c hc => by rw [os_app hw, if_neg (fun z => hc z.1.symm)]; rfl
theorem ol_app0 {w : Nat} {bs : List Bool} (hw : 0 < w) : ol w bs = ol w (bs ++ [false]) :=
  List.map_congr_left fun c _ => by rw [os_app hw, if_neg (fun z => absurd z.2 (by decide))]; rfl
theorem nil_zl (w : Nat) : List.replicate 16 (V.int 1) = zl w [] := rfl
theorem nil_ol (w : Nat) : List.replicate 16 (V.int 1) = ol w [] := rfl
theorem zs_le (w : Nat) (bs : List Bool) (c : Nat) : 1 ≤ zs w bs c ∧ zs w bs c ≤ bs.length + 1 := by
  have := cnt_le w bs false bs.length c
  unfold zs; omega
theorem os_le (w : Nat) (bs : List Bool) (c : Nat) : 1 ≤ os w bs c ∧ os w bs c ≤ bs.length + 1 := by
  have := cnt_le w bs true bs.length c
  unfold os; omega
section
variable {w n : Nat} {bs : List Bool}
theorem take_same (i : Nat) (h : i < n) : (bs.take n).getD i false = bs.getD i false := getD_take h
theorem nx_take (hw : 0 < w) (hn : n ≤ bs.length) : nx w (bs.take n) = ctx w bs n := by
  unfold nx; rw [List.length_take, Nat.min_eq_left hn]; exact ctx_take hw hn
theorem zs_take (hw : 0 < w) (hn : n ≤ bs.length) (c : Nat) : zs w (bs.take n) c = 1 + cnt w bs false n c := by
  unfold zs; rw [List.length_take, Nat.min_eq_left hn, cnt_same hw n c fun i hi => take_same i hi]
theorem os_take (hw : 0 < w) (hn : n ≤ bs.length) (c : Nat) : os w (bs.take n) c = 1 + cnt w bs true n c := by
  unfold os; rw [List.length_take, Nat.min_eq_left hn, cnt_same hw n c fun i hi => take_same i hi]
/-- counts from 0, as a list -/
def cl (w : Nat) (bs : List Bool) (b : Bool) (n : Nat) : List V := (List.range 16).map fun c => .int (cnt w bs b n c : Nat)
theorem cl_at {w : Nat} {bs : List Bool} {b : Bool} {n c : Nat} (h : c < 16) : atI (cl w bs b n) (c : Int) = some (.int (cnt w bs b n c : Nat)) := by
  refine atI_nat ?_
  unfold cl; rw [List.getElem?_map, List.getElem?_range h]; rfl
theorem cl_set {b : Bool} (hb : bs.getD n false = b) : (cl w bs b n).set (ctx w bs n) (.int ((cnt w bs b n (ctx w bs n) : Nat) + 1)) = cl w bs b (n + 1) :=
  set_map (by show V.int ((cnt w bs b n (ctx w bs n) + if ctx w bs n = ctx w bs n ∧ bs.getD n false = b then 1 else 0 : Nat) : Int) = _; rw [if_pos ⟨rfl, hb⟩]; rfl)
    fun c hc => by show V.int ((cnt w bs b n c + if ctx w bs n = c ∧ bs.getD n false = b then 1 else 0 : Nat) : Int) = _; rw [if_neg (fun z => hc z.1.symm)]; rfl
theorem cl_keep {b : Bool} (hb : ¬ bs.getD n false = b) : cl w bs b n = cl w bs b (n + 1) :=
  List.map_congr_left fun c _ => by show _ = V.int ((cnt w bs b n c + if ctx w bs n = c ∧ bs.getD n false = b then 1 else 0 : Nat) : Int); rw [if_neg (fun z => hb z.2)]; rfl
theorem ixN_nat {n j : Nat} (hj : j < n) : ixN n (j : Int) = some j := by
  unfold ixN
  rw [if_pos (by omega), if_pos (by omega)]
  simp
theorem cl_len {b : Bool} : (cl w bs b n).length = 16 := by unfold cl; rw [List.length_map, List.length_range]
end
theorem iv_one {w n : Nat} {bs : List Bool} (h : bs.getD n false = true) :
    (((iv w bs (n + 1)).1 : Nat) : Int) = ((iv w bs n).1 : Nat) * (((cnt w bs false n (ctx w bs n) : Nat) : Int) + (cnt w bs true n (ctx w bs n) : Nat) + 2) + ((iv w bs n).2.1 : Nat) * (((cnt w bs false n (ctx w bs n) : Nat) : Int) + 1) ∧
    (((iv w bs (n + 1)).2.1 : Nat) : Int) = ((iv w bs n).2.1 : Nat) * (((cnt w bs true n (ctx w bs n) : Nat) : Int) + 1) ∧
    (((iv w bs (n + 1)).2.2 : Nat) : Int) = ((iv w bs n).2.2 : Nat) * (((cnt w bs false n (ctx w bs n) : Nat) : Int) + (cnt w bs true n (ctx w bs n) : Nat) + 2) := by
  have e : ∀ a b : Nat, (((1 + a + (1 + b) : Nat)) : Int) = (a : Int) + (b : Int) + 2 := fun a b => by omega
  have e1 : ∀ a : Nat, (((1 + a : Nat)) : Int) = (a : Int) + 1 := fun a => by omega
  rw [iv, if_pos h]
  simp only []
  rw [Int.natCast_add, Int.natCast_mul, Int.natCast_mul, Int.natCast_mul, Int.natCast_mul, e, e1, e1]
  exact ⟨rfl, rfl, rfl⟩
theorem iv_zero {w n : Nat} {bs : List Bool} (h : ¬ bs.getD n false = true) :
    (((iv w bs (n + 1)).1 : Nat) : Int) = ((iv w bs n).1 : Nat) * (((cnt w bs false n (ctx w bs n) : Nat) : Int) + (cnt w bs true n (ctx w bs n) : Nat) + 2) ∧
    (((iv w bs (n + 1)).2.1 : Nat) : Int) = ((iv w bs n).2.1 : Nat) * (((cnt w bs false n (ctx w bs n) : Nat) : Int) + 1) ∧
    (((iv w bs (n + 1)).2.2 : Nat) : Int) = ((iv w bs n).2.2 : Nat) * (((cnt w bs false n (ctx w bs n) : Nat) : Int) + (cnt w bs true n (ctx w bs n) : Nat) + 2) := by
  have e : ∀ a b : Nat, (((1 + a + (1 + b) : Nat)) : Int) = (a : Int) + (b : Int) + 2 := fun a b => by omega
  have e1 : ∀ a : Nat, (((1 + a : Nat)) : Int) = (a : Int) + 1 := fun a => by omega
  rw [iv, if_neg h]
  simp only []
  rw [Int.natCast_mul, Int.natCast_mul, Int.natCast_mul, e, e1]
  exact ⟨rfl, rfl, rfl⟩
end Iv

namespace Fb
open PySem PySem.W PySem.Builtin PyProof.Rows PySem.Calls
/-! a number's binary digits by its format, as the model lays them -/
def ds (n : Int) : List Nat := (Nat.toDigits 2 n.natAbs).map fun c => (if (98 : Nat) == 88 then c.toUpper else c).toNat
def sg (n : Int) : List Nat := if decide (n < 0) = true then [45] else []
def dd (n : Int) : List Nat := if (ds n).isEmpty then [] else List.replicate (Int.toNat 0 - (ds n).length) 48 ++ ds n
def pad (n : Int) : Nat := ((-1 : Int) - (((sg n).length : Int) + (([] : List Nat).length : Int) + (([] : List Nat).length : Int)) - ((dd n).length : Int)).toNat
def X (n : Int) : Str := ⟨(List.replicate (pad n) 32 ++ sg n ++ [] ++ List.replicate 0 32 ++ dd n ++ [] ++ List.replicate 0 32).toArray⟩
theorem fmt_eq (n : Int) (t u : Tok) : «int.__format__» ⟨[.int n t, .str (Str.ofString "b") u], []⟩ = retStr (X n) := by kernel_rfl
theorem ds_nat (n : Nat) : ds (n : Int) = (Nat.toDigits 2 n).map Char.toNat := by
  unfold ds; rw [Int.natAbs_natCast]; rfl
/-- the k lowest binary digits of r, the highest first -/
def bin : Nat → Nat → List Bool
  | 0, _ => []
  | k + 1, r => bin k (r / 2) ++ [decide (r % 2 = 1)]
theorem bin_len : ∀ k r, (bin k r).length = k
  | 0, _ => rfl
  | k + 1, r => by unfold bin; rw [List.length_append, bin_len k]; rfl
theorem dig01 (r : Nat) : [(r % 2).digitChar].map Char.toNat = [decide (r % 2 = 1)].map Bs.cd := by
  have h : r % 2 = 0 ∨ r % 2 = 1 := by omega
  rcases h with h | h <;> rw [h] <;> decide
theorem ds_led : ∀ (k r : Nat), r < 2 ^ k → (Nat.toDigits 2 (2 ^ k + r)).map Char.toNat = (true :: bin k r).map Bs.cd
  | 0, r, h => by
    have e : r = 0 := by simpa using h
    subst e
    decide
  | k + 1, r, h => by
    have hp := Nat.two_pow_pos k
    have e2 : 2 ^ (k + 1) = 2 * 2 ^ k := by rw [Nat.pow_succ, Nat.mul_comm]
    rw [Nat.toDigits_of_base_le (by decide) (by omega), List.map_append]
    have e3 : (2 ^ (k + 1) + r) / 2 = 2 ^ k + r / 2 := by omega
    have e4 : (2 ^ (k + 1) + r) % 2 = r % 2 := by omega
    rw [e3, e4, ds_led k (r / 2) (by omega), dig01]
    show _ = (true :: (bin k (r / 2) ++ [decide (r % 2 = 1)])).map Bs.cd
    rw [← List.map_append]; rfl
theorem X_led {k r : Nat} (h : r < 2 ^ k) : X (((2 ^ k + r : Nat)) : Int) = Bs.S (true :: bin k r) := by
  have e : ds (((2 ^ k + r : Nat)) : Int) = (true :: bin k r).map Bs.cd := by rw [ds_nat, ds_led k r h]
  have e1 : sg (((2 ^ k + r : Nat)) : Int) = [] := by unfold sg; rw [decide_eq_false (by omega)]; rfl
  have e2 : dd (((2 ^ k + r : Nat)) : Int) = (true :: bin k r).map Bs.cd := by
    unfold dd; rw [e, show Int.toNat 0 = 0 from rfl, Nat.zero_sub]; rfl
  have e3 : pad (((2 ^ k + r : Nat)) : Int) = 0 := by unfold pad; rw [e1, e2]; simp only [List.length_nil]; omega
  unfold X
  rw [e1, e2, e3]
  simp [Bs.S]
theorem gives_b (n : Int) (t u : Tok) : Gives («int.__format__» ⟨[.int n t, .str (Str.ofString "b") u], []⟩) (.str (X n)) := by
  rw [fmt_eq]
  exact .of_eq rfl
section
variable {Y : L2.Cx}
/-- {x:b} -/
def tFmtB (te : L2.TE) : L2.TE := fun σ H Q => te σ H fun x H1 => ∃ n : Int, x = .int n ∧ (X n).length ≤ sizeLine ∧ Q (.str (X n)) H1
theorem pe_fmtB {e : Expr} {te : L2.TE} {pos p1 p2 : Pos} {j : Nat} (he : L2.PE Y e te) : L2.PE Y (.FormattedValue e (-1) (some (.JoinedStr [.Constant (.str "b") j p1] p2)) pos) (tFmtB te) := by
  refine ⟨fun pins s σ H Q I h => wpAny_FormattedValue_spec (L2.thn (he.run pins s σ H _ I h) fun v s1 hv => ?_)⟩
  obtain ⟨x, H1, I1, r1, n, rfl, hz, q⟩ := hv
  obtain ⟨t, rfl⟩ := r1
  refine wpAny_JoinedStr_one (Calls.Constant_str ⟨_, _, rfl, ?_⟩)
  exact wpAny_formatField_spec (by decide) (fun s' => typeIs_int s' n t) F.slot_int_format F.entry_int_format F.args_int_format_2 (fun u => gives_b n t u) ⟨.str (X n), H1, ((I1.tok _).tok _).tok _, ⟨_, rfl⟩, q⟩ (by decide) hz
end
end Fb

namespace I2
open PySem PySem.NumText PySem.Calls PyProof.Rows L2
/-! a number read from binary digits -/
def dv (b : Bool) : Nat := if b then 1 else 0
/-- the value of bits, the highest first -/
def val (bs : List Bool) : Nat := bs.foldl (fun a b => a * 2 + dv b) 0
theorem cd_ne (b : Bool) : Bs.cd b ≠ 95 ∧ Bs.cd b ≠ 45 ∧ Bs.cd b ≠ 43 ∧ Bs.cd b ≠ 98 ∧ Bs.cd b ≠ 66 ∧ Bs.cd b ≠ 120 ∧ Bs.cd b ≠ 88 ∧ Bs.cd b ≠ 111 ∧ Bs.cd b ≠ 79 ∧ Bs.cd b ≠ 0 := by cases b <;> decide
theorem blank_cd (b : Bool) : NumText.blank (Bs.cd b) = false := by cases b <;> rfl
theorem digit_cd (b : Bool) : NumText.digit? (Bs.cd b) = some (dv b) := by cases b <;> rfl
theorem turn2 (a : Array Nat) (k : Bool) (b : Bool) : NumText.step 2 (a, k) (Bs.cd b) = some (a.push (dv b), true) := by cases b <;> rfl
theorem turns2 : ∀ (bs : List Bool) (a : Array Nat), (bs.map Bs.cd).foldlM (NumText.step 2) (a, true) = some (bs.foldl (fun x b => x.push (dv b)) a, true)
  | [], _ => rfl
  | b :: bs, a => by
    rw [List.map_cons, List.foldlM_cons, turn2]
    exact turns2 bs (a.push (dv b))
theorem digs2 (b : Bool) (bs : List Bool) : NumText.digits? 2 ((b :: bs).map Bs.cd) = some ((b :: bs).foldl (fun x b => x.push (dv b)) #[]) := by
  unfold NumText.digits?
  rw [List.map_cons, List.foldlM_cons, turn2]
  show (List.foldlM (NumText.step 2) ((#[] : Array Nat).push (dv b), true) (bs.map Bs.cd)).bind _ = _
  rw [turns2]
  rfl
theorem worth : ∀ (bs : List Bool) (a : Array Nat), (bs.foldl (fun x b => x.push (dv b)) a).foldl (fun acc d => acc * 2 + d) 0 = bs.foldl (fun x b => x * 2 + dv b) (a.foldl (fun acc d => acc * 2 + d) 0)
  | [], _ => rfl
  | b :: bs, a => by
    rw [List.foldl_cons, worth bs (a.push (dv b)), List.foldl_cons]
    congr 1
    simp
theorem nodrop (bs : List Bool) : (bs.map Bs.cd).dropWhile NumText.blank = bs.map Bs.cd := by
  cases bs with
  | nil => rfl
  | cons b bs => rw [List.map_cons, List.dropWhile_cons, blank_cd]; rfl
theorem nosign (bs : List Bool) : NumText.sign (bs.map Bs.cd) = (false, bs.map Bs.cd) := by
  cases bs with
  | nil => rfl
  | cons b bs => cases b <;> rfl
theorem nopre (bs : List Bool) : NumText.prefix? (bs.map Bs.cd) = none := by
  match bs with
  | [] => rfl
  | [b] => cases b <;> rfl
  | b :: c :: r => cases b <;> cases c <;> rfl
theorem nobase (bs : List Bool) : NumText.based 2 (bs.map Bs.cd) = (2, false, bs.map Bs.cd) := by
  unfold NumText.based
  rw [nopre]; rfl
theorem read2 (b : Bool) (bs : List Bool) : (int_private% "readNumeral") 0 2 ((b :: bs).map Bs.cd) = (int_private% "Numeral.value") ((val (b :: bs) : Nat) : Int) := by
  rw [readNumeral_eq, nodrop, nosign]
  show judge 0 false (based 2 ((b :: bs).map Bs.cd)).1 (based 2 ((b :: bs).map Bs.cd)).2.1 (digits? (based 2 ((b :: bs).map Bs.cd)).1 (((based 2 ((b :: bs).map Bs.cd)).2.2.reverse.dropWhile blank).reverse)) = _
  rw [nobase]
  show judge 0 false 2 false (digits? 2 ((((b :: bs).map Bs.cd).reverse.dropWhile blank).reverse)) = _
  rw [← List.map_reverse, nodrop, List.map_reverse, List.reverse_reverse, digs2]
  show (int_private% "Numeral.value") ((((b :: bs).foldl (fun x b => x.push (dv b)) (#[] : Array Nat)).foldl (fun acc d => acc * 2 + d) 0 : Nat) : Int) = _
  rw [worth]; rfl
theorem seen2 (bs : List Bool) : numTextOf (Bs.S bs) = bs.map Bs.cd ∧ numSeenOf (Bs.S bs) = bs.map Bs.cd := by
  have e1 : numTextOf (Bs.S bs) = bs.map Bs.cd := by
    refine if_pos ?_
    rw [← Array.all_toList, List.all_eq_true]
    intro c hc
    obtain ⟨b, _, rfl⟩ := List.mem_map.mp (show c ∈ bs.map Bs.cd from hc)
    cases b <;> decide
  refine ⟨e1, ?_⟩
  show (numTextOf (Bs.S bs)).takeWhile _ = _
  rw [e1]
  exact NumText.takeWhile_all fun c hc => by
    obtain ⟨b, _, rfl⟩ := List.mem_map.mp hc
    exact bne_iff_ne.mpr (cd_ne b).2.2.2.2.2.2.2.2.2
structure Kept (p : Prop) : Prop where
  out : p
set_option maxHeartbeats 4000000 in
theorem gives2 {bs : List Bool} {b : Bool} {u t : Tok} (hl : (b :: bs).length ≤ 640) : Gives (Builtin.«int.__new__» ⟨[.type "int", .str (Bs.S (b :: bs)) u, .int 2 t], []⟩) (.int ((val (b :: bs) : Nat) : Int)) :=
  .of_wp fun M A E s Q hQ => by
    obtain ⟨hp, g, d, tk, os⟩ := s
    have f1 := F.conv_sub_int
    have f2 := F.madeHere_int
    have f6 : typeOf (.str (Bs.S (b :: bs)) u) = pure (.type "str") := rfl
    obtain ⟨e1, e2⟩ := seen2 (b :: bs)
    have hk := Kept.mk (And.intro (show (numSeenOf (Bs.S (b :: bs))).length ≤ 640 by rw [e2, List.length_map]; exact hl)
      (And.intro (show (int_private% "readNumeral") 0 2 (numSeenOf (Bs.S (b :: bs))) = (int_private% "Numeral.value") ((val (b :: bs) : Nat) : Int) by rw [e2]; exact read2 b bs) (show ((numSeenOf (Bs.S (b :: bs))).length == (numTextOf (Bs.S (b :: bs))).length) = true by rw [e1, e2]; exact beq_self_eq_true _)))
    clear e1 e2 hl
    repeat (any_goals (first | assumption | ((with_reducible show wpAny _ _ ((int_private% "intFromText") _ _ _) _ _ _); refine Hx.wp_textB hk.out.1 hk.out.2.1 hk.out.2.2 ?_) | wp_step))
    all_goals first | exact ⟨_, rfl, hQ⟩ | skip
theorem call2 {prog : Program} {w : World} {A : Around} {E : Value → Shared → Prop} {s : Shared} {Q : Value → Shared → Prop} {bs : List Bool} {b : Bool} {u t : Tok} (hl : (b :: bs).length ≤ 640)
    (hQ : Q (.int ((val (b :: bs) : Nat) : Int) s.toks) { s with toks := s.toks + 1 }) : wpAny (model prog w) A (call (.type "int") [.str (Bs.S (b :: bs)) u, .int 2 t]) Q E s :=
  callType_new F.called_int F.newNe_int (Hx.typeCall_int_2 _ _) (Hx.newCall_int_2 _ _) (fun obj => F.initArgs_range_2 obj _ _) F.entry_int_new (gives2 hl).meets (show (Made.int ((val (b :: bs) : Nat) : Int)).post _ s from ⟨rfl, hQ⟩)
/-- int(t, 2) -/
def rInt2 : List V → Hp → VK → Prop := fun xs H Q => ∃ (b : Bool) (bs : List Bool), xs = [.str (Bs.S (b :: bs)), .int 2] ∧ (b :: bs).length ≤ 640 ∧ Q (.int ((val (b :: bs) : Nat) : Int)) H
theorem c_int2 {X : Cx} : CallR X (.type "int") rInt2 := by
  intro pins s σ H xs us Q I r h
  obtain ⟨b, bs, rfl, hl, q⟩ := h
  obtain ⟨u, w', rfl, r1, r2⟩ := vals2 r
  obtain ⟨t1, rfl⟩ := r1
  obtain ⟨t2, rfl⟩ := r2
  exact call2 hl ⟨.int ((val (b :: bs) : Nat) : Int), H, I.tok _, ⟨_, rfl⟩, q⟩
end I2

namespace Fb
open I2
theorem val_app (bs : List Bool) (b : Bool) : val (bs ++ [b]) = val bs * 2 + dv b := by unfold val; rw [List.foldl_append]; rfl
theorem val_zero (bs : List Bool) : val (false :: bs) = val bs := rfl
theorem dv_of (r : Nat) : dv (decide (r % 2 = 1)) = r % 2 := by
  have h : r % 2 = 0 ∨ r % 2 = 1 := by omega
  rcases h with h | h <;> rw [h] <;> rfl
theorem val_bin : ∀ k v, val (bin k v) = v % 2 ^ k
  | 0, v => by simp [bin, val, Nat.mod_one]
  | k + 1, v => by
    unfold bin
    rw [val_app, val_bin k (v / 2), dv_of, Nat.pow_succ, Nat.mul_comm (2 ^ k) 2, Nat.mod_mul]
    omega
theorem val_lt (bs : List Bool) : val bs < 2 ^ bs.length := by
  suffices h : ∀ (n : Nat) (bs : List Bool), bs.length = n → val bs < 2 ^ n from h _ bs rfl
  intro n
  induction n with
  | zero => intro bs h; rw [List.length_eq_zero_iff.mp h]; decide
  | succ n ih =>
    intro bs h
    rcases List.eq_nil_or_concat bs with e | ⟨cs, b, e⟩
    · rw [e] at h; cases h
    · rw [List.concat_eq_append] at e
      subst e
      rw [List.length_append, List.length_singleton] at h
      have := ih cs (by omega)
      rw [val_app, Nat.pow_succ]
      have hb : dv b ≤ 1 := by cases b <;> decide
      omega
theorem bin_val (bs : List Bool) : bin bs.length (val bs) = bs := by
  suffices h : ∀ (n : Nat) (bs : List Bool), bs.length = n → bin n (val bs) = bs from h _ bs rfl
  intro n
  induction n with
  | zero => intro bs h; rw [List.length_eq_zero_iff.mp h]; rfl
  | succ n ih =>
    intro bs h
    rcases List.eq_nil_or_concat bs with e | ⟨cs, b, e⟩
    · rw [e] at h; cases h
    · rw [List.concat_eq_append] at e
      subst e
      rw [List.length_append, List.length_singleton] at h
      unfold bin
      rw [val_app, show (val cs * 2 + dv b) / 2 = val cs by cases b <;> (unfold dv; simp) <;> omega, ih cs (by omega)]
      congr 2
      cases b <;> (unfold dv; simp) <;> omega
theorem bin_mod : ∀ k v, bin k (v % 2 ^ k) = bin k v
  | 0, _ => rfl
  | k + 1, v => by
    unfold bin
    have e1 : v % 2 ^ (k + 1) / 2 = v / 2 % 2 ^ k := by
      rw [Nat.pow_succ, Nat.mul_comm, Nat.mod_mul]; omega
    have e2 : v % 2 ^ (k + 1) % 2 = v % 2 := by
      rw [Nat.pow_succ, Nat.mul_comm, Nat.mod_mul]; omega
    rw [e1, e2, bin_mod k (v / 2)]
theorem bin_cons : ∀ k v, bin (k + 1) v = decide (v / 2 ^ k % 2 = 1) :: bin k v
  | 0, v => by simp [bin]
  | k + 1, v => by
    rw [bin, bin_cons k (v / 2), Nat.div_div_eq_div_mul, ← Nat.pow_succ']; rfl
theorem bin_eq {k a b : Nat} (ha : a < 2 ^ k) (hb : b < 2 ^ k) (h : bin k a = bin k b) : a = b := by
  have := congrArg val h
  rw [val_bin, val_bin, Nat.mod_eq_of_lt ha, Nat.mod_eq_of_lt hb] at this
  exact this
section
open PySem L2
variable {σ : L2.St} {H : Hp} {Q : VK} {te : TE}
def FbP (x : V) (H : Hp) (Q : VK) : Prop := ∃ n : Int, x = .int n ∧ (X n).length ≤ sizeLine ∧ Q (.str (X n)) H
theorem fmt (q : te σ H fun x H1 => FbP x H1 Q) : tFmtB te σ H Q := q
theorem fbp {k r : Nat} {n : Int} (e : n = ((2 ^ k + r : Nat) : Int)) (h : r < 2 ^ k) (hk : k ≤ 100000) (q : Q (.str (Bs.S (true :: bin k r))) H) : FbP (.int n) H Q :=
  ⟨n, rfl, by rw [e, X_led h, Bs.len, List.length_cons, bin_len, sizeLine_eq]; omega, by rw [e, X_led h]; exact q⟩
theorem int2 {bs : List Bool} (h : bs ≠ []) (hl : bs.length ≤ 640) (q : Q (.int (val bs : Nat)) H) : rInt2 [.str (Bs.S bs), .int 2] H Q := by
  cases bs with
  | nil => exact absurd rfl h
  | cons b bs => exact ⟨b, bs, rfl, hl, q⟩
end
end Fb

namespace Gx
open PySem L2
theorem bits {σ : L2.St} {H : Hp} {Q : VK} {te : TE} (q : te σ H fun x H1 => BiP x H1 Q) : tBits te σ H Q := q
theorem bip {H : Hp} {Q : VK} {i : Int} (q : Q (.int (Builtin.Int.intBits i : Nat)) H) : BiP (.int i) H Q := ⟨i, rfl, q⟩
end Gx
namespace Iv
open Cx_
/-! the interval lies in the whole -/
theorem sz_pos' {w : Nat} {bs : List Bool} : ∀ n, 0 < (iv w bs n).2.1 ∧ 0 < (iv w bs n).2.2
  | 0 => ⟨Nat.one_pos, Nat.one_pos⟩
  | n + 1 => by
    obtain ⟨h1, h2⟩ := sz_pos' (w := w) (bs := bs) n
    rw [iv]
    split
    · exact ⟨Nat.mul_pos h1 (by omega), Nat.mul_pos h2 (by omega)⟩
    · exact ⟨Nat.mul_pos h1 (by omega), Nat.mul_pos h2 (by omega)⟩
theorem in_whole {w : Nat} {bs : List Bool} : ∀ n, (iv w bs n).1 + (iv w bs n).2.1 ≤ (iv w bs n).2.2
  | 0 => Nat.le_refl _
  | n + 1 => by
    have h := in_whole (w := w) (bs := bs) n
    rw [iv]
    generalize (iv w bs n).1 = l at *
    generalize (iv w bs n).2.1 = s at *
    generalize (iv w bs n).2.2 = m at *
    generalize 1 + cnt w bs false n (ctx w bs n) = z
    generalize 1 + cnt w bs true n (ctx w bs n) = o
    have h2 := Nat.mul_le_mul_right (z + o) h
    rw [Nat.add_mul, Nat.mul_add s] at h2
    split
    · simp only []; omega
    · simp only []; omega
theorem wh_le {w : Nat} {bs : List Bool} : ∀ n, n ≤ 300 → (iv w bs n).2.2 ≤ 2 ^ (10 * n)
  | 0, _ => Nat.le_refl _
  | n + 1, hn => by
    have h := wh_le (w := w) (bs := bs) n (by omega)
    have c1 := cnt_le w bs false n (ctx w bs n)
    have c2 := cnt_le w bs true n (ctx w bs n)
    have e : (iv w bs (n + 1)).2.2 = (iv w bs n).2.2 * (1 + cnt w bs false n (ctx w bs n) + (1 + cnt w bs true n (ctx w bs n))) := by
      rw [iv]; split <;> rfl
    rw [e, show 10 * (n + 1) = 10 * n + 10 by omega, Nat.pow_add]
    exact Nat.mul_le_mul h (Nat.le_trans (show _ ≤ 602 by omega) (by decide))
theorem sz_pos (w : Nat) (bs : List Bool) : 0 < sz w bs := (sz_pos' _).1
theorem wh_pos (w : Nat) (bs : List Bool) : 0 < wh w bs := (sz_pos' _).2
theorem lo_sz (w : Nat) (bs : List Bool) : lo w bs + sz w bs ≤ wh w bs := in_whole _
end Iv
namespace Cd
/-- the first place of p from n on, within f places -/
def first (p : Nat → Bool) : Nat → Nat → Nat
  | n, 0 => n
  | n, f + 1 => if p n = true then n else first p (n + 1) f
theorem first_spec (p : Nat → Bool) : ∀ (f n j : Nat), n ≤ j → j ≤ n + f → p j = true → p (first p n f) = true ∧ n ≤ first p n f ∧ first p n f ≤ j ∧ ∀ i, n ≤ i → i < first p n f → p i = false
  | 0, n, j, h1, h2, h3 => by
    have e : j = n := by omega
    subst e
    exact ⟨h3, Nat.le_refl _, Nat.le_refl _, fun i a b => absurd a (by unfold first at b; omega)⟩
  | f + 1, n, j, h1, h2, h3 => by
    unfold first
    by_cases h : p n = true
    · rw [if_pos h]; exact ⟨h, Nat.le_refl _, h1, fun i a b => absurd a (by omega)⟩
    · rw [if_neg h]
      have hj : n + 1 ≤ j := by
        rcases Nat.lt_or_ge n j with q | q
        · exact q
        · exact absurd (show p n = true by rw [show n = j by omega]; exact h3) h
      obtain ⟨a, b, c, d⟩ := first_spec p f (n + 1) j hj (by omega) h3
      refine ⟨a, by omega, c, fun i x y => ?_⟩
      by_cases e : i = n
      · subst e; simpa using h
      · exact d i (by omega) y
/-- the least a with a / 2^k from low / whole on -/
def ceil (l h k : Nat) : Nat := (l * 2 ^ k + h - 1) / h
/-- its cell lies in the interval -/
def fit (l s h k : Nat) : Bool := decide ((ceil l h k + 1) * h ≤ (l + s) * 2 ^ k)
/-- the number of digits of the shortest cell -/
def klen (l s h : Nat) : Nat := first (fit l s h) 0 (h + 2)
theorem ceil_ge {l h k : Nat} (hh : 0 < h) : l * 2 ^ k ≤ ceil l h k * h := by
  unfold ceil
  have e := Nat.div_add_mod (l * 2 ^ k + h - 1) h
  have m := Nat.mod_lt (l * 2 ^ k + h - 1) hh
  rw [Nat.mul_comm] at e
  omega
theorem ceil_lt {l h k : Nat} (hh : 0 < h) : ceil l h k * h < l * 2 ^ k + h := by
  unfold ceil
  have e := Nat.div_mul_le_self (l * 2 ^ k + h - 1) h
  omega
theorem fit_of {l s h k : Nat} (hh : 0 < h) (g : 2 * h ≤ s * 2 ^ k) : fit l s h k = true := by
  refine decide_eq_true ?_
  have c := ceil_lt (l := l) (k := k) hh
  rw [Nat.add_mul, Nat.add_mul, Nat.one_mul]
  omega
theorem le_of_fit {l s h k : Nat} (hh : 0 < h) (g : fit l s h k = true) : h ≤ s * 2 ^ k := by
  have g2 := of_decide_eq_true g
  have c := ceil_ge (l := l) (k := k) hh
  rw [Nat.add_mul, Nat.add_mul, Nat.one_mul] at g2
  omega
theorem klen_spec {l s h : Nat} (hs : 0 < s) (hh : 0 < h) : fit l s h (klen l s h) = true ∧ ∀ i, i < klen l s h → fit l s h i = false := by
  have g : fit l s h (h + 2) = true := fit_of hh (by
    have := Nat.lt_two_pow_self (n := h)
    have e : 2 ^ (h + 2) = 4 * 2 ^ h := by rw [Nat.pow_add, Nat.mul_comm]
    have := Nat.mul_le_mul hs (Nat.le_refl (2 ^ (h + 2)))
    omega)
  obtain ⟨a, b, c, d⟩ := first_spec (fit l s h) (h + 2) 0 (h + 2) (Nat.zero_le _) (by omega) g
  exact ⟨a, fun i hi => d i (Nat.zero_le _) hi⟩
theorem klen_eq {l s h k : Nat} (hs : 0 < s) (hh : 0 < h) (g : fit l s h k = true) (m : ∀ i, i < k → fit l s h i = false) : k = klen l s h := by
  obtain ⟨a, b⟩ := klen_spec (l := l) hs hh
  rcases Nat.lt_trichotomy k (klen l s h) with q | q | q
  · have z := b k q; rw [g] at z; cases z
  · exact q
  · have z := m _ q; rw [a] at z; cases z
theorem klen_lt {l s h : Nat} (hs : 0 < s) (hh : 0 < h) (hl : l + s ≤ h) : s * 2 ^ klen l s h < 4 * h := by
  obtain ⟨a, b⟩ := klen_spec (l := l) hs hh
  cases e : klen l s h with
  | zero => rw [Nat.pow_zero, Nat.mul_one]; omega
  | succ k =>
    have z := b k (by omega)
    have n : ¬ 2 * h ≤ s * 2 ^ k := fun q => by rw [fit_of hh q] at z; cases z
    rw [Nat.pow_succ, ← Nat.mul_assoc]; omega
theorem ceil_small {l s h : Nat} (hs : 0 < s) (hh : 0 < h) (hl : l + s ≤ h) : ceil l h (klen l s h) < 2 ^ klen l s h := by
  have a := of_decide_eq_true (klen_spec (l := l) hs hh).1
  have b := Nat.mul_le_mul_right (2 ^ klen l s h) hl
  have c : (ceil l h (klen l s h) + 1) * h ≤ 2 ^ klen l s h * h := by rw [Nat.mul_comm (2 ^ _)]; exact Nat.le_trans a b
  exact Nat.le_of_mul_le_mul_right c hh
theorem klen_small {l s h b : Nat} (hs : 0 < s) (hh : 0 < h) (hl : l + s ≤ h) (hb : h ≤ 2 ^ b) : klen l s h < b + 2 := by
  have a := klen_lt (l := l) hs hh hl
  have c : 2 ^ klen l s h ≤ s * 2 ^ klen l s h := Nat.le_mul_of_pos_left _ hs
  have d : 2 ^ klen l s h < 2 ^ (b + 2) := by rw [Nat.pow_add]; omega
  exact (Nat.pow_lt_pow_iff_right (by decide)).mp d
/-- no shorter cell fits than the number of binary digits says -/
theorem bits_below {l s h i : Nat} (hs : 0 < s) (hh : 0 < h) (hi : i < PySem.Builtin.Int.intBits (((h - 1) / s : Nat) : Int)) : fit l s h i = false := by
  have e : 2 ^ i ≤ (h - 1) / s := by
    unfold PySem.Builtin.Int.intBits at hi
    generalize (h - 1) / s = x at *
    by_cases hx : x = 0
    · subst hx; simp at hi
    · have hx2 : ((x : Int) == 0) = false := by simp; omega
      rw [hx2] at hi
      simp only [Bool.false_eq_true, if_false, Int.natAbs_natCast] at hi
      exact Nat.le_trans (Nat.pow_le_pow_right (by decide) (by omega)) (Nat.log2_self_le hx)
  cases q : fit l s h i with
  | false => rfl
  | true =>
    have a := le_of_fit hh q
    have b := (Nat.le_div_iff_mul_le hs).mp e
    rw [Nat.mul_comm] at b
    omega
end Cd
namespace Iv
/-- the code of bits: so many digits, of this value -/
def kl (w : Nat) (bs : List Bool) : Nat := Cd.klen (lo w bs) (sz w bs) (wh w bs)
def av (w : Nat) (bs : List Bool) : Nat := Cd.ceil (lo w bs) (wh w bs) (kl w bs)
def code (w : Nat) (bs : List Bool) : List Bool := Fb.bin (kl w bs) (av w bs)
theorem code_len (w : Nat) (bs : List Bool) : (code w bs).length = kl w bs := Fb.bin_len _ _
theorem av_lt (w : Nat) (bs : List Bool) : av w bs < 2 ^ kl w bs := Cd.ceil_small (sz_pos w bs) (wh_pos w bs) (lo_sz w bs)
theorem code_val (w : Nat) (bs : List Bool) : I2.val (code w bs) = av w bs := by
  unfold code; rw [Fb.val_bin, Nat.mod_eq_of_lt (av_lt w bs)]
theorem wh_pow {w : Nat} {bs : List Bool} (h : bs.length ≤ 300) : wh w bs ≤ 2 ^ 3000 := Nat.le_trans (wh_le _ h) (Nat.pow_le_pow_right (by decide) (by omega))
theorem kl_le {w : Nat} {bs : List Bool} (h : bs.length ≤ 300) : kl w bs < 3002 := Cd.klen_small (sz_pos w bs) (wh_pos w bs) (lo_sz w bs) (wh_pow h)
end Iv

namespace Pr
/-! products and sums over the first places -/
def prod (f : Nat → Nat) : Nat → Nat
  | 0 => 1
  | k + 1 => prod f k * f k
def sum (f : Nat → Nat) : Nat → Nat
  | 0 => 0
  | k + 1 => sum f k + f k
def fct : Nat → Nat
  | 0 => 1
  | n + 1 => fct n * (n + 1)
theorem fct_pos : ∀ n, 0 < fct n
  | 0 => Nat.one_pos
  | n + 1 => Nat.mul_pos (fct_pos n) (Nat.succ_pos n)
theorem prod_pos {f : Nat → Nat} (h : ∀ i, 0 < f i) : ∀ k, 0 < prod f k
  | 0 => Nat.one_pos
  | k + 1 => Nat.mul_pos (prod_pos h k) (h k)
theorem prod_le {f g : Nat → Nat} (h : ∀ i, f i ≤ g i) : ∀ k, prod f k ≤ prod g k
  | 0 => Nat.le_refl _
  | k + 1 => Nat.mul_le_mul (prod_le h k) (h k)
theorem prod_congr {f g : Nat → Nat} : ∀ k, (∀ i, i < k → f i = g i) → prod f k = prod g k
  | 0, _ => rfl
  | k + 1, h => by unfold prod; rw [prod_congr k fun i hi => h i (by omega), h k (by omega)]
theorem prod_mul (f g : Nat → Nat) : ∀ k, prod (fun i => f i * g i) k = prod f k * prod g k
  | 0 => rfl
  | k + 1 => by
    unfold prod
    rw [prod_mul f g k]
    exact Nat.mul_mul_mul_comm ..
theorem prod_pow (f : Nat → Nat) (e : Nat) : ∀ k, prod (fun i => f i ^ e) k = prod f k ^ e
  | 0 => by simp [prod]
  | k + 1 => by unfold prod; rw [prod_pow f e k, Nat.mul_pow]
theorem prod_two (f : Nat → Nat) : ∀ k, prod (fun i => 2 ^ f i) k = 2 ^ sum f k
  | 0 => rfl
  | k + 1 => by unfold prod sum; rw [prod_two f k, Nat.pow_add]
/-- one factor grows -/
theorem prod_one {f g : Nat → Nat} {a r : Nat} : ∀ k, a < k → g a = f a * r → (∀ i, i ≠ a → g i = f i) → prod g k = prod f k * r
  | 0, h, _, _ => absurd h (by omega)
  | k + 1, h, h1, h2 => by
    unfold prod
    by_cases e : a = k
    · subst e
      rw [prod_congr (f := g) (g := f) a fun i hi => h2 i (by omega), h1, Nat.mul_assoc]
    · rw [prod_one k (by omega) h1 h2, h2 k (by omega)]
      exact Nat.mul_right_comm ..
theorem sum_one {f g : Nat → Nat} {a r : Nat} : ∀ k, a < k → g a = f a + r → (∀ i, i ≠ a → g i = f i) → sum g k = sum f k + r
  | 0, h, _, _ => absurd h (by omega)
  | k + 1, h, h1, h2 => by
    have sc : ∀ k, (∀ i, i < k → g i = f i) → sum g k = sum f k := by
      intro k
      induction k with
      | zero => intro _; rfl
      | succ k ih => intro h; unfold sum; rw [ih fun i hi => h i (by omega), h k (by omega)]
    unfold sum
    by_cases e : a = k
    · subst e
      rw [sc a fun i hi => h2 i (by omega), h1]; omega
    · rw [sum_one k (by omega) h1 h2, h2 k (by omega)]; omega
theorem fct_two : ∀ (s a b : Nat), a + b = s → fct (a + b) ≤ fct a * fct b * 2 ^ (a + b)
  | s, 0, b, _ => by
    rw [Nat.zero_add]
    show fct b ≤ 1 * fct b * 2 ^ b
    rw [Nat.one_mul]
    exact Nat.le_mul_of_pos_right _ (Nat.two_pow_pos b)
  | s, a + 1, 0, _ => by
    show fct (a + 1) ≤ fct (a + 1) * 1 * 2 ^ (a + 1)
    rw [Nat.mul_one]
    exact Nat.le_mul_of_pos_right _ (Nat.two_pow_pos _)
  | 0, a + 1, b + 1, h => by omega
  | s + 1, a + 1, b + 1, h => by
    have h1 := fct_two s a (b + 1) (by omega)
    have h2 := fct_two s (a + 1) b (by omega)
    rw [show a + 1 + (b + 1) = (a + (b + 1)) + 1 by omega]
    have e : a + 1 + b = a + (b + 1) := by omega
    rw [e] at h2
    show fct (a + (b + 1)) * (a + (b + 1) + 1) ≤ _
    rw [show a + (b + 1) + 1 = (a + 1) + (b + 1) by omega, Nat.mul_add]
    generalize fct (a + (b + 1)) = x at *
    rw [show a + 1 + (b + 1) = (a + (b + 1)) + 1 by omega, Nat.pow_succ]
    generalize 2 ^ (a + (b + 1)) = p at *
    have g1 := Nat.mul_le_mul_right (a + 1) h1
    have g2 := Nat.mul_le_mul_right (b + 1) h2
    have e1 : fct a * fct (b + 1) * p * (a + 1) = fct (a + 1) * fct (b + 1) * p := by
      show _ = fct a * (a + 1) * fct (b + 1) * p
      rw [Nat.mul_right_comm (fct a) (a + 1), Nat.mul_right_comm (fct a * fct (b + 1)) (a + 1)]
    have e2 : fct (a + 1) * fct b * p * (b + 1) = fct (a + 1) * fct (b + 1) * p := by
      show _ = fct (a + 1) * (fct b * (b + 1)) * p
      rw [← Nat.mul_assoc, Nat.mul_right_comm _ (b + 1) p]
    rw [e1] at g1
    rw [e2] at g2
    rw [← Nat.mul_assoc]
    omega
end Pr
namespace Iv
open Cx_ Pr
/-! codes are short: the whole over the size is at most a power of two -/
theorem pow16 (n : Nat) : (n + 1) ^ 16 ≤ 2 ^ (n + 51) := by
  by_cases h : n ≤ 22
  · have : ∀ m : _root_.Fin 23, (m.1 + 1) ^ 16 ≤ 2 ^ (m.1 + 51) := by decide +kernel
    exact this ⟨n, by omega⟩
  · obtain ⟨k, rfl⟩ : ∃ k, n = 22 + k := ⟨n - 22, by omega⟩
    clear h
    induction k with
    | zero => decide +kernel
    | succ k ih =>
      have step : (22 + (k + 1) + 1) ^ 16 ≤ 2 * (22 + k + 1) ^ 16 := by
        have a : (23 * (22 + (k + 1) + 1)) ^ 16 ≤ (24 * (22 + k + 1)) ^ 16 := Nat.pow_le_pow_left (by omega) 16
        rw [Nat.mul_pow, Nat.mul_pow] at a
        have b : (24 : Nat) ^ 16 ≤ 2 * 23 ^ 16 := by decide +kernel
        have c := Nat.mul_le_mul_right ((22 + k + 1) ^ 16) b
        have d : 23 ^ 16 * (22 + (k + 1) + 1) ^ 16 ≤ 23 ^ 16 * (2 * (22 + k + 1) ^ 16) := by
          refine Nat.le_trans a (Nat.le_trans c (Nat.le_of_eq ?_))
          rw [Nat.mul_comm 2 (23 ^ 16), Nat.mul_assoc]
        exact Nat.le_of_mul_le_mul_left d (by decide +kernel)
      refine Nat.le_trans step (Nat.le_trans (Nat.mul_le_mul_left 2 ih) (Nat.le_of_eq ?_))
      rw [show 22 + (k + 1) + 51 = (22 + k + 51) + 1 by omega]
      exact (Nat.pow_succ' ..).symm
theorem cnt_ne {w : Nat} {bs : List Bool} {n c : Nat} (b : Bool) (h : ¬ ctx w bs n = c) : cnt w bs b (n + 1) c = cnt w bs b n c := by
  show cnt w bs b n c + (if _ ∧ _ then 1 else 0) = _
  rw [if_neg (fun z => h z.1)]; rfl
theorem cnt_no {w : Nat} {bs : List Bool} {n c : Nat} {b : Bool} (h : ¬ bs.getD n false = b) : cnt w bs b (n + 1) c = cnt w bs b n c := by
  show cnt w bs b n c + (if _ ∧ _ then 1 else 0) = _
  rw [if_neg (fun z => h z.2)]; rfl
theorem cnt_yes {w : Nat} {bs : List Bool} {n c : Nat} {b : Bool} (h : ctx w bs n = c) (hb : bs.getD n false = b) : cnt w bs b (n + 1) c = cnt w bs b n c + 1 := by
  show cnt w bs b n c + (if _ ∧ _ then 1 else 0) = _
  rw [if_pos ⟨h, hb⟩]
/-- how many bits came in a context -/
def many (w : Nat) (bs : List Bool) (n c : Nat) : Nat := cnt w bs false n c + cnt w bs true n c
theorem many_step (w : Nat) (bs : List Bool) (n c : Nat) : many w bs (n + 1) c = many w bs n c + if ctx w bs n = c then 1 else 0 := by
  show cnt w bs false (n + 1) c + cnt w bs true (n + 1) c = cnt w bs false n c + cnt w bs true n c + _
  by_cases h : ctx w bs n = c
  · rw [if_pos h]
    cases e : bs.getD n false
    · rw [cnt_yes h e, cnt_no (b := true) (by rw [e]; decide)]; omega
    · rw [cnt_yes h e, cnt_no (b := false) (by rw [e]; decide)]; omega
  · rw [if_neg h, cnt_ne _ h, cnt_ne _ h]; rfl
theorem many_sum (w : Nat) (bs : List Bool) : ∀ n, sum (many w bs n) 16 = n
  | 0 => rfl
  | n + 1 => by
    rw [sum_one (f := many w bs n) (a := ctx w bs n) (r := 1) 16 (ctx_lt w bs n) (by rw [many_step, if_pos rfl]) (fun i hi => by rw [many_step, if_neg (Ne.symm hi)]; rfl), many_sum w bs n]
/-- the interval by its counts: size times all (n + 1)! is the whole times all z! o! -/
theorem by_counts (w : Nat) (bs : List Bool) : ∀ n, (iv w bs n).2.1 * prod (fun c => fct (many w bs n c + 1)) 16 = (iv w bs n).2.2 * prod (fun c => fct (cnt w bs false n c) * fct (cnt w bs true n c)) 16
  | 0 => rfl
  | n + 1 => by
    have ih := by_counts w bs n
    have hc := ctx_lt w bs n
    have p1 : prod (fun c => fct (many w bs (n + 1) c + 1)) 16 = prod (fun c => fct (many w bs n c + 1)) 16 * (many w bs n (ctx w bs n) + 2) :=
      prod_one (a := ctx w bs n) 16 hc (by rw [many_step, if_pos rfl]; rfl) (fun i hi => by rw [many_step, if_neg (Ne.symm hi)])
    rw [p1]
    by_cases hb : bs.getD n false = true
    · have p2 : prod (fun c => fct (cnt w bs false (n + 1) c) * fct (cnt w bs true (n + 1) c)) 16 = prod (fun c => fct (cnt w bs false n c) * fct (cnt w bs true n c)) 16 * (1 + cnt w bs true n (ctx w bs n)) :=
        prod_one (a := ctx w bs n) 16 hc (by
          have e1 : cnt w bs false (n + 1) (ctx w bs n) = cnt w bs false n (ctx w bs n) := cnt_no (by rw [hb]; decide)
          have e2 : cnt w bs true (n + 1) (ctx w bs n) = cnt w bs true n (ctx w bs n) + 1 := cnt_yes rfl hb
          rw [e1, e2, Nat.mul_assoc, Nat.add_comm 1]; rfl) (fun i hi => by
          have e1 : ∀ b, cnt w bs b (n + 1) i = cnt w bs b n i := fun b => cnt_ne b (fun z => hi z.symm)
          rw [e1, e1])
      rw [p2, iv, if_pos hb]
      simp only []
      have e : 1 + cnt w bs false n (ctx w bs n) + (1 + cnt w bs true n (ctx w bs n)) = many w bs n (ctx w bs n) + 2 := by unfold many; omega
      rw [e, Nat.mul_mul_mul_comm, Nat.mul_comm (1 + cnt w bs true n (ctx w bs n)) (many w bs n (ctx w bs n) + 2), Nat.mul_mul_mul_comm ((iv w bs n).2.2), ih]
    · have hb2 : bs.getD n false = false := by simpa using hb
      have p2 : prod (fun c => fct (cnt w bs false (n + 1) c) * fct (cnt w bs true (n + 1) c)) 16 = prod (fun c => fct (cnt w bs false n c) * fct (cnt w bs true n c)) 16 * (1 + cnt w bs false n (ctx w bs n)) :=
        prod_one (a := ctx w bs n) 16 hc (by
          have e1 : cnt w bs true (n + 1) (ctx w bs n) = cnt w bs true n (ctx w bs n) := cnt_no (by rw [hb2]; decide)
          have e2 : cnt w bs false (n + 1) (ctx w bs n) = cnt w bs false n (ctx w bs n) + 1 := cnt_yes rfl hb2
          rw [e1, e2, Nat.mul_right_comm]; congr 1; rw [Nat.add_comm 1]; rfl) (fun i hi => by
          have e1 : ∀ b, cnt w bs b (n + 1) i = cnt w bs b n i := fun b => cnt_ne b (fun z => hi z.symm)
          rw [e1, e1])
      rw [p2, iv, if_neg hb]
      simp only []
      have e : 1 + cnt w bs false n (ctx w bs n) + (1 + cnt w bs true n (ctx w bs n)) = many w bs n (ctx w bs n) + 2 := by unfold many; omega
      rw [e, Nat.mul_mul_mul_comm, Nat.mul_comm (1 + cnt w bs false n (ctx w bs n)) (many w bs n (ctx w bs n) + 2), Nat.mul_mul_mul_comm ((iv w bs n).2.2), ih]
theorem whole_le (w : Nat) (bs : List Bool) (n : Nat) : (iv w bs n).2.2 ≤ (iv w bs n).2.1 * (2 ^ n * prod (fun c => many w bs n c + 1) 16) := by
  have h := by_counts w bs n
  have le : prod (fun c => fct (many w bs n c + 1)) 16 ≤ prod (fun c => (fct (cnt w bs false n c) * fct (cnt w bs true n c)) * (2 ^ many w bs n c * (many w bs n c + 1))) 16 := prod_le (fun c => by
    have f := fct_two _ (cnt w bs false n c) (cnt w bs true n c) rfl
    have g := Nat.mul_le_mul_right (many w bs n c + 1) f
    rw [Nat.mul_assoc] at g
    exact g) 16
  rw [prod_mul, prod_mul (fun c => 2 ^ many w bs n c), prod_two, many_sum] at le
  have pos : 0 < prod (fun c => fct (cnt w bs false n c) * fct (cnt w bs true n c)) 16 := prod_pos (fun c => Nat.mul_pos (fct_pos _) (fct_pos _)) 16
  have le2 := Nat.mul_le_mul_left ((iv w bs n).2.1) le
  rw [h, Nat.mul_left_comm] at le2
  rw [Nat.mul_comm (iv w bs n).2.2] at le2
  exact Nat.le_of_mul_le_mul_left le2 pos
theorem short {w : Nat} {bs : List Bool} (hw : 0 < w) : 16 * kl w bs < 17 * bs.length + 848 := by
  have h1 := Cd.klen_lt (sz_pos w bs) (wh_pos w bs) (lo_sz w bs)
  have h2 : wh w bs ≤ sz w bs * (2 ^ bs.length * prod (fun c => many w bs bs.length c + 1) 16) := whole_le w bs bs.length
  have h3 : sz w bs * 2 ^ kl w bs < sz w bs * (2 ^ (bs.length + 2) * prod (fun c => many w bs bs.length c + 1) 16) := by
    have e : sz w bs * (2 ^ (bs.length + 2) * prod (fun c => many w bs bs.length c + 1) 16) = 4 * (sz w bs * (2 ^ bs.length * prod (fun c => many w bs bs.length c + 1) 16)) := by
      rw [Nat.pow_add, show (2 : Nat) ^ 2 = 4 by decide, Nat.mul_comm (2 ^ bs.length) 4, Nat.mul_assoc 4, Nat.mul_left_comm (sz w bs) 4]
    rw [e]
    exact Nat.lt_of_lt_of_le h1 (Nat.mul_le_mul_left 4 h2)
  have h4 := Nat.lt_of_mul_lt_mul_left h3
  have h5 := Nat.pow_lt_pow_left h4 (show 16 ≠ 0 by decide)
  rw [Nat.mul_pow, ← prod_pow, ← Nat.pow_mul, ← Nat.pow_mul] at h5
  have h6 : prod (fun c => (many w bs bs.length c + 1) ^ 16) 16 ≤ prod (fun c => 2 ^ (many w bs bs.length c + 51)) 16 := prod_le (fun c => pow16 _) 16
  have h7 : prod (fun c => 2 ^ (many w bs bs.length c + 51)) 16 = 2 ^ (bs.length + 816) := by
    have e : (fun c => 2 ^ (many w bs bs.length c + 51)) = (fun c => 2 ^ many w bs bs.length c * 2 ^ 51) := by funext c; rw [Nat.pow_add]
    have c51 : prod (fun _ => 2 ^ 51) 16 = 2 ^ 816 := by decide +kernel
    rw [e, prod_mul, prod_two, many_sum, c51, Nat.pow_add]
  rw [h7] at h6
  have h8 := Nat.lt_of_lt_of_le h5 (Nat.mul_le_mul_left _ h6)
  rw [← Nat.pow_add] at h8
  have h9 := (Nat.pow_lt_pow_iff_right (by decide)).mp h8
  omega
end Iv

namespace Ord
open Cx_ Iv I2 Fb
/-! intervals nest; codes lie as the bits do -/
theorem cross {a x b y c z : Nat} (h1 : a * y ≤ b * x) (h2 : b * z ≤ c * y) (hy : 0 < y) : a * z ≤ c * x := by
  have g1 := Nat.mul_le_mul_right z h1
  have g2 := Nat.mul_le_mul_right x h2
  refine Nat.le_of_mul_le_mul_right (?_ : a * z * y ≤ c * x * y) hy
  rw [Nat.mul_right_comm a z y, Nat.mul_right_comm c x y]
  refine Nat.le_trans g1 ?_
  rw [Nat.mul_right_comm b x z]
  exact g2
/-- b lies in a -/
def Nest (a b : Nat × Nat × Nat) : Prop := a.1 * b.2.2 ≤ b.1 * a.2.2 ∧ (b.1 + b.2.1) * a.2.2 ≤ (a.1 + a.2.1) * b.2.2
theorem Nest.trans {a b c : Nat × Nat × Nat} (h : 0 < b.2.2) (p : Nest a b) (q : Nest b c) : Nest a c :=
  ⟨cross p.1 q.1 h, cross q.2 p.2 h⟩
theorem Nest.refl (a : Nat × Nat × Nat) : Nest a a := ⟨Nat.le_refl _, Nat.le_refl _⟩
theorem nest_step (w : Nat) (bs : List Bool) (n : Nat) : Nest (iv w bs n) (iv w bs (n + 1)) := by
  unfold Nest
  rw [iv]
  generalize (iv w bs n).1 = l
  generalize (iv w bs n).2.1 = s
  generalize (iv w bs n).2.2 = m
  generalize 1 + cnt w bs false n (ctx w bs n) = z
  generalize 1 + cnt w bs true n (ctx w bs n) = o
  split
  · refine ⟨?_, ?_⟩
    · show l * (m * (z + o)) ≤ (l * (z + o) + s * z) * m
      rw [Nat.add_mul, Nat.mul_right_comm l (z + o) m, Nat.mul_assoc]; omega
    · show (l * (z + o) + s * z + s * o) * m ≤ (l + s) * (m * (z + o))
      rw [Nat.add_assoc, ← Nat.mul_add s, ← Nat.add_mul, Nat.mul_right_comm, Nat.mul_assoc]; exact Nat.le_refl _
  · refine ⟨?_, ?_⟩
    · show l * (m * (z + o)) ≤ (l * (z + o)) * m
      rw [Nat.mul_right_comm l (z + o) m, Nat.mul_assoc]; exact Nat.le_refl _
    · show (l * (z + o) + s * z) * m ≤ (l + s) * (m * (z + o))
      have e : (l + s) * (m * (z + o)) = (l * (z + o) + s * (z + o)) * m := by
        rw [← Nat.add_mul, Nat.mul_right_comm, Nat.mul_assoc]
      rw [e]
      exact Nat.mul_le_mul_right m (Nat.add_le_add_left (Nat.mul_le_mul_left s (Nat.le_add_right _ _)) _)
theorem nest (w : Nat) (bs : List Bool) (n : Nat) : ∀ k, Nest (iv w bs n) (iv w bs (n + k))
  | 0 => Nest.refl _
  | k + 1 => (nest w bs n k).trans (sz_pos' _).2 (nest_step w bs (n + k))
/-- bits up to the first difference -/
def Diff (one two : List Bool) (q : List Bool) : Prop := ∃ t t', one = q ++ false :: t ∧ two = q ++ true :: t'
theorem diff_or : ∀ {one two : List Bool}, one.length = two.length → one ≠ two → ∃ q, Diff one two q ∨ Diff two one q
  | [], [], _, h => absurd rfl h
  | a :: one, b :: two, hl, h => by
    by_cases e : a = b
    · subst e
      obtain ⟨q, z⟩ := diff_or (one := one) (two := two) (by simpa using hl) (fun z => h (by rw [z]))
      refine ⟨a :: q, z.elim (fun ⟨t, t', h1, h2⟩ => .inl ⟨t, t', by rw [h1]; rfl, by rw [h2]; rfl⟩) (fun ⟨t, t', h1, h2⟩ => .inr ⟨t, t', by rw [h1]; rfl, by rw [h2]; rfl⟩)⟩
    · refine ⟨[], ?_⟩
      cases a <;> cases b
      · exact absurd rfl e
      · exact .inl ⟨one, two, rfl, rfl⟩
      · exact .inr ⟨two, one, rfl, rfl⟩
      · exact absurd rfl e
theorem diff_at {q t : List Bool} {b : Bool} : (q ++ b :: t).getD q.length false = b := getD_len
theorem diff_before {q t : List Bool} {i : Nat} (h : i < q.length) : (q ++ t).getD i false = q.getD i false := getD_app h
/-- the intervals lie apart, in order -/
theorem apart {w : Nat} {one two q : List Bool} (hw : 0 < w) (d : Diff one two q) : (lo w one + sz w one) * wh w two ≤ lo w two * wh w one := by
  obtain ⟨t, t', rfl, rfl⟩ := d
  have same : ∀ i, i < q.length → (q ++ false :: t).getD i false = (q ++ true :: t').getD i false := fun i hi => by rw [getD_app hi, getD_app hi]
  have n1 := nest w (q ++ false :: t) (q.length + 1) t.length
  have n2 := nest w (q ++ true :: t') (q.length + 1) t'.length
  rw [show q.length + 1 + t.length = (q ++ false :: t).length by rw [List.length_append, List.length_cons]; omega] at n1
  rw [show q.length + 1 + t'.length = (q ++ true :: t').length by rw [List.length_append, List.length_cons]; omega] at n2
  have e1 : iv w (q ++ false :: t) (q.length + 1) = ((iv w (q ++ false :: t) q.length).1 * (1 + cnt w (q ++ false :: t) false q.length (ctx w (q ++ false :: t) q.length) + (1 + cnt w (q ++ false :: t) true q.length (ctx w (q ++ false :: t) q.length))), (iv w (q ++ false :: t) q.length).2.1 * (1 + cnt w (q ++ false :: t) false q.length (ctx w (q ++ false :: t) q.length)), (iv w (q ++ false :: t) q.length).2.2 * (1 + cnt w (q ++ false :: t) false q.length (ctx w (q ++ false :: t) q.length) + (1 + cnt w (q ++ false :: t) true q.length (ctx w (q ++ false :: t) q.length)))) := by
    rw [iv, if_neg (by rw [getD_len]; decide)]
  have e2 : iv w (q ++ true :: t') (q.length + 1) = ((iv w (q ++ false :: t) q.length).1 * (1 + cnt w (q ++ false :: t) false q.length (ctx w (q ++ false :: t) q.length) + (1 + cnt w (q ++ false :: t) true q.length (ctx w (q ++ false :: t) q.length))) + (iv w (q ++ false :: t) q.length).2.1 * (1 + cnt w (q ++ false :: t) false q.length (ctx w (q ++ false :: t) q.length)), (iv w (q ++ false :: t) q.length).2.1 * (1 + cnt w (q ++ false :: t) true q.length (ctx w (q ++ false :: t) q.length)), (iv w (q ++ false :: t) q.length).2.2 * (1 + cnt w (q ++ false :: t) false q.length (ctx w (q ++ false :: t) q.length) + (1 + cnt w (q ++ false :: t) true q.length (ctx w (q ++ false :: t) q.length)))) := by
    rw [iv, if_pos getD_len, iv_same hw _ same, cnt_same hw _ _ same, cnt_same hw _ _ same, ctx_same hw same]
  have pos : 0 < (iv w (q ++ false :: t) (q.length + 1)).2.2 := (sz_pos' _).2
  have a1 := n1.2
  have a2 := n2.1
  rw [e1] at a1
  rw [e2] at a2
  rw [e1] at pos
  exact cross a1 a2 pos
/-- the cells lie apart, in order -/
theorem cells {w : Nat} {one two q : List Bool} (hw : 0 < w) (d : Diff one two q) : (av w one + 1) * 2 ^ kl w two ≤ av w two * 2 ^ kl w one := by
  have h1 : (av w one + 1) * wh w one ≤ (lo w one + sz w one) * 2 ^ kl w one := of_decide_eq_true (Cd.klen_spec (sz_pos w one) (wh_pos w one)).1
  have h2 : lo w two * 2 ^ kl w two ≤ av w two * wh w two := Cd.ceil_ge (wh_pos w two)
  exact cross (cross h1 (apart hw d) (wh_pos w one)) h2 (wh_pos w two)
theorem val_cons (b : Bool) (t : List Bool) : val (b :: t) = dv b * 2 ^ t.length + val t := by
  suffices h : ∀ (t : List Bool) (a : Nat), t.foldl (fun a b => a * 2 + dv b) a = a * 2 ^ t.length + val t by
    show t.foldl (fun a b => a * 2 + dv b) (0 * 2 + dv b) = _
    rw [h, Nat.zero_mul, Nat.zero_add]
  intro t
  induction t with
  | nil => intro a; show a = a * 1 + 0; omega
  | cons c t ih =>
    intro a
    show t.foldl (fun a b => a * 2 + dv b) (a * 2 + dv c) = a * 2 ^ (t.length + 1) + t.foldl (fun a b => a * 2 + dv b) (0 * 2 + dv c)
    rw [ih, ih, Nat.add_mul, Nat.pow_succ, Nat.mul_comm (2 ^ t.length) 2, ← Nat.mul_assoc, Nat.zero_mul, Nat.zero_add]
    omega
/-- cells that lie apart are told apart by their digits -/
theorem differ : ∀ {p r : List Bool}, (val p + 1) * 2 ^ r.length ≤ val r * 2 ^ p.length → ∃ q, Diff p r q
  | [], r, h => by
    exfalso
    have := val_lt r
    have e : val r * 2 ^ ([] : List Bool).length = val r := Nat.mul_one _
    have e2 : (val [] + 1) * 2 ^ r.length = 2 ^ r.length := Nat.one_mul _
    omega
  | a :: p, [], h => by
    exfalso
    have e : val ([] : List Bool) * 2 ^ (a :: p).length = 0 := Nat.zero_mul _
    have e2 : (val (a :: p) + 1) * 2 ^ ([] : List Bool).length = val (a :: p) + 1 := Nat.mul_one _
    omega
  | a :: p, b :: r, h => by
    rw [val_cons, val_cons, List.length_cons, List.length_cons, Nat.pow_succ, Nat.pow_succ, ← Nat.mul_assoc, ← Nat.mul_assoc] at h
    have h := Nat.le_of_mul_le_mul_right h (by decide)
    have l1 := val_lt p
    have l2 := val_lt r
    have same : (val p + 1) * 2 ^ r.length ≤ val r * 2 ^ p.length → a = b → ∃ q, Diff (a :: p) (b :: r) q := fun g e => by
      subst e
      obtain ⟨q, t, t', h1, h2⟩ := differ g
      exact ⟨a :: q, t, t', by rw [h1]; rfl, by rw [h2]; rfl⟩
    cases a <;> cases b
    · refine same ?_ rfl
      rw [show dv false = 0 from rfl, Nat.zero_mul, Nat.zero_add, Nat.zero_mul, Nat.zero_add] at h
      exact h
    · exact ⟨[], p, r, rfl, rfl⟩
    · exfalso
      rw [show dv false = 0 from rfl, show dv true = 1 from rfl, Nat.zero_mul, Nat.zero_add, Nat.one_mul] at h
      have a1 : (2 ^ p.length + val p + 1) * 2 ^ r.length ≥ 2 ^ p.length * 2 ^ r.length := Nat.mul_le_mul_right _ (by omega)
      have a2 : val r * 2 ^ p.length < 2 ^ r.length * 2 ^ p.length := Nat.mul_lt_mul_of_pos_right l2 (Nat.two_pow_pos _)
      rw [Nat.mul_comm (2 ^ r.length)] at a2
      omega
    · refine same ?_ rfl
      rw [show dv true = 1 from rfl, Nat.one_mul, Nat.one_mul, Nat.add_assoc, Nat.add_mul (2 ^ p.length), Nat.add_mul (2 ^ r.length), Nat.mul_comm (2 ^ r.length)] at h
      exact Nat.le_of_add_le_add_left h
theorem codes_differ {w : Nat} {one two q : List Bool} (hw : 0 < w) (d : Diff one two q) : ∃ q', Diff (code w one) (code w two) q' :=
  differ (by rw [code_val, code_val, code_len, code_len]; exact cells hw d)
/-- texts in order -/
theorem lt_text : ∀ (q : List Bool) (t t' : List Bool), (Bs.S (q ++ false :: t)).cps.toList < (Bs.S (q ++ true :: t')).cps.toList
  | [], t, t' => List.Lex.rel (by decide)
  | b :: q, t, t' => List.Lex.cons (lt_text q t t')
theorem not_lt_text : ∀ (q : List Bool) (t t' : List Bool), ¬ (Bs.S (q ++ true :: t)).cps.toList < (Bs.S (q ++ false :: t')).cps.toList
  | [], t, t' => fun h => by
    cases h with
    | rel h => exact absurd h (by decide)
  | b :: q, t, t' => fun h => by
    cases h with
    | rel h => exact absurd h (Nat.lt_irrefl _)
    | cons h => exact not_lt_text q t t' h
theorem diff_ne {one two q : List Bool} (d : Diff one two q) : one ≠ two := by
  obtain ⟨t, t', rfl, rfl⟩ := d
  intro h
  have := List.append_cancel_left h
  cases this
theorem flip_len {bs ds : List Bool} {k : Nat} {b : Bool} (hk : k < bs.length) (h : ds.length = bs.length) : (bs.take k ++ [b] ++ ds.drop (k + 1)).length = bs.length := by
  rw [List.length_append, List.length_append, List.length_take, List.length_drop, List.length_singleton]; omega
end Ord

namespace Mu
open PySem L2
def rMulS : R2 := fun x y H Q => ∃ (z : Str) (n : Int), x = .str z ∧ y = .int n ∧ MulOk z n ∧ Q (.str (Txt.mul z n)) H
theorem o_mulS {X : Cx} : OpR X (binaryOp .Mult) rMulS := by
  intro pins s σ H x y v u Q I rx ry h
  obtain ⟨z, n, rfl, rfl, ok, q⟩ := h
  obtain ⟨t, rfl⟩ := rx
  obtain ⟨t2, rfl⟩ := ry
  exact SB.mul ok fun t' k => ⟨.str _, H, I.tok k, ⟨t', rfl⟩, q⟩
theorem cps_fold (a : Array Nat) : ∀ (k : Nat) (acc : Array Nat), ((List.replicate k a).foldl (· ++ ·) acc).toList = acc.toList ++ (List.replicate k a.toList).flatten
  | 0, acc => by simp
  | k + 1, acc => by
    rw [List.replicate_succ, List.foldl_cons, cps_fold a k, List.replicate_succ, List.flatten_cons, Array.toList_append, List.append_assoc]
/-- a text so many times -/
theorem mul_list (z : Str) (k : Nat) : Txt.mul z (k : Int) = ⟨((List.replicate k z.cps.toList).flatten).toArray⟩ := by
  unfold Txt.mul
  by_cases h0 : k = 0
  · subst h0; rfl
  rw [if_neg (by omega)]
  by_cases h1 : (((k : Int) == 1) || z.length == 0) = true
  · rw [if_pos h1]
    rw [Bool.or_eq_true] at h1
    rcases h1 with h | h
    · have e : (k : Int) = 1 := by simpa using h
      have : k = 1 := by omega
      subst this; simp
    · have hz : z.cps = #[] := by
        have : z.cps.size = 0 := by simpa [Str.length] using h
        exact Array.eq_empty_of_size_eq_zero this
      obtain ⟨c⟩ := z
      dsimp only at hz
      subst hz
      simp
  · rw [if_neg h1, Int.toNat_natCast]
    congr 1
    apply Array.ext'
    rw [cps_fold]; simp
theorem mul_S (bs : List Bool) (k : Nat) : Txt.mul (Bs.S bs) (k : Int) = Bs.S (List.replicate k bs).flatten := by
  rw [mul_list]
  show Str.mk _ = Str.mk _
  congr 2
  show (List.replicate k (bs.map Bs.cd)).flatten = ((List.replicate k bs).flatten).map Bs.cd
  rw [List.map_flatten, List.map_replicate]
theorem mulB {bs : List Bool} {k : Nat} {H : Hp} {Q : VK} (h : bs.length ≤ 4) (hk : k ≤ 1000000) (q : Q (.str (Bs.S (List.replicate k bs).flatten)) H) : rMulS (.str (Bs.S bs)) (.int (k : Int)) H Q :=
  ⟨_, _, rfl, rfl, PyProof.Rows.mulOk_of 4 1000000 (by rw [Bs.len]; exact h) (by omega) (by omega) (by decide) (by decide), by rw [mul_S]; exact q⟩
theorem flat1 (b : Bool) (k : Nat) : (List.replicate k [b]).flatten = List.replicate k b := by simp
theorem mulQ {z : Str} {k : Nat} {H : Hp} {Q : VK} (h : z.length ≤ 4) (hk : k ≤ 1000000) (q : Q (.str (Txt.mul z (k : Int))) H) : rMulS (.str z) (.int (k : Int)) H Q :=
  ⟨_, _, rfl, rfl, PyProof.Rows.mulOk_of 4 1000000 h (by omega) (by omega) (by decide) (by decide), q⟩
theorem len_mul (z : Str) (k : Nat) : (Txt.mul z (k : Int)).length = k * z.length := by
  rw [mul_list]; simp [Str.length]
end Mu

namespace Kn
open PySem L2 Iv Cd Ord I2 Fb Cx_
/-! what a prefix of a code tells -/
theorem val_app2 (c r : List Bool) : val (c ++ r) = val c * 2 ^ r.length + val r := by
  induction c with
  | nil => show val r = 0 * _ + _; rw [Nat.zero_mul, Nat.zero_add]
  | cons b c ih =>
    rw [List.cons_append, val_cons, ih, val_cons, List.length_append, Nat.pow_add, Nat.add_mul, Nat.mul_assoc, Nat.add_assoc]
theorem val_inj {a b : List Bool} (hl : a.length = b.length) (h : val a = val b) : a = b := by
  have e1 := bin_val a
  have e2 := bin_val b
  rw [hl, h, e2] at e1
  exact e1.symm
section
variable {w m : Nat} {c p bs : List Bool}
/-- the code's cell lies in that of what it starts with -/
theorem cell_in (h : c <+: code w bs) : val c * 2 ^ kl w bs ≤ av w bs * 2 ^ c.length ∧ (av w bs + 1) * 2 ^ c.length ≤ (val c + 1) * 2 ^ kl w bs := by
  obtain ⟨r, hr⟩ := h
  have hk : kl w bs = c.length + r.length := by rw [← code_len, ← hr, List.length_append]
  have hv : av w bs = val c * 2 ^ r.length + val r := by rw [← code_val, ← hr, val_app2]
  have hlt := val_lt r
  rw [hk, hv, Nat.pow_add]
  generalize val c = a
  generalize val r = b at *
  generalize 2 ^ r.length = R at *
  generalize 2 ^ c.length = C
  constructor
  · rw [Nat.add_mul, Nat.mul_comm C R, ← Nat.mul_assoc]; omega
  · rw [Nat.mul_comm C R, ← Nat.mul_assoc]
    exact Nat.mul_le_mul_right C (by rw [Nat.add_mul]; omega)
theorem of_cell (h1 : val c * 2 ^ kl w bs ≤ av w bs * 2 ^ c.length) (h2 : (av w bs + 1) * 2 ^ c.length ≤ (val c + 1) * 2 ^ kl w bs) : c <+: code w bs := by
  have hk : c.length ≤ kl w bs := by
    have : 2 ^ c.length ≤ 2 ^ kl w bs := by
      rw [Nat.add_mul, Nat.add_mul, Nat.one_mul, Nat.one_mul] at h2; omega
    exact (Nat.pow_le_pow_iff_right (by decide)).mp this
  obtain ⟨d, hd⟩ : ∃ d, kl w bs = c.length + d := ⟨kl w bs - c.length, by omega⟩
  have hl : (code w bs).length = c.length + d := by rw [code_len, hd]
  have hs : code w bs = (code w bs).take c.length ++ (code w bs).drop c.length := (List.take_append_drop _ _).symm
  have hv : av w bs = val ((code w bs).take c.length) * 2 ^ d + val ((code w bs).drop c.length) := by
    have : val (code w bs) = val ((code w bs).take c.length ++ (code w bs).drop c.length) := by rw [← hs]
    rw [← code_val, this, val_app2, List.length_drop, hl, Nat.add_sub_cancel_left]
  have hlt : val ((code w bs).drop c.length) < 2 ^ d := by
    have := val_lt ((code w bs).drop c.length)
    rwa [List.length_drop, hl, Nat.add_sub_cancel_left] at this
  have hlc := val_lt c
  have e : (code w bs).take c.length = c := by
    refine val_inj (by rw [List.length_take, hl]; omega) ?_
    rw [hd, Nat.pow_add, hv] at h1
    rw [hd, Nat.pow_add, hv] at h2
    generalize val ((code w bs).take c.length) = t at *
    generalize val ((code w bs).drop c.length) = r at *
    generalize val c = a at *
    have pc : 0 < 2 ^ c.length := Nat.two_pow_pos _
    generalize 2 ^ c.length = C at *
    generalize 2 ^ d = R at *
    have g1 : a * R ≤ t * R + r := Nat.le_of_mul_le_mul_right (c := C) (by rw [Nat.mul_assoc a R C, Nat.mul_comm R C]; exact h1) pc
    have g2 : t * R + r + 1 ≤ (a + 1) * R := Nat.le_of_mul_le_mul_right (c := C) (by rw [Nat.mul_assoc (a + 1) R C, Nat.mul_comm R C]; exact h2) pc
    rcases Nat.lt_trichotomy t a with q | q | q
    · have := Nat.mul_le_mul_right R (show t + 1 ≤ a from q)
      rw [Nat.add_mul] at this; omega
    · exact q
    · have := Nat.mul_le_mul_right R (show a + 1 ≤ t from q)
      omega
  exact List.prefix_iff_eq_take.mpr e.symm
theorem in_low (w : Nat) (bs : List Bool) : lo w bs * 2 ^ kl w bs ≤ av w bs * wh w bs := ceil_ge (wh_pos w bs)
theorem in_top (w : Nat) (bs : List Bool) : (av w bs + 1) * wh w bs ≤ (lo w bs + sz w bs) * 2 ^ kl w bs := of_decide_eq_true (klen_spec (sz_pos w bs) (wh_pos w bs)).1
/-- bits whose interval lies in the cell are possible -/
theorem inside (h1 : val c * wh w bs ≤ lo w bs * 2 ^ c.length) (h2 : (lo w bs + sz w bs) * 2 ^ c.length ≤ (val c + 1) * wh w bs) : c <+: code w bs :=
  of_cell (cross h1 (in_low w bs) (wh_pos w bs)) (cross (in_top w bs) h2 (wh_pos w bs))
theorem meets_low (h : c <+: code w bs) : lo w bs * 2 ^ c.length < (val c + 1) * wh w bs := by
  have h2 := cross (a := av w bs + 1) (x := 2 ^ kl w bs) (b := val c + 1) (y := 2 ^ c.length) (c := lo w bs) (z := wh w bs) (cell_in h).2
  rcases Nat.lt_or_ge (lo w bs * 2 ^ c.length) ((val c + 1) * wh w bs) with q | q
  · exact q
  · have g := h2 q (Nat.two_pow_pos _)
    have l := in_low w bs
    have := wh_pos w bs
    rw [Nat.add_mul] at g; omega
theorem meets_top (h : c <+: code w bs) : val c * wh w bs < (lo w bs + sz w bs) * 2 ^ c.length := by
  rcases Nat.lt_or_ge (val c * wh w bs) ((lo w bs + sz w bs) * 2 ^ c.length) with q | q
  · exact q
  · have g := cross q (cell_in h).1 (Nat.two_pow_pos _)
    have l := in_top w bs
    have := wh_pos w bs
    rw [Nat.add_mul] at l; omega
end
/-! the border -/
def tp (w : Nat) (p : List Bool) : Nat := lo w p * both w p + sz w p * zs w p (nx w p)
def bt (w : Nat) (p : List Bool) : Nat := wh w p * both w p
theorem bt_pos (w : Nat) (p : List Bool) : 0 < bt w p := Nat.mul_pos (wh_pos w p) (by unfold both; have := zs_le w p (nx w p); omega)
theorem nest_app {w : Nat} (hw : 0 < w) (p t : List Bool) : Nest (lo w p, sz w p, wh w p) (lo w (p ++ t), sz w (p ++ t), wh w (p ++ t)) := by
  have n := nest w (p ++ t) p.length t.length
  have e : iv w (p ++ t) p.length = iv w p p.length := iv_same hw _ fun i hi => getD_app hi
  rw [e, ← List.length_append] at n
  exact n
theorem up_ge {w : Nat} (hw : 0 < w) (p t : List Bool) : tp w p * wh w (p ++ true :: t) ≤ lo w (p ++ true :: t) * bt w p := by
  have n := (nest_app hw (p ++ [true]) t).1
  rw [List.append_assoc] at n
  simp only [] at n
  rw [lo_app hw, wh_app hw, if_pos rfl] at n
  exact n
theorem dn_le {w : Nat} (hw : 0 < w) (p t : List Bool) : (lo w (p ++ false :: t) + sz w (p ++ false :: t)) * bt w p ≤ tp w p * wh w (p ++ false :: t) := by
  have n := (nest_app hw (p ++ [false]) t).2
  rw [List.append_assoc] at n
  simp only [] at n
  rw [lo_app hw, wh_app hw, sz_app hw, if_neg (by decide), if_neg (by decide), Nat.add_zero] at n
  exact n
def lower (m : Nat) (p : List Bool) : List Bool := p ++ false :: List.replicate (m - p.length - 1) true
def upper (m : Nat) (p : List Bool) : List Bool := p ++ true :: List.replicate (m - p.length - 1) false
theorem lower_len {m : Nat} {p : List Bool} (h : p.length < m) : (lower m p).length = m := by
  unfold lower; rw [List.length_append, List.length_cons, List.length_replicate]; omega
theorem upper_len {m : Nat} {p : List Bool} (h : p.length < m) : (upper m p).length = m := by
  unfold upper; rw [List.length_append, List.length_cons, List.length_replicate]; omega
theorem below_ones : ∀ (t : List Bool), t ≠ List.replicate t.length true → ∃ q, Diff t (List.replicate t.length true) q
  | [], h => absurd rfl h
  | false :: t, _ => ⟨[], t, List.replicate t.length true, rfl, rfl⟩
  | true :: t, h => by
    obtain ⟨q, u, u', e1, e2⟩ := below_ones t (fun z => h (by rw [List.length_cons, List.replicate_succ, ← z]))
    exact ⟨true :: q, u, u', by rw [e1]; rfl, by rw [List.length_cons, List.replicate_succ, e2]; rfl⟩
theorem above_zeros : ∀ (t : List Bool), t ≠ List.replicate t.length false → ∃ q, Diff (List.replicate t.length false) t q
  | [], h => absurd rfl h
  | true :: t, _ => ⟨[], List.replicate t.length false, t, rfl, rfl⟩
  | false :: t, h => by
    obtain ⟨q, u, u', e1, e2⟩ := above_zeros t (fun z => h (by rw [List.length_cons, List.replicate_succ, ← z]))
    exact ⟨false :: q, u, u', by rw [List.length_cons, List.replicate_succ, e1]; rfl, by rw [e2]; rfl⟩
theorem diff_app {a b q : List Bool} (r : List Bool) (d : Diff a b q) : Diff (r ++ a) (r ++ b) (r ++ q) := by
  obtain ⟨t, t', rfl, rfl⟩ := d
  exact ⟨t, t', by rw [List.append_assoc], by rw [List.append_assoc]⟩
section
variable {w m : Nat} {c p : List Bool} (hw : 0 < w)
include hw
theorem no_one (h : (val c + 1) * bt w p ≤ tp w p * 2 ^ c.length) (t : List Bool) : ¬ c <+: code w (p ++ true :: t) := fun z => by
  have g := cross h (up_ge hw p t) (bt_pos w p)
  exact absurd (meets_low z) (by omega)
theorem no_zero (h : tp w p * 2 ^ c.length ≤ val c * bt w p) (t : List Bool) : ¬ c <+: code w (p ++ false :: t) := fun z => by
  have g := cross (dn_le hw p t) h (bt_pos w p)
  exact absurd (meets_top z) (by omega)
theorem to_lower (h : ¬ (val c + 1) * bt w p ≤ tp w p * 2 ^ c.length) {t : List Bool} (hl : (p ++ false :: t).length = m) (z : c <+: code w (p ++ false :: t)) : c <+: code w (lower m p) := by
  have hm : m - p.length - 1 = t.length := by rw [← hl, List.length_append, List.length_cons]; omega
  unfold lower
  rw [hm]
  by_cases e : t = List.replicate t.length true
  · rw [← e]; exact z
  · obtain ⟨q, d⟩ := below_ones t e
    have d2 := diff_app (p ++ [false]) d
    rw [List.append_assoc, List.append_assoc, List.singleton_append, List.singleton_append] at d2
    have ap := apart hw d2
    refine inside ?_ ?_
    · exact cross (Nat.le_of_lt (meets_top z)) ap (wh_pos w _)
    · exact cross (dn_le hw p _) (Nat.le_of_lt (by omega)) (bt_pos w p)
theorem to_upper (h : ¬ tp w p * 2 ^ c.length ≤ val c * bt w p) {t : List Bool} (hl : (p ++ true :: t).length = m) (z : c <+: code w (p ++ true :: t)) : c <+: code w (upper m p) := by
  have hm : m - p.length - 1 = t.length := by rw [← hl, List.length_append, List.length_cons]; omega
  unfold upper
  rw [hm]
  by_cases e : t = List.replicate t.length false
  · rw [← e]; exact z
  · obtain ⟨q, d⟩ := above_zeros t e
    have d2 := diff_app (p ++ [true]) d
    rw [List.append_assoc, List.append_assoc, List.singleton_append, List.singleton_append] at d2
    have ap := apart hw d2
    refine inside ?_ ?_
    · exact cross (Nat.le_of_lt (by omega)) (up_ge hw p _) (bt_pos w p)
    · exact cross ap (Nat.le_of_lt (meets_low z)) (wh_pos w _)
end
/-- all possible bits go on from p -/
def From (w m : Nat) (c p : List Bool) : Prop := ∀ bs, bs.length = m → c <+: code w bs → p <+: bs
/-- the known prefix, or none -/
def Known (w m : Nat) (c : List Bool) : Option (List Bool) → Prop
  | none => ∀ bs, bs.length = m → ¬ c <+: code w bs
  | some p => p.length ≤ m ∧ From w m c p ∧ (p.length = m → c <+: code w p) ∧ (p.length < m → c <+: code w (lower m p) ∧ c <+: code w (upper m p))
theorem next_or {p bs : List Bool} (h : p <+: bs) (hl : p.length < bs.length) : (∃ t, bs = p ++ false :: t) ∨ ∃ t, bs = p ++ true :: t := by
  obtain ⟨r, rfl⟩ := h
  cases r with
  | nil => rw [List.append_nil] at hl; omega
  | cons b t =>
    cases b with
    | false => exact .inl ⟨t, rfl⟩
    | true => exact .inr ⟨t, rfl⟩
theorem pre_zero (p t : List Bool) : (p ++ [false]) <+: (p ++ false :: t) := ⟨t, by rw [List.append_assoc]; rfl⟩
theorem pre_one (p t : List Bool) : (p ++ [true]) <+: (p ++ true :: t) := ⟨t, by rw [List.append_assoc]; rfl⟩
/-- a known prefix comes of possible bits -/
theorem exists_of {w m : Nat} {c p : List Bool} (k : Known w m c (some p)) : ∃ bs, bs.length = m ∧ c <+: code w bs ∧ p <+: bs := by
  obtain ⟨h1, h2, h3, h4⟩ := k
  by_cases e : p.length = m
  · exact ⟨p, e, h3 e, List.prefix_rfl⟩
  · exact ⟨_, lower_len (by omega), (h4 (by omega)).1, ⟨_, rfl⟩⟩
theorem len_le {w m : Nat} {c p p' : List Bool} (k : Known w m c (some p)) (k' : Known w m c (some p')) : p.length ≤ p'.length := by
  obtain ⟨h1, h2, h3, h4⟩ := k
  obtain ⟨g1, g2, g3, g4⟩ := k'
  rcases Nat.lt_or_ge p'.length p.length with q | q
  · exfalso
    obtain ⟨a, b⟩ := g4 (by omega)
    have e1 := h2 _ (lower_len (by omega)) a
    have e2 := h2 _ (upper_len (by omega)) b
    obtain ⟨t1, e1⟩ := e1
    obtain ⟨t2, e2⟩ := e2
    have x1 : p.getD p'.length false = false := by
      rw [← getD_app (cs := t1) q, e1]; exact getD_len
    have x2 : p.getD p'.length false = true := by
      rw [← getD_app (cs := t2) q, e2]; exact getD_len
    rw [x1] at x2; cases x2
  · exact q
theorem unique {w m : Nat} {c : List Bool} {r r' : Option (List Bool)} (k : Known w m c r) (k' : Known w m c r') : r = r' := by
  cases r with
  | none =>
    cases r' with
    | none => rfl
    | some p' =>
      obtain ⟨bs, hl, hc, _⟩ := exists_of k'
      exact absurd hc (k bs hl)
  | some p =>
    obtain ⟨bs, hl, hc, hp⟩ := exists_of k
    cases r' with
    | none => exact absurd hc (k' bs hl)
    | some p' =>
      have l1 := len_le k k'
      have l2 := len_le k' k
      have hp' := k'.2.1 bs hl hc
      have := (List.prefix_of_prefix_length_le hp hp' l1).eq_of_length (by omega)
      rw [this]
theorem bin_of {m : Nat} {bs : List Bool} (hl : bs.length = m) : bin m (val bs) = bs ∧ val bs < 2 ^ m := by
  subst hl; exact ⟨bin_val bs, val_lt bs⟩
/-- the possible rows of all rows -/
def rowsOf (w m : Nat) (c : List Bool) : List (List Bool) := ((List.range (2 ^ m)).filter fun v => decide (c <+: code w (bin m v))).map fun v => bin m v
theorem mem_rows {w m : Nat} {c bs : List Bool} : bs ∈ rowsOf w m c ↔ bs.length = m ∧ c <+: code w bs := by
  unfold rowsOf
  rw [List.mem_map]
  constructor
  · rintro ⟨v, hv, rfl⟩
    rw [List.mem_filter] at hv
    exact ⟨bin_len _ _, of_decide_eq_true hv.2⟩
  · rintro ⟨hl, hc⟩
    obtain ⟨e, h⟩ := bin_of hl
    refine ⟨val bs, ?_, e⟩
    rw [List.mem_filter, List.mem_range, e]
    exact ⟨h, decide_eq_true hc⟩
theorem rows_none {w m : Nat} {c : List Bool} (k : Known w m c none) : rowsOf w m c = [] := by
  rcases List.eq_nil_or_concat (rowsOf w m c) with e | ⟨l, b, e⟩
  · exact e
  · have hb : b ∈ rowsOf w m c := by rw [e]; simp
    obtain ⟨hl, hc⟩ := mem_rows.mp hb
    exact absurd hc (k b hl)
theorem rows_some {w m : Nat} {c p : List Bool} (k : Known w m c (some p)) : rowsOf w m c ≠ [] := by
  obtain ⟨bs, hl, hc, _⟩ := exists_of k
  exact List.ne_nil_of_mem (mem_rows.mpr ⟨hl, hc⟩)
theorem rows_common {w m : Nat} {c p : List Bool} (k : Known w m c (some p)) : (∀ x ∈ rowsOf w m c, x.length = m ∧ p <+: x) ∧ (p.length = m ∨ (p.length < m ∧ ∃ x ∈ rowsOf w m c, ∃ y ∈ rowsOf w m c, x.getD p.length false ≠ y.getD p.length false)) := by
  obtain ⟨h1, h2, h3, h4⟩ := k
  refine ⟨fun x hx => ?_, ?_⟩
  · obtain ⟨hl, hc⟩ := mem_rows.mp hx
    exact ⟨hl, h2 x hl hc⟩
  · by_cases e : p.length = m
    · exact .inl e
    · have hlt : p.length < m := by omega
      obtain ⟨a, b⟩ := h4 hlt
      refine .inr ⟨hlt, _, mem_rows.mpr ⟨lower_len hlt, a⟩, _, mem_rows.mpr ⟨upper_len hlt, b⟩, ?_⟩
      unfold lower upper
      rw [getD_len, getD_len]; decide
theorem rows_len (w m : Nat) (c : List Bool) : (rowsOf w m c).length ≤ 2 ^ m := by
  unfold rowsOf
  rw [List.length_map]
  exact Nat.le_trans (List.length_filter_le _ _) (by rw [List.length_range]; exact Nat.le_refl _)
/-- the sample for a place and a bit -/
def sampleOf (m : Nat) (p : List Bool) (j : Nat) (b : Bool) : List Bool := if p.length = m then p else if (lower m p).getD j false = b then lower m p else upper m p
def smV (m j : Nat) (b : Bool) : Option (List Bool) → V
  | none => V.non
  | some p => V.str (Bs.S (sampleOf m p j b))
theorem sample_len {m : Nat} {p : List Bool} (h : p.length ≤ m) (j : Nat) (b : Bool) : (sampleOf m p j b).length = m := by
  unfold sampleOf
  by_cases e : p.length = m
  · rw [if_pos e]; exact e
  · rw [if_neg e]
    split
    · exact lower_len (by omega)
    · exact upper_len (by omega)
theorem sample_mem {w m : Nat} {c p : List Bool} (k : Known w m c (some p)) (j : Nat) (b : Bool) : sampleOf m p j b ∈ rowsOf w m c := by
  rw [mem_rows]
  refine ⟨sample_len k.1 j b, ?_⟩
  obtain ⟨h1, h2, h3, h4⟩ := k
  unfold sampleOf
  by_cases e : p.length = m
  · rw [if_pos e]; exact h3 e
  · rw [if_neg e]
    split
    · exact (h4 (by omega)).1
    · exact (h4 (by omega)).2
theorem getD_rep {b : Bool} {n i : Nat} (h : i < n) : (List.replicate n b).getD i false = b := by
  rw [List.getD_eq_getElem?_getD, List.getElem?_replicate, if_pos h]; rfl
theorem getD_tail {p t : List Bool} {b : Bool} {j : Nat} (h : p.length < j) : (p ++ b :: t).getD j false = t.getD (j - p.length - 1) false := by
  rw [List.getD_eq_getElem?_getD, List.getElem?_append_right (by omega), show j - p.length = (j - p.length - 1) + 1 by omega, List.getElem?_cons_succ, ← List.getD_eq_getElem?_getD]
  congr 1
/-- the sample has the bit unless all possible rows have the other one -/
theorem sample_bit {w m : Nat} {c p : List Bool} (k : Known w m c (some p)) {j : Nat} (hj : j < m) {b : Bool} (hb : (sampleOf m p j b).getD j false ≠ b) : ∀ x ∈ rowsOf w m c, x.getD j false ≠ b := by
  intro x hx
  obtain ⟨hl, hc⟩ := mem_rows.mp hx
  have hp := k.2.1 x hl hc
  obtain ⟨t, rfl⟩ := hp
  unfold sampleOf at hb
  by_cases e : p.length = m
  · rw [if_pos e] at hb
    rw [getD_app (by omega)]; exact hb
  · rw [if_neg e] at hb
    have hlt : p.length < m := by have := k.1; omega
    by_cases e2 : (lower m p).getD j false = b
    · rw [if_pos e2] at hb; exact absurd e2 hb
    · rw [if_neg e2] at hb
      rcases Nat.lt_trichotomy j p.length with z | z | z
      · rw [getD_app z]
        unfold lower at e2
        rwa [getD_app z] at e2
      · exfalso
        unfold lower at e2
        unfold upper at hb
        subst z
        rw [getD_len] at e2 hb
        cases b <;> simp at e2 hb
      · exfalso
        unfold lower at e2
        unfold upper at hb
        rw [getD_tail z, getD_rep (by omega)] at e2 hb
        cases b <;> simp at e2 hb
theorem rows_nodup (w m : Nat) (c : List Bool) : (rowsOf w m c).Nodup := by
  unfold rowsOf
  have nd : ((List.range (2 ^ m)).filter fun v => decide (c <+: code w (bin m v))).Pairwise (· ≠ ·) := List.Pairwise.filter _ List.nodup_range
  show List.Pairwise (· ≠ ·) _
  rw [List.pairwise_map]
  refine List.Pairwise.imp_of_mem (fun {x y} hx hy hne e => hne ?_) nd
  rw [List.mem_filter, List.mem_range] at hx hy
  exact bin_eq hx.1 hy.1 e
theorem rows_one {w m : Nat} {c p : List Bool} (k : Known w m c (some p)) : (rowsOf w m c).length = 1 ↔ p.length = m := by
  constructor
  · intro h
    by_cases e : p.length = m
    · exact e
    · exfalso
      have hlt : p.length < m := by have := k.1; omega
      obtain ⟨a, b⟩ := k.2.2.2 hlt
      obtain ⟨x, hx⟩ := List.length_eq_one_iff.mp h
      have m1 := mem_rows.mpr ⟨lower_len hlt, a⟩
      have m2 := mem_rows.mpr ⟨upper_len hlt, b⟩
      rw [hx, List.mem_singleton] at m1 m2
      have := m1.trans m2.symm
      have := List.append_cancel_left this
      cases this
  · intro e
    have all : ∀ x ∈ rowsOf w m c, x = p := fun x hx => by
      obtain ⟨hl, hc⟩ := mem_rows.mp hx
      exact ((k.2.1 x hl hc).eq_of_length (by omega)).symm
    have hne := rows_some k
    have nd := rows_nodup w m c
    cases hr : rowsOf w m c with
    | nil => exact absurd hr hne
    | cons x r =>
      cases r with
      | nil => rfl
      | cons y r =>
        rw [hr] at nd all
        have e1 := all x (by simp)
        have e2 := all y (by simp)
        rw [e1, e2] at nd
        simp at nd
theorem sw (a b : List Bool) : PySem.Txt.startswith (Bs.S a) (Bs.S b) = decide (b <+: a) := by
  unfold PySem.Txt.startswith
  rw [PySem.StrLaws.subAt_eq, Bs.len, Bs.len, List.drop_zero, Nat.zero_add]
  show (decide (b.length ≤ a.length) && ((a.map Bs.cd).take b.length == b.map Bs.cd)) = _
  rw [← List.map_take, Bool.eq_iff_iff, Bool.and_eq_true, decide_eq_true_iff, decide_eq_true_iff, beq_iff_eq]
  constructor
  · rintro ⟨_, h⟩
    exact List.prefix_iff_eq_take.mpr (List.map_inj_right (f := Bs.cd) (fun _ _ => Bs.cd_inj) |>.mp h).symm
  · intro h
    exact ⟨h.length_le, by rw [← List.prefix_iff_eq_take.mp h]⟩
end Kn

namespace Gy
open PySem L2
/-- the gray bit of v in plane p -/
def gb (v p : Nat) : Nat := (v / 2 ^ p + v / 2 ^ (p + 1)) % 2
theorem gb_int (v p : Nat) : Builtin.bitAnd (Builtin.bitXor ((v : Int) / 2 ^ (p : Int).toNat) ((v : Int) / 2 ^ ((p : Int) + 1).toNat)) 1 = ((gb v p : Nat) : Int) := by
  have e1 : (p : Int).toNat = p := rfl
  have e2 : ((p : Int) + 1).toNat = p + 1 := by omega
  have c (k : Nat) : (v : Int) / 2 ^ k = ((v / 2 ^ k : Nat) : Int) := by
    rw [Int.natCast_ediv, Int.natCast_pow]; rfl
  rw [e1, e2, c, c, Bits.bitXor_pp (Int.natCast_nonneg _) (Int.natCast_nonneg _), Int.toNat_natCast, Int.toNat_natCast]
  have h := Bits.bitAnd_mask (x := ((v / 2 ^ p ^^^ v / 2 ^ (p + 1) : Nat) : Int)) 1 (Int.natCast_nonneg _)
  rw [show (2 : Int) ^ 1 - 1 = 1 by decide] at h
  rw [h]
  have x := @Nat.xor_mod_two_eq_one (v / 2 ^ p) (v / 2 ^ (p + 1))
  unfold gb
  omega
theorem gb_le (v p : Nat) : gb v p ≤ 1 := by unfold gb; omega
/-- the value of gray bits from the highest plane on -/
def vstep (v g : Nat) : Nat := v * 2 + (g ^^^ v % 2)
def val (gs : List Nat) : Nat := gs.foldl vstep 0
theorem vstep_int (v g : Nat) : (v : Int) * 2 + Builtin.bitXor (g : Int) (Builtin.bitAnd (v : Int) 1) = ((vstep v g : Nat) : Int) := by
  have h := Bits.bitAnd_mask (x := (v : Int)) 1 (Int.natCast_nonneg _)
  rw [show (2 : Int) ^ 1 - 1 = 1 by decide, show (2 : Int) ^ 1 = ((2 : Nat) : Int) by decide, ← Int.natCast_emod] at h
  rw [h, Bits.bitXor_pp (Int.natCast_nonneg _) (Int.natCast_nonneg _), Int.toNat_natCast, Int.toNat_natCast]
  unfold vstep
  omega
theorem val_take {gs : List Nat} {i g : Nat} (h : gs[i]? = some g) : ((val (gs.take (i + 1)) : Nat) : Int) = (val (gs.take i) : Int) * 2 + Builtin.bitXor (g : Int) (Builtin.bitAnd (val (gs.take i) : Int) 1) := by
  rw [vstep_int]
  unfold val
  rw [List.take_add_one, h, List.foldl_append]
  rfl

/-- the gray bits of the planes below n, the highest first -/
def grays (v n : Nat) : List Nat := (List.range n).map fun i => gb v (n - 1 - i)
theorem pw (p : Nat) : (1 : Int) * 2 ^ ((p : Nat) : Int).toNat = ((2 ^ p : Nat) : Int) := by
  rw [Int.toNat_natCast, Int.one_mul, Int.natCast_pow]; rfl
theorem pw1 (p : Nat) : (1 : Int) * 2 ^ ((p : Int) + 1).toNat = ((2 ^ (p + 1) : Nat) : Int) := by
  rw [show ((p : Int) + 1).toNat = p + 1 by omega, Int.one_mul, Int.natCast_pow]; rfl
theorem dw {v : Int} {p : Nat} (h : p ≤ 8000) : CDivW v ((2 ^ p : Nat) : Int) := by
  refine wide_div (b := p + 1) ?_ ?_ (Nat.succ_pos _) (by omega)
  · exact Int.natCast_pos.mpr (Nat.two_pow_pos p)
  · rw [Int.natAbs_natCast]; exact Nat.pow_lt_pow_right (by decide) (Nat.lt_succ_self p)
theorem ne_gb (v p : Nat) : (if (!decide ((v : Int) / ((2 ^ p : Nat) : Int) % 2 = (v : Int) / ((2 ^ (p + 1) : Nat) : Int) % 2)) = true then (1 : Int) else 0) = ((gb v p : Nat) : Int) := by
  rw [← Int.natCast_ediv, ← Int.natCast_ediv]
  unfold gb
  generalize v / 2 ^ p = a
  generalize v / 2 ^ (p + 1) = b
  by_cases h : (a : Int) % 2 = (b : Int) % 2
  · rw [decide_eq_true h]
    simp only [Bool.not_true, Bool.false_eq_true, if_false]
    omega
  · rw [decide_eq_false h]
    simp only [Bool.not_false, if_true]
    omega
theorem grays_succ (v n : Nat) : grays v (n + 1) = gb v n :: grays v n := by
  unfold grays
  rw [List.range_succ_eq_map, List.map_cons, List.map_map]
  refine congr (congrArg List.cons (by simp)) ?_
  refine List.map_congr_left fun i hi => ?_
  show gb v (n + 1 - 1 - (i + 1)) = gb v (n - 1 - i)
  congr 1; omega
theorem xor_bit (a b : Nat) (hb : b ≤ 1) : (b ^^^ a % 2) % 2 = (b + a) % 2 ∧ b ^^^ a % 2 ≤ 1 := by
  have h : a % 2 = 0 ∨ a % 2 = 1 := by omega
  have h2 : b = 0 ∨ b = 1 := by omega
  rcases h with h | h <;> rcases h2 with h2 | h2 <;> subst h2 <;> rw [h] <;> simp <;> omega
theorem half (v n : Nat) : v / 2 ^ (n + 1) = v / 2 ^ n / 2 := by rw [Nat.pow_succ, Nat.div_div_eq_div_mul]
theorem vstep_gb (v n : Nat) : vstep (v / 2 ^ (n + 1)) (gb v n) = v / 2 ^ n := by
  unfold vstep gb
  rw [half]
  generalize v / 2 ^ n = a
  have h := xor_bit (a / 2) ((a + a / 2) % 2) (by omega)
  omega
theorem fold_grays (v : Nat) : ∀ n, (grays v n).foldl vstep (v / 2 ^ n) = v
  | 0 => by simp [grays]
  | n + 1 => by rw [grays_succ, List.foldl_cons, vstep_gb, fold_grays v n]
theorem val_grays {v n : Nat} (h : v < 2 ^ n) : val (grays v n) = v := by
  have e := fold_grays v n
  rw [Nat.div_eq_of_lt h] at e
  exact e
theorem fold_bits : ∀ (bs : List Nat) (u : Nat), (∀ b ∈ bs, b ≤ 1) → (bs.foldl vstep u) / 2 ^ bs.length = u ∧ grays (bs.foldl vstep u) bs.length = bs
  | [], u, _ => by simp [grays]
  | b :: bs, u, h => by
    obtain ⟨h1, h2⟩ := fold_bits bs (vstep u b) fun x hx => h x (List.mem_cons_of_mem _ hx)
    have hb := h b (List.mem_cons_self ..)
    rw [List.foldl_cons, List.length_cons]
    generalize hr : bs.foldl vstep (vstep u b) = r at *
    have x := xor_bit u b hb
    have e1 : r / 2 ^ (bs.length + 1) = u := by
      rw [half, h1]; unfold vstep; omega
    refine ⟨e1, ?_⟩
    rw [grays_succ, h2]
    congr 1
    unfold gb
    rw [e1, h1]; unfold vstep; omega
theorem grays_val {bs : List Nat} (h : ∀ b ∈ bs, b ≤ 1) : val bs < 2 ^ bs.length ∧ grays (val bs) bs.length = bs := by
  obtain ⟨h1, h2⟩ := fold_bits bs 0 h
  refine ⟨?_, h2⟩
  have h3 := (Nat.div_eq_zero_iff.mp h1)
  rcases h3 with h3 | h3
  · have := Nat.two_pow_pos bs.length; omega
  · exact h3
theorem nats_of {xs : List Int} (h : ∀ x ∈ xs, 0 ≤ x ∧ x < 2) : ∃ bs : List Nat, xs = bs.map (fun b : Nat => (b : Int)) ∧ ∀ b ∈ bs, b ≤ 1 := by
  refine ⟨xs.map Int.toNat, ?_, ?_⟩
  · rw [List.map_map]
    conv => lhs; rw [← List.map_id xs]
    refine List.map_congr_left fun x hx => ?_
    have := h x hx
    show x = ((x.toNat : Nat) : Int)
    omega
  · intro b hb
    obtain ⟨x, hx, rfl⟩ := List.mem_map.mp hb
    have := h x hx
    omega
theorem gb_top {v n : Nat} (h : v < 2 ^ n) : gb v n = 0 := by
  unfold gb
  rw [Nat.div_eq_of_lt h, Nat.div_eq_of_lt (Nat.lt_trans h (Nat.pow_lt_pow_right (by decide) (Nat.lt_succ_self n)))]
/-- t is the last place from which v + 1 is whole -/
def Last (v n t : Nat) : Prop := t ≤ n ∧ (v + 1) % 2 ^ t = 0
theorem div_step {v k : Nat} : (v + 1) / 2 ^ k = v / 2 ^ k + if (v + 1) % 2 ^ k = 0 then 1 else 0 := by
  have hp := Nat.two_pow_pos k
  have h1 := Nat.div_add_mod (v + 1) (2 ^ k)
  have h2 := Nat.div_add_mod v (2 ^ k)
  have l1 := Nat.mod_lt (v + 1) hp
  have l2 := Nat.mod_lt v hp
  generalize (v + 1) / 2 ^ k = x at *
  generalize v / 2 ^ k = y at *
  generalize (v + 1) % 2 ^ k = r at *
  generalize v % 2 ^ k = s at *
  generalize 2 ^ k = m at *
  have hx : x = y ∨ x = y + 1 := by
    have c1 : ¬ x < y := fun h => by
      have : m * (x + 1) ≤ m * y := Nat.mul_le_mul_left m h
      rw [Nat.mul_add] at this; omega
    have c2 : ¬ y + 1 < x := fun h => by
      have : m * (y + 1 + 1) ≤ m * x := Nat.mul_le_mul_left m h
      rw [Nat.mul_add, Nat.mul_add] at this; omega
    omega
  rcases hx with hx | hx
  · subst hx
    rw [if_neg (by omega)]; omega
  · subst hx
    rw [Nat.mul_add] at h1
    rw [if_pos (by omega)]
theorem whole_of {a k t : Nat} (h : a % 2 ^ t = 0) (hk : k ≤ t) : a % 2 ^ k = 0 :=
  Nat.mod_eq_zero_of_dvd (Nat.dvd_trans (Nat.pow_dvd_pow 2 hk) (Nat.dvd_of_mod_eq_zero h))
/-- the gray bits of v and v + 1 differ in the plane of the greatest power of 2 that divides v + 1 alone -/
theorem gb_diff {v n t : Nat} (hv : v < 2 ^ n) (h1 : t ≤ n) (h2 : (v + 1) % 2 ^ t = 0) (h3 : t < n → (v + 1) % 2 ^ (t + 1) ≠ 0) (k : Nat) : (gb v k ≠ gb (v + 1) k) ↔ k = t := by
  have h4 : (v + 1) % 2 ^ (t + 1) ≠ 0 := by
    by_cases ht : t < n
    · exact h3 ht
    · have e : t = n := by omega
      subst e
      have hp : 2 ^ (t + 1) = 2 ^ t * 2 := Nat.pow_succ ..
      rw [Nat.mod_eq_of_lt (by omega)]; omega
  unfold gb
  rw [div_step (v := v) (k := k), div_step (v := v) (k := k + 1)]
  by_cases hk : k ≤ t
  · rw [if_pos (whole_of h2 hk)]
    by_cases hk2 : k = t
    · subst hk2
      rw [if_neg h4]
      constructor <;> intro _ <;> omega
    · rw [if_pos (whole_of h2 (show k + 1 ≤ t by omega))]
      constructor <;> intro _ <;> omega
  · have z1 : ¬ (v + 1) % 2 ^ k = 0 := fun z => h4 (whole_of z (by omega))
    have z2 : ¬ (v + 1) % 2 ^ (k + 1) = 0 := fun z => h4 (whole_of z (by omega))
    rw [if_neg z1, if_neg z2]
    constructor <;> intro _ <;> omega
theorem filter_one {n t : Nat} {c : Nat → Bool} (ht : t < n) (h : ∀ k, c k = decide (k = t)) : (List.range n).filter c = [t] := by
  induction n with
  | zero => omega
  | succ n ih =>
    rw [List.range_succ, List.filter_append]
    by_cases e : t < n
    · rw [ih e, List.filter_cons, h, decide_eq_false (by omega)]; rfl
    · have e2 : t = n := by omega
      subst e2
      rw [List.filter_cons, h, decide_eq_true rfl, List.filter_eq_nil_iff.mpr (fun k hk => by rw [h, decide_eq_true_eq]; have := List.mem_range.mp hk; omega)]
      rfl
end Gy

namespace Rk
open PySem L2 Iv Cd Ord I2 Fb Cx_ Kn
/-! the possible bits are neighbours -/
theorem val_diff {a b q : List Bool} (hl : a.length = b.length) (d : Diff a b q) : val a < val b := by
  obtain ⟨t, t', rfl, rfl⟩ := d
  rw [List.length_append, List.length_append, List.length_cons, List.length_cons] at hl
  rw [val_app2, val_app2, List.length_cons, List.length_cons, show t'.length = t.length by omega, val_cons, val_cons]
  have := val_lt t
  have e0 : dv false = 0 := rfl
  have e1 : dv true = 1 := rfl
  rw [e0, e1, show t'.length = t.length by omega]
  omega
theorem diff_of {a b : List Bool} (hl : a.length = b.length) (h : val a < val b) : ∃ q, Diff a b q := by
  have hne : a ≠ b := by rintro rfl; omega
  obtain ⟨q, d | d⟩ := diff_or hl hne
  · exact ⟨q, d⟩
  · have := val_diff hl.symm d; omega
theorem ap {w : Nat} {a b : List Bool} (hw : 0 < w) (hl : a.length = b.length) (h : val a < val b) : (lo w a + sz w a) * wh w b ≤ lo w b * wh w a := by
  obtain ⟨q, d⟩ := diff_of hl h
  exact apart hw d
/-- the bits in whose interval T / 2 ^ k lies, or the last ones -/
def At (w T k : Nat) (p : List Bool) : Prop := lo w p * 2 ^ k ≤ T * wh w p ∧ (T < 2 ^ k → T * wh w p < (lo w p + sz w p) * 2 ^ k) ∧ (2 ^ k ≤ T → p = List.replicate p.length true)
theorem at_nil (w T k : Nat) : At w T k [] := by
  refine ⟨?_, fun h => ?_, fun _ => rfl⟩
  · show 0 * _ ≤ T * 1; omega
  · show T * 1 < (0 + 1) * 2 ^ k; omega
theorem at_one {w T k : Nat} {p : List Bool} (hw : 0 < w) (a : At w T k p) (h : tp w p * 2 ^ k ≤ T * Kn.bt w p) : At w T k (p ++ [true]) := by
  obtain ⟨a1, a2, a3⟩ := a
  unfold At
  rw [lo_app hw, sz_app hw, wh_app hw, if_pos rfl, if_pos rfl]
  refine ⟨h, fun g => ?_, fun g => ?_⟩
  · have b2 := a2 g
    have hb : 0 < both w p := by unfold both; have := zs_le w p (nx w p); omega
    rw [show lo w p * both w p + sz w p * zs w p (nx w p) + sz w p * os w p (nx w p) = (lo w p + sz w p) * both w p by unfold both; rw [Nat.add_mul (lo w p), Nat.mul_add (sz w p)]; omega]
    rw [← Nat.mul_assoc, Nat.mul_assoc (lo w p + sz w p), Nat.mul_comm (both w p), ← Nat.mul_assoc]
    exact Nat.mul_lt_mul_of_pos_right b2 hb
  · rw [List.length_append, List.length_singleton, List.replicate_succ', ← a3 g]
theorem tp_le (w : Nat) (p : List Bool) : tp w p ≤ Kn.bt w p := by
  unfold tp Kn.bt
  have h1 := lo_sz w p
  have h2 : sz w p * zs w p (nx w p) ≤ sz w p * both w p := Nat.mul_le_mul_left _ (by unfold both; omega)
  have h3 := Nat.mul_le_mul_right (both w p) h1
  rw [Nat.add_mul] at h3
  omega
theorem at_zero {w T k : Nat} {p : List Bool} (hw : 0 < w) (a : At w T k p) (h : ¬ tp w p * 2 ^ k ≤ T * Kn.bt w p) : At w T k (p ++ [false]) := by
  obtain ⟨a1, a2, a3⟩ := a
  unfold At
  rw [lo_app hw, sz_app hw, wh_app hw, if_neg (by decide), if_neg (by decide), Nat.add_zero]
  refine ⟨?_, fun g => ?_, fun g => ?_⟩
  · rw [← Nat.mul_assoc, Nat.mul_assoc (lo w p), Nat.mul_comm (both w p), ← Nat.mul_assoc]
    exact Nat.mul_le_mul_right _ a1
  · exact Nat.lt_of_not_le h
  · refine absurd ?_ h
    have h1 := Nat.mul_le_mul_right (2 ^ k) (tp_le w p)
    have h2 := Nat.mul_le_mul_left (Kn.bt w p) g
    rw [Nat.mul_comm T]
    omega
/-- possible: the row with the value v -/
def Ps (w m : Nat) (c : List Bool) (v : Nat) : Prop := c <+: code w (bin m v)
instance (w m : Nat) (c : List Bool) (v : Nat) : Decidable (Ps w m c v) := inferInstanceAs (Decidable (c <+: code w (bin m v)))
theorem vb {m v : Nat} (h : v < 2 ^ m) : val (bin m v) = v := by rw [val_bin, Nat.mod_eq_of_lt h]
theorem apv {w m u v : Nat} (hw : 0 < w) (h : u < v) (hv : v < 2 ^ m) : (lo w (bin m u) + sz w (bin m u)) * wh w (bin m v) ≤ lo w (bin m v) * wh w (bin m u) :=
  ap hw (by rw [bin_len, bin_len]) (by rw [vb hv, vb (by omega)]; exact h)
section
variable {w m : Nat} {c : List Bool} (hw : 0 < w)
include hw
theorem gap {v u v' : Nat} (h1 : Ps w m c v) (h2 : Ps w m c v') (a : v < u) (b : u < v') (hv : v' < 2 ^ m) : Ps w m c u :=
  inside (cross (Nat.le_of_lt (meets_top h1)) (apv hw a (by omega)) (wh_pos w _)) (cross (apv hw b hv) (Nat.le_of_lt (meets_low h2)) (wh_pos w _))
theorem none_before {v0 v : Nat} (h0 : v0 < 2 ^ m) (a : At w (val c) c.length (bin m v0)) (h : v < v0) : ¬ Ps w m c v := fun z => by
  have g := cross (apv hw h h0) a.1 (wh_pos w _)
  exact absurd (meets_top z) (by omega)
theorem none_first {v0 : Nat} (h0 : v0 < 2 ^ m) (a : At w (val c) c.length (bin m v0)) (n0 : ¬ Ps w m c v0) (n1 : v0 + 1 < 2 ^ m → ¬ Ps w m c (v0 + 1)) {v : Nat} (hv : v < 2 ^ m) : ¬ Ps w m c v := fun z => by
  rcases Nat.lt_trichotomy v v0 with q | q | q
  · exact none_before hw h0 a q z
  · exact n0 (q ▸ z)
  · rcases Nat.lt_or_ge (v0 + 1) v with q2 | q2
    · refine n1 (by omega) (inside (cross (Nat.le_of_lt (a.2.1 (val_lt c))) (apv hw (by omega) (by omega)) (wh_pos w _)) (cross (apv hw q2 hv) (Nat.le_of_lt (meets_low z)) (wh_pos w _)))
    · have e : v = v0 + 1 := by omega
      exact n1 (by omega) (e ▸ z)
theorem none_after {v1 v : Nat} (h1 : v1 < 2 ^ m) (a : At w (val c + 1) c.length (bin m v1)) (h : v1 < v) (hv : v < 2 ^ m) : ¬ Ps w m c v := fun z => by
  rcases Nat.lt_or_ge (val c + 1) (2 ^ c.length) with q | q
  · have g := cross (Nat.le_of_lt (a.2.1 q)) (apv hw h hv) (wh_pos w _)
    exact absurd (meets_low z) (by omega)
  · have e := a.2.2 q
    rw [bin_len] at e
    have e1 := vb h1
    have e2 := vb hv
    have hne : bin m v ≠ List.replicate (bin m v).length true := fun y => by
      rw [bin_len, ← e] at y
      have := bin_eq hv h1 y
      omega
    obtain ⟨q', d⟩ := below_ones (bin m v) hne
    rw [bin_len, ← e] at d
    have := val_diff (by rw [bin_len, bin_len]) d
    omega
theorem none_last {v1 : Nat} (h1 : v1 < 2 ^ m) (a : At w (val c + 1) c.length (bin m v1)) (n0 : ¬ Ps w m c v1) (n1 : 0 < v1 → ¬ Ps w m c (v1 - 1)) {v : Nat} (hv : v < 2 ^ m) : ¬ Ps w m c v := fun z => by
  rcases Nat.lt_trichotomy v v1 with q | q | q
  · rcases Nat.lt_or_ge v (v1 - 1) with q2 | q2
    · refine n1 (by omega) (inside (cross (Nat.le_of_lt (meets_top z)) (apv hw q2 (by omega)) (wh_pos w _)) (cross (apv hw (v := v1) (by omega) h1) a.1 (wh_pos w _)))
    · have e : v = v1 - 1 := by omega
      exact n1 (by omega) (e ▸ z)
  · exact n0 (q ▸ z)
  · exact none_after hw h1 a q hv z
end
/-- the first and the last possible row -/
def Fst (w m : Nat) (c : List Bool) : Option Nat → Prop
  | none => ∀ v, v < 2 ^ m → ¬ Ps w m c v
  | some f => f < 2 ^ m ∧ Ps w m c f ∧ ∀ v, v < f → ¬ Ps w m c v
def Lst (w m : Nat) (c : List Bool) : Option Nat → Prop
  | none => ∀ v, v < 2 ^ m → ¬ Ps w m c v
  | some l => l < 2 ^ m ∧ Ps w m c l ∧ ∀ v, l < v → v < 2 ^ m → ¬ Ps w m c v
def orV (m : Nat) : Option Nat → V
  | none => .non
  | some f => .str (Bs.S (bin m f))
theorem le_last {w m : Nat} {c : List Bool} {f l : Nat} (a : Fst w m c (some f)) (b : Lst w m c (some l)) : f ≤ l := by
  rcases Nat.lt_or_ge l f with q | q
  · exact absurd a.2.1 (b.2.2 f q a.1)
  · exact q
theorem ps_iff {w m : Nat} {c : List Bool} {f l v : Nat} (hw : 0 < w) (a : Fst w m c (some f)) (b : Lst w m c (some l)) (hv : v < 2 ^ m) : Ps w m c v ↔ f ≤ v ∧ v ≤ l := by
  constructor
  · intro h
    refine ⟨?_, ?_⟩
    · rcases Nat.lt_or_ge v f with q | q
      · exact absurd h (a.2.2 v q)
      · exact q
    · rcases Nat.lt_or_ge l v with q | q
      · exact absurd h (b.2.2 v q hv)
      · exact q
  · rintro ⟨h1, h2⟩
    rcases Nat.lt_or_ge f v with q | q
    · rcases Nat.lt_or_ge v l with q2 | q2
      · exact gap hw a.2.1 b.2.1 q q2 b.1
      · have e : v = l := by omega
        exact e ▸ b.2.1
    · have e : v = f := by omega
      exact e ▸ a.2.1
/-- the values of the possible rows -/
def vals (w m : Nat) (c : List Bool) : List Nat := (List.range (2 ^ m)).filter fun v => decide (Ps w m c v)
theorem rows_vals (w m : Nat) (c : List Bool) : rowsOf w m c = (vals w m c).map (bin m) := rfl
theorem between {f n N : Nat} (h : f + n ≤ N) (p : Nat → Bool) (hp : ∀ v, v < N → (p v = true ↔ f ≤ v ∧ v < f + n)) : (List.range N).filter p = List.range' f n := by
  have e : List.range N = List.range' 0 f ++ (List.range' f n ++ List.range' (f + n) (N - f - n)) := by
    have e1 := List.range'_append_1 (s := f) (m := n) (n := N - f - n)
    have e2 := List.range'_append_1 (s := 0) (m := f) (n := n + (N - f - n))
    rw [e1]
    rw [Nat.zero_add] at e2
    rw [e2, List.range_eq_range']
    congr 1
    omega
  rw [e, List.filter_append, List.filter_append]
  have g1 : (List.range' 0 f).filter p = [] := by
    rw [List.filter_eq_nil_iff]
    intro v hv hp1
    rw [List.mem_range'_1] at hv
    have := (hp v (by omega)).mp hp1
    omega
  have g2 : (List.range' f n).filter p = List.range' f n := by
    rw [List.filter_eq_self]
    intro v hv
    rw [List.mem_range'_1] at hv
    exact (hp v (by omega)).mpr hv
  have g3 : (List.range' (f + n) (N - f - n)).filter p = [] := by
    rw [List.filter_eq_nil_iff]
    intro v hv hp1
    rw [List.mem_range'_1] at hv
    have := (hp v (by omega)).mp hp1
    omega
  rw [g1, g2, g3, List.nil_append, List.append_nil]
theorem vals_eq {w m : Nat} {c : List Bool} {f l : Nat} (hw : 0 < w) (a : Fst w m c (some f)) (b : Lst w m c (some l)) : vals w m c = List.range' f (l + 1 - f) := by
  have := le_last a b
  have := b.1
  refine between (by omega) _ fun v hv => ?_
  rw [decide_eq_true_iff, ps_iff hw a b hv]
  omega
theorem vals_none {w m : Nat} {c : List Bool} (a : Fst w m c none) : vals w m c = [] := by
  unfold vals
  rw [List.filter_eq_nil_iff]
  intro v hv h
  rw [List.mem_range] at hv
  exact a v hv (of_decide_eq_true h)
theorem both_some {w m : Nat} {c : List Bool} {r r' : Option Nat} (a : Fst w m c r) (b : Lst w m c r') : (r = none ∧ r' = none) ∨ ∃ f l, r = some f ∧ r' = some l := by
  cases r with
  | none =>
    cases r' with
    | none => exact .inl ⟨rfl, rfl⟩
    | some l => exact absurd b.2.1 (a l b.1)
  | some f =>
    cases r' with
    | none => exact absurd a.2.1 (b f a.1)
    | some l => exact .inr ⟨f, l, rfl, rfl⟩
/-- the count -/
def many (w m : Nat) (c : List Bool) : Nat := (vals w m c).length
theorem many_none {w m : Nat} {c : List Bool} (a : Fst w m c none) : many w m c = 0 := by unfold many; rw [vals_none a]; rfl
theorem many_some {w m : Nat} {c : List Bool} {f l : Nat} (hw : 0 < w) (a : Fst w m c (some f)) (b : Lst w m c (some l)) : many w m c = l + 1 - f := by
  unfold many; rw [vals_eq hw a b, List.length_range']
theorem many_le (w m : Nat) (c : List Bool) : many w m c ≤ 2 ^ m := by
  unfold many vals
  have := List.length_filter_le (fun v => decide (Ps w m c v)) (List.range (2 ^ m))
  rwa [List.length_range] at this
theorem many_pos {w m : Nat} {c : List Bool} {f : Nat} (a : Fst w m c (some f)) : 0 < many w m c := by
  unfold many
  refine List.length_pos_iff_exists_mem.mpr ⟨f, ?_⟩
  unfold vals
  rw [List.mem_filter, List.mem_range]
  exact ⟨a.1, decide_eq_true a.2.1⟩
theorem fst_unique {w m : Nat} {c : List Bool} {r r' : Option Nat} (a : Fst w m c r) (b : Fst w m c r') : r = r' := by
  cases r with
  | none =>
    cases r' with
    | none => rfl
    | some l => exact absurd b.2.1 (a l b.1)
  | some f =>
    cases r' with
    | none => exact absurd a.2.1 (b f a.1)
    | some l =>
      rcases Nat.lt_trichotomy f l with q | q | q
      · exact absurd a.2.1 (b.2.2 f q)
      · rw [q]
      · exact absurd b.2.1 (a.2.2 l q)
/-- what is at the cell's end, or beside it -/
theorem fst_of {w m v0 : Nat} {c : List Bool} (hw : 0 < w) (h0 : v0 < 2 ^ m) (a : At w (val c) c.length (bin m v0)) :
    (Ps w m c v0 → Fst w m c (some v0)) ∧ (¬ Ps w m c v0 → v0 + 1 < 2 ^ m → Ps w m c (v0 + 1) → Fst w m c (some (v0 + 1))) ∧ (¬ Ps w m c v0 → (v0 + 1 < 2 ^ m → ¬ Ps w m c (v0 + 1)) → Fst w m c none) :=
  ⟨fun h => ⟨h0, h, fun _ hv => none_before hw h0 a hv⟩,
   fun n h h2 => ⟨h, h2, fun v hv => by
     rcases Nat.lt_or_ge v v0 with q | q
     · exact none_before hw h0 a q
     · have e : v = v0 := by omega
       rw [e]; exact n⟩,
   fun n h v hv => none_first hw h0 a n h hv⟩
theorem lst_of {w m v1 : Nat} {c : List Bool} (hw : 0 < w) (h1 : v1 < 2 ^ m) (a : At w (val c + 1) c.length (bin m v1)) :
    (Ps w m c v1 → Lst w m c (some v1)) ∧ (¬ Ps w m c v1 → 0 < v1 → Ps w m c (v1 - 1) → Lst w m c (some (v1 - 1))) ∧ (¬ Ps w m c v1 → (0 < v1 → ¬ Ps w m c (v1 - 1)) → Lst w m c none) :=
  ⟨fun h => ⟨h1, h, fun _ hv hv2 => none_after hw h1 a hv hv2⟩,
   fun n h h2 => ⟨by omega, h2, fun v hv hv2 => by
     rcases Nat.lt_or_ge v1 v with q | q
     · exact none_after hw h1 a q hv2
     · have e : v = v1 := by omega
       rw [e]; exact n⟩,
   fun n h v hv => none_last hw h1 a n h hv⟩
theorem lst_ex {w m : Nat} {c : List Bool} {f : Nat} (a : Fst w m c (some f)) : ∃ l, Lst w m c (some l) := by
  suffices h : ∀ n v, v + n + 1 = 2 ^ m → (∃ u, u ≤ v ∧ Ps w m c u) → (∀ u, v < u → u < 2 ^ m → ¬ Ps w m c u) → ∃ l, Lst w m c (some l) from
    h 0 (2 ^ m - 1) (by have := a.1; omega) ⟨f, by have := a.1; omega, a.2.1⟩ (fun u h1 h2 => by omega)
  intro n v
  induction v generalizing n with
  | zero =>
    rintro h1 ⟨u, hu, p⟩ h2
    have e : u = 0 := by omega
    exact ⟨0, by omega, e ▸ p, h2⟩
  | succ v ih =>
    rintro h1 ⟨u, hu, p⟩ h2
    by_cases hp : Ps w m c (v + 1)
    · exact ⟨v + 1, by omega, hp, h2⟩
    · refine ih (n + 1) (by omega) ⟨u, ?_, p⟩ fun u' q1 q2 => ?_
      · rcases Nat.lt_or_ge u (v + 1) with q | q
        · omega
        · have e : u = v + 1 := by omega
          exact absurd (e ▸ p) hp
      · rcases Nat.lt_or_ge (v + 1) u' with q | q
        · exact h2 u' q q2
        · have e : u' = v + 1 := by omega
          exact e ▸ hp
theorem ps_less {w m : Nat} {c : List Bool} {b : Bool} {v : Nat} (h : Ps w m (c ++ [b]) v) : Ps w m c v := (List.prefix_append c [b]).trans h
theorem no_pre {a b q : List Bool} (d : Diff a b q) : ¬ a <+: b ∧ ¬ b <+: a := by
  obtain ⟨t, t', rfl, rfl⟩ := d
  refine ⟨?_, ?_⟩
  · rintro ⟨r, e⟩
    rw [List.append_assoc] at e
    have := List.append_cancel_left e
    cases this
  · rintro ⟨r, e⟩
    rw [List.append_assoc] at e
    have := List.append_cancel_left e
    cases this
theorem same_row {w : Nat} {a b : List Bool} (hw : 0 < w) (hl : a.length = b.length) (h : code w a <+: code w b) : a = b := by
  by_cases e : a = b
  · exact e
  · obtain ⟨q, d | d⟩ := diff_or hl e
    · obtain ⟨q', d'⟩ := codes_differ hw d
      exact absurd h (no_pre d').1
    · obtain ⟨q', d'⟩ := codes_differ hw d
      exact absurd h (no_pre d').2
theorem same_val {w m u v : Nat} (hw : 0 < w) (hu : u < 2 ^ m) (hv : v < 2 ^ m) (h : code w (bin m u) <+: code w (bin m v)) : u = v :=
  bin_eq hu hv (same_row hw (by rw [bin_len, bin_len]) h)
theorem many_all (w m : Nat) : many w m [] = 2 ^ m := by
  have h : ∀ v ∈ List.range (2 ^ m), decide (Ps w m [] v) = true := fun v _ => decide_eq_true (List.nil_prefix)
  unfold many vals
  rw [List.filter_eq_self.mpr h, List.length_range]
theorem many_zero {w m : Nat} {c : List Bool} (h : ∀ v, v < 2 ^ m → ¬ Ps w m c v) : many w m c = 0 := many_none (a := (h : Fst w m c none))
theorem many_nil {w m : Nat} {c : List Bool} (a : Fst w m c none) (b : Bool) : many w m (c ++ [b]) = 0 := many_zero fun v hv h => a v hv (ps_less h)
theorem many_code {w m f : Nat} {c : List Bool} (hw : 0 < w) (a : Fst w m c (some f)) (h : code w (bin m f) = c) : many w m c = 1 ∧ ∀ b, many w m (c ++ [b]) = 0 := by
  have one : ∀ v, v < 2 ^ m → Ps w m c v → f = v := fun v hv p => same_val hw a.1 hv (by rw [h]; exact p)
  refine ⟨?_, fun b => many_zero fun v hv p => ?_⟩
  · obtain ⟨l, la⟩ := lst_ex a
    rw [many_some hw a la, ← one l la.1 la.2.1]
    omega
  · have e := one v hv (ps_less p)
    subst e
    have := List.IsPrefix.length_le p
    rw [h, List.length_append, List.length_singleton] at this
    omega
theorem filter_or {p q r : Nat → Bool} : ∀ (l : List Nat), (∀ v ∈ l, p v = (q v || r v) ∧ (q v && r v) = false) → (l.filter p).length = (l.filter q).length + (l.filter r).length
  | [], _ => rfl
  | v :: l, h => by
    have ih := filter_or l fun u hu => h u (List.mem_cons_of_mem _ hu)
    obtain ⟨h1, h2⟩ := h v (List.mem_cons_self ..)
    rw [List.filter_cons, List.filter_cons, List.filter_cons, h1]
    cases hq : q v <;> cases hr : r v
    · simpa using ih
    · simp; omega
    · simp; omega
    · rw [hq, hr] at h2; cases h2
theorem many_split {w m f : Nat} {c : List Bool} (hw : 0 < w) (a : Fst w m c (some f)) (h : ¬ code w (bin m f) = c) : many w m c = many w m (c ++ [false]) + many w m (c ++ [true]) := by
  refine filter_or _ fun v hv => ?_
  rw [List.mem_range] at hv
  have hno : Ps w m c v → code w (bin m v) ≠ c := fun p e => by
    refine h ?_
    have := same_val hw hv a.1 (e ▸ a.2.1)
    rw [← this]; exact e
  constructor
  · rw [Bool.eq_iff_iff, Bool.or_eq_true, decide_eq_true_iff, decide_eq_true_iff, decide_eq_true_iff]
    constructor
    · intro p
      obtain ⟨r, hr⟩ := id p
      cases r with
      | nil => exact absurd (by rw [← hr, List.append_nil]) (hno p)
      | cons b r =>
        cases b with
        | false => exact .inl ⟨r, by rw [← hr, List.append_assoc]; rfl⟩
        | true => exact .inr ⟨r, by rw [← hr, List.append_assoc]; rfl⟩
    · rintro (p | p)
      · exact ps_less p
      · exact ps_less p
  · rw [Bool.and_eq_false_iff, decide_eq_false_iff_not, decide_eq_false_iff_not]
    by_cases p : Ps w m (c ++ [false]) v
    · refine .inr fun p2 => ?_
      have e := List.prefix_of_prefix_length_le p p2 (by rw [List.length_append, List.length_append]; exact Nat.le_refl _)
      have := e.eq_of_length (by rw [List.length_append, List.length_append]; rfl)
      have := List.append_cancel_left this
      cases this
    · exact .inl p
end Rk

namespace Bx
open PySem L2
/-- a box of drawn digits: the list b holds the list p of ints and a place; all of H0 stands beside -/
structure Box (H0 H : Hp) (b p : Addr) (xs : List Int) : Prop where
  same : Same H0 H
  nb : H0 b = none
  np : H0 p = none
  bx : ∃ k : Nat, H b = some (.lst [.ref p, .int (k : Int)])
  dg : H p = some (.lst (xs.map V.int))
theorem Box.ne {H0 H : Hp} {b p : Addr} {xs : List Int} (B : Box H0 H b p xs) : p ≠ b := by
  obtain ⟨k, hk⟩ := B.bx
  intro e
  rw [← e, B.dg] at hk
  have h := Option.some.inj hk
  cases xs with
  | nil => cases h
  | cons x xs => cases h
/-- a new object beside -/
theorem Box.new {H0 H : Hp} {b p c : Addr} {xs : List Int} {o : HO} (B : Box H0 H b p xs) (hc : H c = none) : Box (upd H0 c o) (upd H c o) b p xs := by
  obtain ⟨k, hk⟩ := B.bx
  have h1 : b ≠ c := ne_of_none hk hc
  have h2 : p ≠ c := ne_of_none B.dg hc
  refine ⟨fun a u e => ?_, by rw [upd_ne h1]; exact B.nb, by rw [upd_ne h2]; exact B.np, ⟨k, by rw [upd_ne h1]; exact hk⟩, by rw [upd_ne h2]; exact B.dg⟩
  by_cases ha : a = c
  · subst ha; rw [upd_same] at e ⊢; exact e
  · rw [upd_ne ha] at e ⊢; exact B.same a u e
/-- what was made beside, in a heap that keeps all -/
theorem Box.keep {H0 H H' : Hp} {b p : Addr} {xs : List Int} (B : Box H0 H b p xs) (s : Same H H') : Box H0 H' b p xs := by
  obtain ⟨k, hk⟩ := B.bx
  exact ⟨B.same.trans s, B.nb, B.np, ⟨k, s _ _ hk⟩, s _ _ B.dg⟩
end Bx

namespace My
open PySem L2
def top (i : Nat) : Stmt := PySem.Challenge.pw_packetpicture_k24_bounds_of_the_coder.main.body.getD i (.Pass ⟨0, 0, 0, 0⟩)
abbrev s_first_with_one : Stmt := top 26
abbrev s_last_with_zero : Stmt := top 25
abbrev s_sample_of : Stmt := top 34
abbrev s_digits_of : Stmt := top 19
abbrev s_shortest_cell : Stmt := top 22
abbrev s_Coding_interval : Stmt := inClass (top 15) 2
abbrev s_context : Stmt := top 14
abbrev s_Coding_take : Stmt := inClass (top 15) 4
abbrev s_Coding___init__ : Stmt := inClass (top 15) 0
abbrev s_coding_of : Stmt := top 16
abbrev s_interval : Stmt := top 17
abbrev s_code_of : Stmt := top 23
abbrev s_opens : Stmt := top 24
abbrev s_next_bits : Stmt := top 28
abbrev s_Coding_shares : Stmt := inClass (top 15) 1
abbrev s_Coding_border : Stmt := inClass (top 15) 3
abbrev s_bit_of_cell : Stmt := top 27
abbrev s_number_of : Stmt := top 20
abbrev s_prefix_of : Stmt := top 29
abbrev s_check_range : Stmt := top 6
abbrev s_check_code : Stmt := top 13
abbrev s_check_width : Stmt := top 12
abbrev s_check_prefix : Stmt := top 30
abbrev s_sample : Stmt := top 35
abbrev s_possible_or_beside : Stmt := top 38
abbrev s_bits_at : Stmt := top 37
abbrev s_first_bits : Stmt := top 39
abbrev s_first_possible : Stmt := top 42
abbrev s_last_bits : Stmt := top 40
abbrev s_count_possible : Stmt := top 41
abbrev s_marked : Stmt := top 32
abbrev s_known_prefix : Stmt := top 31
abbrev s_known : Stmt := top 33
abbrev s_law_ask : Stmt := top 48
abbrev s_law_refusal : Stmt := top 49
abbrev s_law_draw : Stmt := top 46
abbrev s_law_bits : Stmt := top 47
abbrev s_law_cell : Stmt := top 44
abbrev s_law_digits : Stmt := top 45
abbrev s_law : Stmt := top 50
/-- a def of the text as it stands behind the top -/
structure DefAt (K : PySem.W.Frag) (mg : Str → Option Value) (x : Str) (st : Stmt) (ps : List Str) where
  a : Addr
  d : FuncData
  f : Fun K x x st a d
  g : mg x = some (.ref a)
  b : Binds K d ps []
structure MethAt (K : PySem.W.Frag) (C : Addr) (x q : Str) (st : Stmt) (ps : List Str) where
  a : Addr
  d : FuncData
  f : Fun K x q st a d
  b : Binds K d ps []
  m : Meth K C x a
abbrev s_OutOfRange___init__ : Stmt := inClass (top 2) 0
structure Tx (P : Program) (K : PySem.W.Frag) (mg : Str → Option Value) where
  a_Coding : Addr
  cl_Coding : Cls K a_Coding
  g_Coding : mg "Coding" = some (.ref a_Coding)
  mk_Coding : PySem.W.makesIn K a_Coding = true
  kp_Coding : PySem.W.keepIn K (.ref a_Coding) = true
  na_Coding_bits : NoAttr K a_Coding "bits"
  na_Coding__width : NoAttr K a_Coding "_width"
  na_Coding__low : NoAttr K a_Coding "_low"
  na_Coding__size : NoAttr K a_Coding "_size"
  na_Coding__whole : NoAttr K a_Coding "_whole"
  na_Coding__zeros : NoAttr K a_Coding "_zeros"
  na_Coding__ones : NoAttr K a_Coding "_ones"
  first_with_one : DefAt K mg "first_with_one" s_first_with_one ["bits", "more"]
  last_with_zero : DefAt K mg "last_with_zero" s_last_with_zero ["bits", "more"]
  sample_of : DefAt K mg "sample_of" s_sample_of ["prefix", "count", "place", "bit"]
  digits_of : DefAt K mg "digits_of" s_digits_of ["value", "count"]
  shortest_cell : DefAt K mg "shortest_cell" s_shortest_cell ["low", "size", "whole"]
  Coding_interval : MethAt K a_Coding "interval" "Coding.interval" s_Coding_interval ["self"]
  context : DefAt K mg "context" s_context ["width", "bits", "place"]
  Coding_take : MethAt K a_Coding "take" "Coding.take" s_Coding_take ["self", "bit"]
  Coding___init__ : MethAt K a_Coding "__init__" "Coding.__init__" s_Coding___init__ ["self", "width"]
  coding_of : DefAt K mg "coding_of" s_coding_of ["width", "bits"]
  interval : DefAt K mg "interval" s_interval ["width", "bits"]
  code_of : DefAt K mg "code_of" s_code_of ["width", "bits"]
  opens : DefAt K mg "opens" s_opens ["width", "code", "bits"]
  next_bits : DefAt K mg "next_bits" s_next_bits ["width", "count", "code", "bits"]
  Coding_shares : MethAt K a_Coding "shares" "Coding.shares" s_Coding_shares ["self"]
  Coding_border : MethAt K a_Coding "border" "Coding.border" s_Coding_border ["self"]
  bit_of_cell : DefAt K mg "bit_of_cell" s_bit_of_cell ["coding", "code", "value"]
  number_of : DefAt K mg "number_of" s_number_of ["digits"]
  prefix_of : DefAt K mg "prefix_of" s_prefix_of ["width", "count", "code"]
  check_range : DefAt K mg "check_range" s_check_range ["name", "value", "least", "most"]
  check_code : DefAt K mg "check_code" s_check_code ["code"]
  check_width : DefAt K mg "check_width" s_check_width ["width"]
  check_prefix : DefAt K mg "check_prefix" s_check_prefix ["width", "count", "code"]
  sample : DefAt K mg "sample" s_sample ["width", "count", "code", "place", "bit"]
  possible_or_beside : DefAt K mg "possible_or_beside" s_possible_or_beside ["width", "code", "bits", "step"]
  bits_at : DefAt K mg "bits_at" s_bits_at ["width", "count", "top", "digits"]
  first_bits : DefAt K mg "first_bits" s_first_bits ["width", "count", "code"]
  first_possible : DefAt K mg "first_possible" s_first_possible ["width", "count", "code"]
  last_bits : DefAt K mg "last_bits" s_last_bits ["width", "count", "code"]
  count_possible : DefAt K mg "count_possible" s_count_possible ["width", "count", "code"]
  marked : DefAt K mg "marked" s_marked ["prefix", "count"]
  known_prefix : DefAt K mg "known_prefix" s_known_prefix ["width", "count", "code"]
  known : DefAt K mg "known" s_known ["width", "count", "code"]
  law_ask : DefAt K mg "_law_ask" s_law_ask ["which", "width", "count", "code", "place", "bit"]
  law_refusal : DefAt K mg "_law_refusal" s_law_refusal ["which", "width", "count", "code", "place", "bit"]
  law_draw : DefAt K mg "_law_draw" s_law_draw ["box", "many"]
  law_bits : DefAt K mg "_law_bits" s_law_bits ["box", "many"]
  law_cell : DefAt K mg "_law_cell" s_law_cell ["script", "k"]
  law_digits : DefAt K mg "_law_digits" s_law_digits ["script", "first", "last"]
  law : DefAt K mg "law" s_law ["script"]
  x_OutOfRange : Sx.ExcAt P K mg "OutOfRange" "OutOfRange.__init__" s_OutOfRange___init__ ["self", "name"]
  y_Contradiction : Sx.BareAt K mg "Contradiction"
  y_OtherKind : Sx.BareAt K mg "OtherKind"
  y_PictureError : Sx.BareAt K mg "PictureError"
  nf_OutOfRange_name : PySem.W.findIn K (.ref x_OutOfRange.C) "name" = some none
  em_OutOfRange_PictureError : PySem.W.exmOne K (.ref x_OutOfRange.C) (.ref y_PictureError.C) = some true
  ki_OutOfRange_Contradiction : PySem.W.kitOne K (.ref x_OutOfRange.C) (.ref y_Contradiction.C) = some false
  ki_OutOfRange_OtherKind : PySem.W.kitOne K (.ref x_OutOfRange.C) (.ref y_OtherKind.C) = some false
  ki_OutOfRange_OutOfRange : PySem.W.kitOne K (.ref x_OutOfRange.C) (.ref x_OutOfRange.C) = some true
  ki_OutOfRange_ValueError : PySem.W.kitOne K (.ref x_OutOfRange.C) (.type "ValueError") = some true
  n_ValueError : mg "ValueError" = none
  n_int : mg "int" = none
  n_isinstance : mg "isinstance" = none
  n_len : mg "len" = none
  n_range : mg "range" = none
  n_str : mg "str" = none
  t_BITS_MOST : Tok
  c_BITS_MOST : mg "BITS_MOST" = some (.int 256 t_BITS_MOST)
  t_CODE_MOST : Tok
  c_CODE_MOST : mg "CODE_MOST" = some (.int 400 t_CODE_MOST)
  t_CONTEXTS : Tok
  c_CONTEXTS : mg "CONTEXTS" = some (.int 16 t_CONTEXTS)
  t_WIDTH_MOST : Tok
  c_WIDTH_MOST : mg "WIDTH_MOST" = some (.int 16 t_WIDTH_MOST)
section
variable {P : Program} {w : World} {K : PySem.W.Frag} {mg : Str → Option Value} {base : Heap}
def fl_Coding (v0 v1 v2 v3 v4 v5 v6 : V) : List (Str × V) := [("bits", v0), ("_width", v1), ("_low", v2), ("_size", v3), ("_whole", v4), ("_zeros", v5), ("_ones", v6)]
theorem ne_Coding_bits___width : ((Str.ofString "bits") = Str.ofString "_width") = False := eq_false (by decide +kernel)
theorem ne_Coding_bits___low : ((Str.ofString "bits") = Str.ofString "_low") = False := eq_false (by decide +kernel)
theorem ne_Coding_bits___size : ((Str.ofString "bits") = Str.ofString "_size") = False := eq_false (by decide +kernel)
theorem ne_Coding_bits___whole : ((Str.ofString "bits") = Str.ofString "_whole") = False := eq_false (by decide +kernel)
theorem ne_Coding_bits___zeros : ((Str.ofString "bits") = Str.ofString "_zeros") = False := eq_false (by decide +kernel)
theorem ne_Coding_bits___ones : ((Str.ofString "bits") = Str.ofString "_ones") = False := eq_false (by decide +kernel)
theorem ne_Coding_bits____init__ : ((Str.ofString "bits") = Str.ofString "__init__") = False := eq_false (by decide +kernel)
theorem ne_Coding_bits__shares : ((Str.ofString "bits") = Str.ofString "shares") = False := eq_false (by decide +kernel)
theorem ne_Coding_bits__interval : ((Str.ofString "bits") = Str.ofString "interval") = False := eq_false (by decide +kernel)
theorem ne_Coding_bits__border : ((Str.ofString "bits") = Str.ofString "border") = False := eq_false (by decide +kernel)
theorem ne_Coding_bits__take : ((Str.ofString "bits") = Str.ofString "take") = False := eq_false (by decide +kernel)
theorem ne_Coding__width__bits : ((Str.ofString "_width") = Str.ofString "bits") = False := eq_false (by decide +kernel)
theorem ne_Coding__width___low : ((Str.ofString "_width") = Str.ofString "_low") = False := eq_false (by decide +kernel)
theorem ne_Coding__width___size : ((Str.ofString "_width") = Str.ofString "_size") = False := eq_false (by decide +kernel)
theorem ne_Coding__width___whole : ((Str.ofString "_width") = Str.ofString "_whole") = False := eq_false (by decide +kernel)
theorem ne_Coding__width___zeros : ((Str.ofString "_width") = Str.ofString "_zeros") = False := eq_false (by decide +kernel)
theorem ne_Coding__width___ones : ((Str.ofString "_width") = Str.ofString "_ones") = False := eq_false (by decide +kernel)
theorem ne_Coding__width____init__ : ((Str.ofString "_width") = Str.ofString "__init__") = False := eq_false (by decide +kernel)
theorem ne_Coding__width__shares : ((Str.ofString "_width") = Str.ofString "shares") = False := eq_false (by decide +kernel)
theorem ne_Coding__width__interval : ((Str.ofString "_width") = Str.ofString "interval") = False := eq_false (by decide +kernel)
theorem ne_Coding__width__border : ((Str.ofString "_width") = Str.ofString "border") = False := eq_false (by decide +kernel)
theorem ne_Coding__width__take : ((Str.ofString "_width") = Str.ofString "take") = False := eq_false (by decide +kernel)
theorem ne_Coding__low__bits : ((Str.ofString "_low") = Str.ofString "bits") = False := eq_false (by decide +kernel)
theorem ne_Coding__low___width : ((Str.ofString "_low") = Str.ofString "_width") = False := eq_false (by decide +kernel)
theorem ne_Coding__low___size : ((Str.ofString "_low") = Str.ofString "_size") = False := eq_false (by decide +kernel)
theorem ne_Coding__low___whole : ((Str.ofString "_low") = Str.ofString "_whole") = False := eq_false (by decide +kernel)
theorem ne_Coding__low___zeros : ((Str.ofString "_low") = Str.ofString "_zeros") = False := eq_false (by decide +kernel)
theorem ne_Coding__low___ones : ((Str.ofString "_low") = Str.ofString "_ones") = False := eq_false (by decide +kernel)
theorem ne_Coding__low____init__ : ((Str.ofString "_low") = Str.ofString "__init__") = False := eq_false (by decide +kernel)
theorem ne_Coding__low__shares : ((Str.ofString "_low") = Str.ofString "shares") = False := eq_false (by decide +kernel)
theorem ne_Coding__low__interval : ((Str.ofString "_low") = Str.ofString "interval") = False := eq_false (by decide +kernel)
theorem ne_Coding__low__border : ((Str.ofString "_low") = Str.ofString "border") = False := eq_false (by decide +kernel)
theorem ne_Coding__low__take : ((Str.ofString "_low") = Str.ofString "take") = False := eq_false (by decide +kernel)
theorem ne_Coding__size__bits : ((Str.ofString "_size") = Str.ofString "bits") = False := eq_false (by decide +kernel)
theorem ne_Coding__size___width : ((Str.ofString "_size") = Str.ofString "_width") = False := eq_false (by decide +kernel)
theorem ne_Coding__size___low : ((Str.ofString "_size") = Str.ofString "_low") = False := eq_false (by decide +kernel)
theorem ne_Coding__size___whole : ((Str.ofString "_size") = Str.ofString "_whole") = False := eq_false (by decide +kernel)
theorem ne_Coding__size___zeros : ((Str.ofString "_size") = Str.ofString "_zeros") = False := eq_false (by decide +kernel)
theorem ne_Coding__size___ones : ((Str.ofString "_size") = Str.ofString "_ones") = False := eq_false (by decide +kernel)
theorem ne_Coding__size____init__ : ((Str.ofString "_size") = Str.ofString "__init__") = False := eq_false (by decide +kernel)
theorem ne_Coding__size__shares : ((Str.ofString "_size") = Str.ofString "shares") = False := eq_false (by decide +kernel)
theorem ne_Coding__size__interval : ((Str.ofString "_size") = Str.ofString "interval") = False := eq_false (by decide +kernel)
theorem ne_Coding__size__border : ((Str.ofString "_size") = Str.ofString "border") = False := eq_false (by decide +kernel)
theorem ne_Coding__size__take : ((Str.ofString "_size") = Str.ofString "take") = False := eq_false (by decide +kernel)
theorem ne_Coding__whole__bits : ((Str.ofString "_whole") = Str.ofString "bits") = False := eq_false (by decide +kernel)
theorem ne_Coding__whole___width : ((Str.ofString "_whole") = Str.ofString "_width") = False := eq_false (by decide +kernel)
theorem ne_Coding__whole___low : ((Str.ofString "_whole") = Str.ofString "_low") = False := eq_false (by decide +kernel)
theorem ne_Coding__whole___size : ((Str.ofString "_whole") = Str.ofString "_size") = False := eq_false (by decide +kernel)
theorem ne_Coding__whole___zeros : ((Str.ofString "_whole") = Str.ofString "_zeros") = False := eq_false (by decide +kernel)
theorem ne_Coding__whole___ones : ((Str.ofString "_whole") = Str.ofString "_ones") = False := eq_false (by decide +kernel)
theorem ne_Coding__whole____init__ : ((Str.ofString "_whole") = Str.ofString "__init__") = False := eq_false (by decide +kernel)
theorem ne_Coding__whole__shares : ((Str.ofString "_whole") = Str.ofString "shares") = False := eq_false (by decide +kernel)
theorem ne_Coding__whole__interval : ((Str.ofString "_whole") = Str.ofString "interval") = False := eq_false (by decide +kernel)
theorem ne_Coding__whole__border : ((Str.ofString "_whole") = Str.ofString "border") = False := eq_false (by decide +kernel)
theorem ne_Coding__whole__take : ((Str.ofString "_whole") = Str.ofString "take") = False := eq_false (by decide +kernel)
theorem ne_Coding__zeros__bits : ((Str.ofString "_zeros") = Str.ofString "bits") = False := eq_false (by decide +kernel)
theorem ne_Coding__zeros___width : ((Str.ofString "_zeros") = Str.ofString "_width") = False := eq_false (by decide +kernel)
theorem ne_Coding__zeros___low : ((Str.ofString "_zeros") = Str.ofString "_low") = False := eq_false (by decide +kernel)
theorem ne_Coding__zeros___size : ((Str.ofString "_zeros") = Str.ofString "_size") = False := eq_false (by decide +kernel)
theorem ne_Coding__zeros___whole : ((Str.ofString "_zeros") = Str.ofString "_whole") = False := eq_false (by decide +kernel)
theorem ne_Coding__zeros___ones : ((Str.ofString "_zeros") = Str.ofString "_ones") = False := eq_false (by decide +kernel)
theorem ne_Coding__zeros____init__ : ((Str.ofString "_zeros") = Str.ofString "__init__") = False := eq_false (by decide +kernel)
theorem ne_Coding__zeros__shares : ((Str.ofString "_zeros") = Str.ofString "shares") = False := eq_false (by decide +kernel)
theorem ne_Coding__zeros__interval : ((Str.ofString "_zeros") = Str.ofString "interval") = False := eq_false (by decide +kernel)
theorem ne_Coding__zeros__border : ((Str.ofString "_zeros") = Str.ofString "border") = False := eq_false (by decide +kernel)
theorem ne_Coding__zeros__take : ((Str.ofString "_zeros") = Str.ofString "take") = False := eq_false (by decide +kernel)
theorem ne_Coding__ones__bits : ((Str.ofString "_ones") = Str.ofString "bits") = False := eq_false (by decide +kernel)
theorem ne_Coding__ones___width : ((Str.ofString "_ones") = Str.ofString "_width") = False := eq_false (by decide +kernel)
theorem ne_Coding__ones___low : ((Str.ofString "_ones") = Str.ofString "_low") = False := eq_false (by decide +kernel)
theorem ne_Coding__ones___size : ((Str.ofString "_ones") = Str.ofString "_size") = False := eq_false (by decide +kernel)
theorem ne_Coding__ones___whole : ((Str.ofString "_ones") = Str.ofString "_whole") = False := eq_false (by decide +kernel)
theorem ne_Coding__ones___zeros : ((Str.ofString "_ones") = Str.ofString "_zeros") = False := eq_false (by decide +kernel)
theorem ne_Coding__ones____init__ : ((Str.ofString "_ones") = Str.ofString "__init__") = False := eq_false (by decide +kernel)
theorem ne_Coding__ones__shares : ((Str.ofString "_ones") = Str.ofString "shares") = False := eq_false (by decide +kernel)
theorem ne_Coding__ones__interval : ((Str.ofString "_ones") = Str.ofString "interval") = False := eq_false (by decide +kernel)
theorem ne_Coding__ones__border : ((Str.ofString "_ones") = Str.ofString "border") = False := eq_false (by decide +kernel)
theorem ne_Coding__ones__take : ((Str.ofString "_ones") = Str.ofString "take") = False := eq_false (by decide +kernel)
theorem put_Coding_bits {v0 v1 v2 v3 v4 v5 v6 : V} {z : V} : putF "bits" z (fl_Coding v0 v1 v2 v3 v4 v5 v6) = fl_Coding z v1 v2 v3 v4 v5 v6 := by
  simp only [fl_Coding, putF, if_false, if_true, reduceIte]
theorem lk_Coding_bits {v0 v1 v2 v3 v4 v5 v6 : V} : (fl_Coding v0 v1 v2 v3 v4 v5 v6).lookup ("bits" : Str) = some v0 := by
  have h := lookup_putF "bits" "bits" v0 (fl_Coding v0 v1 v2 v3 v4 v5 v6)
  rw [put_Coding_bits, if_pos rfl] at h
  exact h
theorem put_Coding__width {v0 v1 v2 v3 v4 v5 v6 : V} {z : V} : putF "_width" z (fl_Coding v0 v1 v2 v3 v4 v5 v6) = fl_Coding v0 z v2 v3 v4 v5 v6 := by
  simp only [fl_Coding, putF, ne_Coding_bits___width, if_false, if_true, reduceIte]
theorem lk_Coding__width {v0 v1 v2 v3 v4 v5 v6 : V} : (fl_Coding v0 v1 v2 v3 v4 v5 v6).lookup ("_width" : Str) = some v1 := by
  have h := lookup_putF "_width" "_width" v1 (fl_Coding v0 v1 v2 v3 v4 v5 v6)
  rw [put_Coding__width, if_pos rfl] at h
  exact h
theorem put_Coding__low {v0 v1 v2 v3 v4 v5 v6 : V} {z : V} : putF "_low" z (fl_Coding v0 v1 v2 v3 v4 v5 v6) = fl_Coding v0 v1 z v3 v4 v5 v6 := by
  simp only [fl_Coding, putF, ne_Coding_bits___low, ne_Coding__width___low, if_false, if_true, reduceIte]
theorem lk_Coding__low {v0 v1 v2 v3 v4 v5 v6 : V} : (fl_Coding v0 v1 v2 v3 v4 v5 v6).lookup ("_low" : Str) = some v2 := by
  have h := lookup_putF "_low" "_low" v2 (fl_Coding v0 v1 v2 v3 v4 v5 v6)
  rw [put_Coding__low, if_pos rfl] at h
  exact h
theorem put_Coding__size {v0 v1 v2 v3 v4 v5 v6 : V} {z : V} : putF "_size" z (fl_Coding v0 v1 v2 v3 v4 v5 v6) = fl_Coding v0 v1 v2 z v4 v5 v6 := by
  simp only [fl_Coding, putF, ne_Coding_bits___size, ne_Coding__width___size, ne_Coding__low___size, if_false, if_true, reduceIte]
theorem lk_Coding__size {v0 v1 v2 v3 v4 v5 v6 : V} : (fl_Coding v0 v1 v2 v3 v4 v5 v6).lookup ("_size" : Str) = some v3 := by
  have h := lookup_putF "_size" "_size" v3 (fl_Coding v0 v1 v2 v3 v4 v5 v6)
  rw [put_Coding__size, if_pos rfl] at h
  exact h
theorem put_Coding__whole {v0 v1 v2 v3 v4 v5 v6 : V} {z : V} : putF "_whole" z (fl_Coding v0 v1 v2 v3 v4 v5 v6) = fl_Coding v0 v1 v2 v3 z v5 v6 := by
  simp only [fl_Coding, putF, ne_Coding_bits___whole, ne_Coding__width___whole, ne_Coding__low___whole, ne_Coding__size___whole, if_false, if_true, reduceIte]
theorem lk_Coding__whole {v0 v1 v2 v3 v4 v5 v6 : V} : (fl_Coding v0 v1 v2 v3 v4 v5 v6).lookup ("_whole" : Str) = some v4 := by
  have h := lookup_putF "_whole" "_whole" v4 (fl_Coding v0 v1 v2 v3 v4 v5 v6)
  rw [put_Coding__whole, if_pos rfl] at h
  exact h
theorem put_Coding__zeros {v0 v1 v2 v3 v4 v5 v6 : V} {z : V} : putF "_zeros" z (fl_Coding v0 v1 v2 v3 v4 v5 v6) = fl_Coding v0 v1 v2 v3 v4 z v6 := by
  simp only [fl_Coding, putF, ne_Coding_bits___zeros, ne_Coding__width___zeros, ne_Coding__low___zeros, ne_Coding__size___zeros, ne_Coding__whole___zeros, if_false, if_true, reduceIte]
theorem lk_Coding__zeros {v0 v1 v2 v3 v4 v5 v6 : V} : (fl_Coding v0 v1 v2 v3 v4 v5 v6).lookup ("_zeros" : Str) = some v5 := by
  have h := lookup_putF "_zeros" "_zeros" v5 (fl_Coding v0 v1 v2 v3 v4 v5 v6)
  rw [put_Coding__zeros, if_pos rfl] at h
  exact h
theorem put_Coding__ones {v0 v1 v2 v3 v4 v5 v6 : V} {z : V} : putF "_ones" z (fl_Coding v0 v1 v2 v3 v4 v5 v6) = fl_Coding v0 v1 v2 v3 v4 v5 z := by
  simp only [fl_Coding, putF, ne_Coding_bits___ones, ne_Coding__width___ones, ne_Coding__low___ones, ne_Coding__size___ones, ne_Coding__whole___ones, ne_Coding__zeros___ones, if_false, if_true, reduceIte]
theorem lk_Coding__ones {v0 v1 v2 v3 v4 v5 v6 : V} : (fl_Coding v0 v1 v2 v3 v4 v5 v6).lookup ("_ones" : Str) = some v6 := by
  have h := lookup_putF "_ones" "_ones" v6 (fl_Coding v0 v1 v2 v3 v4 v5 v6)
  rw [put_Coding__ones, if_pos rfl] at h
  exact h
theorem len_Coding {v0 v1 v2 v3 v4 v5 v6 : V} : (fl_Coding v0 v1 v2 v3 v4 v5 v6).length = 7 := rfl
theorem few_Coding {v0 v1 v2 v3 v4 v5 v6 : V} : (fl_Coding v0 v1 v2 v3 v4 v5 v6).length < 1000 := by
  show 7 < 1000
  decide
theorem ini_Coding {v0 v1 v2 v3 v4 v5 v6 : V} : putF "_ones" v6 (putF "_zeros" v5 (putF "_whole" v4 (putF "_size" v3 (putF "_low" v2 (putF "_width" v1 (putF "bits" v0 [])))))) = fl_Coding v0 v1 v2 v3 v4 v5 v6 := by
  simp only [fl_Coding, putF, ne_Coding_bits___width, ne_Coding_bits___low, ne_Coding_bits___size, ne_Coding_bits___whole, ne_Coding_bits___zeros, ne_Coding_bits___ones, ne_Coding__width___low, ne_Coding__width___size, ne_Coding__width___whole, ne_Coding__width___zeros, ne_Coding__width___ones, ne_Coding__low___size, ne_Coding__low___whole, ne_Coding__low___zeros, ne_Coding__low___ones, ne_Coding__size___whole, ne_Coding__size___zeros, ne_Coding__size___ones, ne_Coding__whole___zeros, ne_Coding__whole___ones, ne_Coding__zeros___ones, if_false, if_true, reduceIte]
theorem no_Coding___init__ {v0 v1 v2 v3 v4 v5 v6 : V} : (fl_Coding v0 v1 v2 v3 v4 v5 v6).lookup ("__init__" : Str) = none := by
  have q : ∀ (g : Str) (u : V) (r : List (Str × V)), ¬ g = "__init__" → List.lookup (Str.ofString "__init__") ((g, u) :: r) = List.lookup (Str.ofString "__init__") r := fun g u r h => by
    have hb : ((Str.ofString "__init__") == g) = false := beq_eq_false_iff_ne.mpr (fun z => h z.symm)
    simp only [List.lookup, hb]
  unfold fl_Coding
  rw [q _ _ _ (by rw [ne_Coding_bits____init__]; exact id), q _ _ _ (by rw [ne_Coding__width____init__]; exact id), q _ _ _ (by rw [ne_Coding__low____init__]; exact id), q _ _ _ (by rw [ne_Coding__size____init__]; exact id), q _ _ _ (by rw [ne_Coding__whole____init__]; exact id), q _ _ _ (by rw [ne_Coding__zeros____init__]; exact id), q _ _ _ (by rw [ne_Coding__ones____init__]; exact id)]
  rfl
theorem no_Coding_shares {v0 v1 v2 v3 v4 v5 v6 : V} : (fl_Coding v0 v1 v2 v3 v4 v5 v6).lookup ("shares" : Str) = none := by
  have q : ∀ (g : Str) (u : V) (r : List (Str × V)), ¬ g = "shares" → List.lookup (Str.ofString "shares") ((g, u) :: r) = List.lookup (Str.ofString "shares") r := fun g u r h => by
    have hb : ((Str.ofString "shares") == g) = false := beq_eq_false_iff_ne.mpr (fun z => h z.symm)
    simp only [List.lookup, hb]
  unfold fl_Coding
  rw [q _ _ _ (by rw [ne_Coding_bits__shares]; exact id), q _ _ _ (by rw [ne_Coding__width__shares]; exact id), q _ _ _ (by rw [ne_Coding__low__shares]; exact id), q _ _ _ (by rw [ne_Coding__size__shares]; exact id), q _ _ _ (by rw [ne_Coding__whole__shares]; exact id), q _ _ _ (by rw [ne_Coding__zeros__shares]; exact id), q _ _ _ (by rw [ne_Coding__ones__shares]; exact id)]
  rfl
theorem no_Coding_interval {v0 v1 v2 v3 v4 v5 v6 : V} : (fl_Coding v0 v1 v2 v3 v4 v5 v6).lookup ("interval" : Str) = none := by
  have q : ∀ (g : Str) (u : V) (r : List (Str × V)), ¬ g = "interval" → List.lookup (Str.ofString "interval") ((g, u) :: r) = List.lookup (Str.ofString "interval") r := fun g u r h => by
    have hb : ((Str.ofString "interval") == g) = false := beq_eq_false_iff_ne.mpr (fun z => h z.symm)
    simp only [List.lookup, hb]
  unfold fl_Coding
  rw [q _ _ _ (by rw [ne_Coding_bits__interval]; exact id), q _ _ _ (by rw [ne_Coding__width__interval]; exact id), q _ _ _ (by rw [ne_Coding__low__interval]; exact id), q _ _ _ (by rw [ne_Coding__size__interval]; exact id), q _ _ _ (by rw [ne_Coding__whole__interval]; exact id), q _ _ _ (by rw [ne_Coding__zeros__interval]; exact id), q _ _ _ (by rw [ne_Coding__ones__interval]; exact id)]
  rfl
theorem no_Coding_border {v0 v1 v2 v3 v4 v5 v6 : V} : (fl_Coding v0 v1 v2 v3 v4 v5 v6).lookup ("border" : Str) = none := by
  have q : ∀ (g : Str) (u : V) (r : List (Str × V)), ¬ g = "border" → List.lookup (Str.ofString "border") ((g, u) :: r) = List.lookup (Str.ofString "border") r := fun g u r h => by
    have hb : ((Str.ofString "border") == g) = false := beq_eq_false_iff_ne.mpr (fun z => h z.symm)
    simp only [List.lookup, hb]
  unfold fl_Coding
  rw [q _ _ _ (by rw [ne_Coding_bits__border]; exact id), q _ _ _ (by rw [ne_Coding__width__border]; exact id), q _ _ _ (by rw [ne_Coding__low__border]; exact id), q _ _ _ (by rw [ne_Coding__size__border]; exact id), q _ _ _ (by rw [ne_Coding__whole__border]; exact id), q _ _ _ (by rw [ne_Coding__zeros__border]; exact id), q _ _ _ (by rw [ne_Coding__ones__border]; exact id)]
  rfl
theorem no_Coding_take {v0 v1 v2 v3 v4 v5 v6 : V} : (fl_Coding v0 v1 v2 v3 v4 v5 v6).lookup ("take" : Str) = none := by
  have q : ∀ (g : Str) (u : V) (r : List (Str × V)), ¬ g = "take" → List.lookup (Str.ofString "take") ((g, u) :: r) = List.lookup (Str.ofString "take") r := fun g u r h => by
    have hb : ((Str.ofString "take") == g) = false := beq_eq_false_iff_ne.mpr (fun z => h z.symm)
    simp only [List.lookup, hb]
  unfold fl_Coding
  rw [q _ _ _ (by rw [ne_Coding_bits__take]; exact id), q _ _ _ (by rw [ne_Coding__width__take]; exact id), q _ _ _ (by rw [ne_Coding__low__take]; exact id), q _ _ _ (by rw [ne_Coding__size__take]; exact id), q _ _ _ (by rw [ne_Coding__whole__take]; exact id), q _ _ _ (by rw [ne_Coding__zeros__take]; exact id), q _ _ _ (by rw [ne_Coding__ones__take]; exact id)]
  rfl
/-- a Coding stands at x; its two lists of counts at z and o -/
structure Cod (C : Addr) (H : Hp) (x z o : Addr) (w : Nat) (bs : List Bool) : Prop where
  ob : ∃ dx, H x = some (.ins C dx (fl_Coding (.str (Bs.S bs)) (.int (w : Int)) (.int (Iv.lo w bs : Nat)) (.int (Iv.sz w bs : Nat)) (.int (Iv.wh w bs : Nat)) (.ref z) (.ref o)))
  hz : H z = some (.lst (Iv.zl w bs))
  ho : H o = some (.lst (Iv.ol w bs))
  zo : z ≠ o
theorem Cod.keep {C x z o : Addr} {H H' : Hp} {w : Nat} {bs : List Bool} (c : Cod C H x z o w bs) (s : Same H H') : Cod C H' x z o w bs := by
  obtain ⟨⟨dx, h1⟩, h2, h3, h4⟩ := c
  exact ⟨⟨dx, s _ _ h1⟩, s _ _ h2, s _ _ h3, h4⟩
theorem Cod.xz {C x z o : Addr} {H : Hp} {w : Nat} {bs : List Bool} (c : Cod C H x z o w bs) : x ≠ z ∧ x ≠ o := by
  obtain ⟨⟨dx, h1⟩, h2, h3, h4⟩ := c
  exact ⟨ne_of h1 h2 (by intro z; cases z), ne_of h1 h3 (by intro z; cases z)⟩
theorem nx_at {w : Nat} {bs : List Bool} {f : Nat → V} : atI ((List.range 16).map f) ((Iv.nx w bs : Nat) : Int) = some (f (Iv.nx w bs)) := by
  refine atI_nat ?_
  rw [List.getElem?_map, List.getElem?_range (show Iv.nx w bs < 16 from Cx_.ctx_lt w bs bs.length)]; rfl

theorem scx_OutOfRange : Sx.SupScope ["self", "name"] ["self", "name"] (defScope s_OutOfRange___init__) := ⟨rfl, rfl, rfl, by decide +kernel, rfl, by decide +kernel, by decide +kernel, by decide +kernel, rfl, rfl⟩
theorem ok_OutOfRange___init__ (T : Tx P K mg) : FnOk P w K mg base CX0 1 T.x_OutOfRange.a T.x_OutOfRange.d ["self", "name"] (Sx.sp1 T.x_OutOfRange.C "name") := by
  refine Sx.fn_sup (k := 0) T.x_OutOfRange.o T.x_OutOfRange.s scx_OutOfRange (fun vs H Q E h => ?_) rfl rfl rfl rfl (fun _ => rfl) (fun _ => ⟨_, rfl⟩) (fun _ => rfl) (fun cda cc A outer s H vs Q E h => ?_)
  · obtain ⟨a, z, rfl, _⟩ := h; rfl
  obtain ⟨a, z, rfl, hz, ha, q⟩ := h
  have hs : sizeLine = 16777216 := sizeLine_eq
  refine ⟨_, _, a, [.str z], pa_cons (pe_joined (PJ.cons (pe_fmt (pv 1)) (PJ.cons pe_str PJ.nil))) pa_nil, pss_one (ps_ost (pv 0) (pv 1)), rfl, ha, ?_⟩
  have l1 : ∀ x y : Str, (x ++ y).length = x.length + y.length := fun x y => Str.length_append x y
  refine ⟨.str z, rfl, .inl ⟨z, rfl, by omega, z, rfl, by rw [l1]; show 0 + _ ≤ _; omega, _, rfl, by rw [l1, l1]; show 0 + _ + 16 ≤ _; omega, by show 1 ≤ 1000; decide, ha, ?_⟩⟩
  exact ⟨.str z, rfl, .ref a, rfl, a, _, rfl, T.x_OutOfRange.o, T.nf_OutOfRange_name, .inl ⟨ha, fun dx hd hne => q dx hd hne⟩⟩

set_option hygiene false
local macro_rules | `(tactic| walk_at "go1") => `(tactic| (first
  | refine Gx.fp (by assumption) T.cl_Coding T.na_Coding_bits lk_Coding_bits ?_
  | refine Gx.fp (by assumption) T.cl_Coding T.na_Coding__width lk_Coding__width ?_
  | refine Gx.fp (by assumption) T.cl_Coding T.na_Coding__low lk_Coding__low ?_
  | refine Gx.fp (by assumption) T.cl_Coding T.na_Coding__size lk_Coding__size ?_
  | refine Gx.fp (by assumption) T.cl_Coding T.na_Coding__whole lk_Coding__whole ?_
  | refine Gx.fp (by assumption) T.cl_Coding T.na_Coding__zeros lk_Coding__zeros ?_
  | refine Gx.fp (by assumption) T.cl_Coding T.na_Coding__ones lk_Coding__ones ?_))
set_option hygiene true
/-- the law's own: True, whatever the script -/
def spLaw (K : PySem.W.Frag) : Sp := fun vs H Q _ => ∃ (a : Addr) (ns : List Int), vs = [.ref a] ∧ SqL K H a (ns.map V.int) ∧ ns.length ≤ 63 ∧ (∀ z ∈ ns, Builtin.Int.intBits z ≤ 1048576) ∧ ∀ H', Q (.bl true) H' 
def sp_first_with_one : Sp := fun vs H Q _ => ∃ (p : List Bool) (n : Nat), vs = [.str (Bs.S p), .int (n : Int)] ∧ p.length ≤ 1000 ∧ n ≤ 1000 ∧ Q (.str (Bs.S (p ++ true :: List.replicate n false))) H

theorem sc_first_with_one : FnScope ["bits", "more"] ["bits", "more"] (defScope s_first_with_one) := ⟨rfl, rfl, rfl, by decide +kernel, rfl, by decide +kernel, by decide +kernel⟩
theorem ok_first_with_one (T : Tx P K mg) : FnOk P w K mg base CX0 1 T.first_with_one.a T.first_with_one.d ["bits", "more"] (sp_first_with_one) := by
  refine T.first_with_one.f.ok sc_first_with_one (fun vs H Q E h => ?_) (fun cdv A outer s H vs Q E hr h => ⟨_, pss_one (ps_ret (pe_op Gx.o_addS (pe_op Gx.o_addS (pv 0) (pe_str)) (pe_op Mu.o_mulS (pe_str) (pv 1)))), ?_⟩)
  · obtain ⟨p, n, rfl, _⟩ := h
    rfl
  · skip
    obtain ⟨p, n, rfl, hp, hn, q⟩ := h
    walk_at "go"
    rw [Bs.lit0]
    refine Gx.addS (by rw [Bs.len]; try rw [Bs.lit1]; 
                       rw [Bs.len, sizeLine_eq]; show _ + 1 ≤ _; omega) ?_
    try rw [Bs.lit1]
    rw [Bs.cat]
    walk_at "go"
    refine Mu.mulB (by decide) (by omega) ?_
    refine Gx.addS (by rw [Bs.len, Bs.len, Mu.flat1, List.length_append, List.length_replicate, sizeLine_eq]; show _ + 1 + _ ≤ _; omega) ?_
    rw [Bs.cat, Mu.flat1, List.append_assoc]
    exact q

theorem cp_first_with_one {p : List Bool} {n : Int} {H : Hp} {Q : VK} {E : XK} (hp : p.length ≤ 1000) (h0 : 0 ≤ n) (hn : n ≤ 1000) (q : Q (.str (Bs.S (p ++ true :: List.replicate n.toNat false))) H) : Gx.CP sp_first_with_one [.str (Bs.S p), .int n] [] H Q E := ⟨p, n.toNat, by rw [List.append_nil, Int.toNat_of_nonneg h0], hp, by omega, q⟩

def sp_last_with_zero : Sp := fun vs H Q _ => ∃ (p : List Bool) (n : Nat), vs = [.str (Bs.S p), .int (n : Int)] ∧ p.length ≤ 1000 ∧ n ≤ 1000 ∧ Q (.str (Bs.S (p ++ false :: List.replicate n true))) H

theorem sc_last_with_zero : FnScope ["bits", "more"] ["bits", "more"] (defScope s_last_with_zero) := ⟨rfl, rfl, rfl, by decide +kernel, rfl, by decide +kernel, by decide +kernel⟩
theorem ok_last_with_zero (T : Tx P K mg) : FnOk P w K mg base CX0 1 T.last_with_zero.a T.last_with_zero.d ["bits", "more"] (sp_last_with_zero) := by
  refine T.last_with_zero.f.ok sc_last_with_zero (fun vs H Q E h => ?_) (fun cdv A outer s H vs Q E hr h => ⟨_, pss_one (ps_ret (pe_op Gx.o_addS (pe_op Gx.o_addS (pv 0) (pe_str)) (pe_op Mu.o_mulS (pe_str) (pv 1)))), ?_⟩)
  · obtain ⟨p, n, rfl, _⟩ := h
    rfl
  · skip
    obtain ⟨p, n, rfl, hp, hn, q⟩ := h
    walk_at "go"
    rw [Bs.lit0]
    refine Gx.addS (by rw [Bs.len]; try rw [Bs.lit1]; 
                       rw [Bs.len, sizeLine_eq]; show _ + 1 ≤ _; omega) ?_
    try rw [Bs.lit1]
    rw [Bs.cat]
    walk_at "go"
    refine Mu.mulB (by decide) (by omega) ?_
    refine Gx.addS (by rw [Bs.len, Bs.len, Mu.flat1, List.length_append, List.length_replicate, sizeLine_eq]; show _ + 1 + _ ≤ _; omega) ?_
    rw [Bs.cat, Mu.flat1, List.append_assoc]
    exact q

theorem cp_last_with_zero {p : List Bool} {n : Int} {H : Hp} {Q : VK} {E : XK} (hp : p.length ≤ 1000) (h0 : 0 ≤ n) (hn : n ≤ 1000) (q : Q (.str (Bs.S (p ++ false :: List.replicate n.toNat true))) H) : Gx.CP sp_last_with_zero [.str (Bs.S p), .int n] [] H Q E := ⟨p, n.toNat, by rw [List.append_nil, Int.toNat_of_nonneg h0], hp, by omega, q⟩

def sp_sample_of : Sp := fun vs H Q _ => ∃ (p : List Bool) (m j : Nat) (b : Bool), vs = [.str (Bs.S p), .int (m : Int), .int (j : Int), .str (Bs.S [b])] ∧ p.length ≤ m ∧ m ≤ 1000 ∧ j < m ∧ Q (.str (Bs.S (Kn.sampleOf m p j b))) H

theorem sc_sample_of : FnScope ["prefix", "count", "place", "bit", "more", "lower"] ["prefix", "count", "place", "bit"] (defScope s_sample_of) := ⟨rfl, rfl, rfl, by decide +kernel, rfl, by decide +kernel, by decide +kernel⟩
theorem ok_sample_of (T : Tx P K mg) : FnOk P w K mg base CX0 2 T.sample_of.a T.sample_of.d ["prefix", "count", "place", "bit"] (sp_sample_of) := by
  refine T.sample_of.f.ok sc_sample_of (fun vs H Q E h => ?_) (fun cdv A outer s H vs Q E hr h => ⟨_, pss_cons (ps_if (pt_cmpR op_eq (pe_callB (Gx.c_lenK (K := K) rfl) rfl T.n_len (by decide +kernel) (pa_cons (pv 0) pa_nil)) (pv 1) (nomark _)) (pss_one (ps_ret (pv 0))) (pss_nil))
      (pss_cons (ps_set (i := 4) sc_sample_of.nd rfl (Or.inl rfl) (pe_op op_sub (pe_op op_sub (pv 1) (pe_callB (Gx.c_lenK (K := K) rfl) rfl T.n_len (by decide +kernel) (pa_cons (pv 0) pa_nil))) (pe_int)))
      (pss_cons (ps_set (i := 5) sc_sample_of.nd rfl (Or.inl rfl) (pe_call (ok_last_with_zero T) (hr.mono (by decide)) rfl T.last_with_zero.g T.last_with_zero.f.kp T.last_with_zero.b .nil pass0 (pa_cons (pv 0) (pa_cons (pv 4) pa_nil))))
      (pss_one (ps_ret (pe_ifExp (pt_cmpR op_eq (pe_ix (Gx.ix_seqK (K := K) rfl) (pv 5) (pv 2) (fun _ _ => rfl)) (pv 3) (nomark _)) (pv 5) (pe_call (ok_first_with_one T) (hr.mono (by decide)) rfl T.first_with_one.g T.first_with_one.f.kp T.first_with_one.b .nil pass0 (pa_cons (pv 0) (pa_cons (pv 4) pa_nil)))))))), ?_⟩)
  · obtain ⟨p, m, j, b, rfl, _⟩ := h
    rfl
  · skip
    obtain ⟨p, m, j, b, rfl, hp, hm, hj, q⟩ := h
    unfold Kn.sampleOf at q
    walk_at "go"
    refine Bs.lenB (by omega) ?_
    walk_at "go"
    refine Gx.if_d (fun e => ?_) (fun e => ?_)
    · walk_at "go"
      rw [if_pos (by omega)] at q
      exact q
    rw [if_neg (by omega)] at q
    have em : ((m : Int) - (p.length : Int) - 1).toNat = m - p.length - 1 := by omega
    have ll := Kn.lower_len (m := m) (p := p) (by omega)
    walk_at "go"
    refine Bs.lenB (by omega) ?_
    walk_at "go"
    refine cp_last_with_zero (by omega) (by omega) (by omega) ?_
    rw [em]
    walk_at "go"
    refine Bs.ix (bs := Kn.lower m p) (by omega) (by omega) (by omega) ?_
    rw [Int.toNat_natCast]
    walk_at "go"
    rw [show decide (Bs.S [(Kn.lower m p).getD j false] = Bs.S [b]) = decide ((Kn.lower m p).getD j false = b) from decide_eq_decide.mpr ⟨fun h => by have := Bs.inj.mp h; injection this, fun h => by rw [h]⟩]
    refine Gx.if_d (fun e2 => ?_) (fun e2 => ?_)
    · walk_at "go"
      rw [if_pos e2] at q
      exact q
    · walk_at "go"
      rw [if_neg e2] at q
      refine cp_first_with_one (by omega) (by omega) (by omega) ?_
      rw [em]
      exact q

theorem cp_sample_of {p : List Bool} {m j : Int} {b : Bool} {H : Hp} {Q : VK} {E : XK} (hp : (p.length : Int) ≤ m) (hm : m ≤ 1000) (h0 : 0 ≤ j) (hj : j < m) (q : Q (.str (Bs.S (Kn.sampleOf m.toNat p j.toNat b))) H) : Gx.CP sp_sample_of [.str (Bs.S p), .int m, .int j, .str (Bs.S [b])] [] H Q E :=
  ⟨p, m.toNat, j.toNat, b, by rw [List.append_nil, Int.toNat_of_nonneg (by omega), Int.toNat_of_nonneg h0], by omega, by omega, by omega, q⟩

/-- the lowest binary digits -/
def sp_digits_of : Sp := fun vs H Q _ => ∃ (v c : Nat), vs = [.int (v : Int), .int (c : Int)] ∧ c ≤ 10000 ∧ Q (.str (Bs.S (Fb.bin c v))) H

theorem sc_digits_of : FnScope ["value", "count", "power", "led", "digits"] ["value", "count"] (defScope s_digits_of) := ⟨rfl, rfl, rfl, by decide +kernel, rfl, by decide +kernel, by decide +kernel⟩
theorem ok_digits_of (T : Tx P K mg) : FnOk P w K mg base CX0 1 T.digits_of.a T.digits_of.d ["value", "count"] (sp_digits_of) := by
  refine T.digits_of.f.ok sc_digits_of (fun vs H Q E h => ?_) (fun cdv A outer s H vs Q E hr h => ⟨_, pss_cons (ps_set (i := 2) sc_digits_of.nd rfl (Or.inl rfl) (pe_op op_shl (pe_int) (pv 1)))
      (pss_cons (ps_set (i := 3) sc_digits_of.nd rfl (Or.inl rfl) (pe_op op_add (pv 2) (pe_op op_mod (pv 0) (pv 2))))
      (pss_cons (ps_set (i := 4) sc_digits_of.nd rfl (Or.inl rfl) (pe_joined1 (Fb.pe_fmtB (pv 3))))
      (pss_one (ps_ret (pe_slice sl_str (pv 4) (po_some (pe_int)) po_none))))), ?_⟩)
  · obtain ⟨v, c, rfl, _⟩ := h
    rfl
  · skip
    obtain ⟨v, c, rfl, hc, q⟩ := h
    walk_at "go"
    refine Gx.ic ⟨by omega, by omega, by decide⟩ ?_
    rw [Gy.pw]
    walk_at "go"
    refine Gx.ic (Int.natCast_pos.mpr (Nat.two_pow_pos c)) ?_
    walk_at "go"
    refine Fb.fmt ?_
    walk_at "go"
    refine Fb.fbp (k := c) (r := v % 2 ^ c) (by rw [Int.natCast_add, Int.natCast_emod]) (Nat.mod_lt _ (Nat.two_pow_pos c)) (by omega) ?_
    walk_at "go"
    refine Gx.slS (by rw [Bs.len, List.length_cons, Fb.bin_len, sizeLine_eq]; omega) ?_
    rw [show cutS (Bs.S (true :: Fb.bin c (v % 2 ^ c))) (some 1) none = Bs.S (Fb.bin c v) by rw [show (1 : Int) = ((1 : Nat) : Int) from rfl, Bs.cut_lo, Fb.bin_mod]; rfl]
    exact q

theorem cp_digits_of {v c : Int} {H : Hp} {Q : VK} {E : XK} (h0 : 0 ≤ v) (h1 : 0 ≤ c) (h2 : c ≤ 10000) (q : Q (.str (Bs.S (Fb.bin c.toNat v.toNat))) H) : Gx.CP sp_digits_of [.int v, .int c] [] H Q E :=
  ⟨v.toNat, c.toNat, by rw [List.append_nil, Int.toNat_of_nonneg h0, Int.toNat_of_nonneg h1], by omega, q⟩

def sp_shortest_cell : Sp := fun vs H Q _ => ∃ (l s h : Nat), vs = [.int (l : Int), .int (s : Int), .int (h : Int)] ∧ 0 < s ∧ l + s ≤ h ∧ h ≤ 2 ^ 3000 ∧ Q (.str (Bs.S (Fb.bin (Cd.klen l s h) (Cd.ceil l h (Cd.klen l s h))))) H

theorem sc_shortest_cell : FnScope ["low", "size", "whole", "count", "value"] ["low", "size", "whole"] (defScope s_shortest_cell) := ⟨rfl, rfl, rfl, by decide +kernel, rfl, by decide +kernel, by decide +kernel⟩
theorem ok_shortest_cell (T : Tx P K mg) : FnOk P w K mg base CX0 2 T.shortest_cell.a T.shortest_cell.d ["low", "size", "whole"] (sp_shortest_cell) := by
  refine T.shortest_cell.f.ok sc_shortest_cell (fun vs H Q E h => ?_) (fun cdv A outer s H vs Q E hr h => ⟨_, pss_cons (ps_set (i := 3) sc_shortest_cell.nd rfl (Or.inl rfl) (pe_bits (pe_op op_fdivW (pe_op op_sub (pv 2) (pe_int)) (pv 1))))
      (pss_one (ps_while PassesOwn.never (pt_val (pe_bl))
      (pss_cons (ps_set (i := 4) sc_shortest_cell.nd rfl (Or.inl rfl) (pe_op op_fdivW (pe_op op_sub (pe_op op_add (pe_op op_shlW (pv 0) (pv 3)) (pv 2)) (pe_int)) (pv 2)))
      (pss_cons (ps_if (pt_cmpR op_le (pe_op op_mulW (pe_op op_add (pv 4) (pe_int)) (pv 2)) (pe_op op_shlW (pe_op op_add (pv 0) (pv 1)) (pv 3)) (nomark _)) (pss_one (ps_ret (pe_call (ok_digits_of T) (hr.mono (by decide)) rfl T.digits_of.g T.digits_of.f.kp T.digits_of.b .nil pass0 (pa_cons (pv 4) (pa_cons (pv 3) pa_nil))))) (pss_nil))
      (pss_one (ps_aug (i := 3) sc_shortest_cell.nd rfl (Or.inl rfl) (pe_int) ip_add)))))), ?_⟩)
  · obtain ⟨l, s, h, rfl, _⟩ := h
    rfl
  · skip
    obtain ⟨l, s, h, rfl, hs, hl, hh, q⟩ := h
    have hpos : 0 < h := by omega
    have hK := Cd.klen_small (l := l) hs hpos hl hh
    have wl : ∀ {x : Nat} {k : Nat}, x < 2 ^ k → (x : Int).natAbs < 2 ^ k := fun h => by rw [Int.natAbs_natCast]; exact h
    have h3000 : h < 2 ^ 3001 := Nat.lt_of_le_of_lt hh (Nat.pow_lt_pow_right (by decide) (by decide))
    walk_at "go"
    refine Gx.bits ?_
    walk_at "go"
    refine Gx.ic (wide_div (b := 3001) (by omega) (wl (by omega)) (by decide) (by decide)) ?_
    rw [show ((h : Int) - 1) / (s : Int) = (((h - 1) / s : Nat) : Int) by rw [Int.natCast_ediv]; congr 1; omega]
    refine Gx.bip ?_
    have hk0 : ∀ i, i < Builtin.Int.intBits (((h - 1) / s : Nat) : Int) → Cd.fit l s h i = false := fun i hi => Cd.bits_below hs hpos hi
    walk_at "go"
    refine Gx.whl (fun m σ' H' => H' = H ∧ ∃ (k : Nat) (vv : Option V), m + k = Cd.klen l s h ∧ (∀ i, i < k → Cd.fit l s h i = false) ∧ σ' = [some (.int (l : Int)), some (.int (s : Int)), some (.int (h : Int)), some (.int (k : Int)), vv]) (Cd.klen l s h - Builtin.Int.intBits (((h - 1) / s : Nat) : Int))
      ⟨rfl, Builtin.Int.intBits (((h - 1) / s : Nat) : Int), none, ?_, hk0, rfl⟩ ?_
    · have : ¬ Cd.klen l s h < Builtin.Int.intBits (((h - 1) / s : Nat) : Int) := fun z => by
        have a := hk0 _ z
        rw [(Cd.klen_spec (l := l) hs hpos).1] at a; cases a
      omega
    rintro m σ' H' ⟨rfl, k, vv, hmk, hno, rfl⟩
    walk_at "go"
    have hsh : ∀ {x : Nat}, x < 2 ^ 3001 → CShl (x : Int) (k : Int) := fun hx => shl_ok (n := 3001) (wl hx) (by omega)
    refine Gx.ic (hsh (by omega)) ?_
    have hc : ((l : Int) * 2 ^ ((k : Nat) : Int).toNat + (h : Int) - 1) / (h : Int) = ((Cd.ceil l h k : Nat) : Int) := by
      unfold Cd.ceil
      rw [Int.toNat_natCast, Int.natCast_ediv]
      congr 1
      have e : ((l * 2 ^ k : Nat) : Int) = (l : Int) * 2 ^ k := by rw [Int.natCast_mul, Int.natCast_pow]; rfl
      omega
    walk_at "go"
    refine Gx.ic (wide_div (b := 3001) (by omega) (wl h3000) (by decide) (by decide)) ?_
    rw [hc]
    walk_at "go"
    have hcl := Cd.ceil_lt (l := l) (k := k) hpos
    have hb : Cd.ceil l h k + 1 < 2 ^ (6010) := by
      have e1 : Cd.ceil l h k ≤ Cd.ceil l h k * h := Nat.le_mul_of_pos_right _ hpos
      have e2 : l * 2 ^ k ≤ 2 ^ 3001 * 2 ^ 3002 := Nat.mul_le_mul (by omega) (Nat.pow_le_pow_right (by decide) (by omega))
      rw [← Nat.pow_add] at e2
      have e3 : (2 : Nat) ^ 6010 = 2 ^ 6003 * 128 := by rw [show 6010 = 6003 + 7 from rfl, Nat.pow_add]
      have e4 : (2 : Nat) ^ 3001 ≤ 2 ^ 6003 := Nat.pow_le_pow_right (by decide) (by decide)
      omega
    refine Gx.ic (wide_mul (a := 6010) (b := 3001) (wl (x := Cd.ceil l h k + 1) hb) (wl h3000) (by decide) (by decide) (by decide)) ?_
    walk_at "go"
    refine Gx.ic (hsh (x := l + s) (by omega)) ?_
    walk_at "go"
    have hd : decide ((((Cd.ceil l h k : Nat) : Int) + 1) * (h : Int) ≤ ((l : Int) + (s : Int)) * 2 ^ ((k : Nat) : Int).toNat) = Cd.fit l s h k := by
      unfold Cd.fit
      refine decide_eq_decide.mpr ?_
      rw [Int.toNat_natCast, show (((Cd.ceil l h k : Nat) : Int) + 1) * (h : Int) = (((Cd.ceil l h k + 1) * h : Nat) : Int) by rw [Int.natCast_mul]; rfl, show ((l : Int) + (s : Int)) * 2 ^ k = (((l + s) * 2 ^ k : Nat) : Int) by rw [Int.natCast_mul, Int.natCast_pow]; rfl]
      exact Int.ofNat_le
    rw [hd]
    refine Gx.if_b (fun hf => ?_) (fun hf => ?_)
    · have ek := Cd.klen_eq hs hpos hf hno
      walk_at "go"
      refine cp_digits_of (by omega) (by omega) (by omega) ?_
      rw [Int.toNat_natCast, Int.toNat_natCast, ek]
      exact q
    · have hlt : k < Cd.klen l s h := by
        rcases Nat.lt_or_ge k (Cd.klen l s h) with z | z
        · exact z
        · have e : k = Cd.klen l s h := by omega
          rw [e, (Cd.klen_spec (l := l) hs hpos).1] at hf; cases hf
      walk_at "go"
      refine ⟨m - 1, by omega, rfl, k + 1, _, by omega, fun i hi => ?_, rfl⟩
      by_cases e : i = k
      · subst e; exact hf
      · exact hno i (by omega)

theorem cp_shortest_cell {l s h : Nat} {H : Hp} {Q : VK} {E : XK} (hs : 0 < s) (hl : l + s ≤ h) (hh : h ≤ 2 ^ 3000) (q : Q (.str (Bs.S (Fb.bin (Cd.klen l s h) (Cd.ceil l h (Cd.klen l s h))))) H) : Gx.CP sp_shortest_cell [.int (l : Int), .int (s : Int), .int (h : Int)] [] H Q E := ⟨l, s, h, rfl, hs, hl, hh, q⟩

def sp_Coding_interval (C : Addr) : Sp := fun vs H Q _ => ∃ (x z o : Addr) (w : Nat) (bs : List Bool), vs = [.ref x] ∧ Cod C H x z o w bs ∧
  ∀ (p : Addr), H p = none → Q (.ref p) (upd H p (.tup [.int (Iv.lo w bs : Nat), .int (Iv.sz w bs : Nat), .int (Iv.wh w bs : Nat)]))

theorem sc_Coding_interval : FnScope ["self"] ["self"] (defScope s_Coding_interval) := ⟨rfl, rfl, rfl, by decide +kernel, rfl, by decide +kernel, by decide +kernel⟩
theorem ok_Coding_interval (T : Tx P K mg) : FnOk P w K mg base CX0 1 T.Coding_interval.a T.Coding_interval.d ["self"] (sp_Coding_interval T.a_Coding) := by
  refine T.Coding_interval.f.ok sc_Coding_interval (fun vs H Q E h => ?_) (fun cdv A outer s H vs Q E hr h => ⟨_, pss_one (ps_ret (pe_tup (pa_cons (pe_fld (pv 0) rfl) (pa_cons (pe_fld (pv 0) rfl) (pa_cons (pe_fld (pv 0) rfl) pa_nil))))), ?_⟩)
  · obtain ⟨x, z, o, w, bs, rfl, _⟩ := h
    rfl
  · skip
    obtain ⟨x, z, o, w, bs, rfl, ⟨⟨dx, hx⟩, hz, ho, hzo⟩, q⟩ := h
    walk_at "go"
    exact Gx.tupP (by show 3 ≤ sizeLine; decide) q

theorem cp_Coding_interval {C x z o : Addr} {w : Nat} {bs : List Bool} {H : Hp} {Q : VK} {E : XK} (c : Cod C H x z o w bs)
    (q : ∀ (p : Addr), H p = none → Q (.ref p) (upd H p (.tup [.int (Iv.lo w bs : Nat), .int (Iv.sz w bs : Nat), .int (Iv.wh w bs : Nat)]))) : Gx.CP (sp_Coding_interval C) [.ref x] [] H Q E := ⟨x, z, o, w, bs, rfl, c, q⟩

/-- the context of a place -/
def sp_context : Sp := fun vs H Q _ => ∃ (w n : Nat) (bs : List Bool), vs = [.int (w : Int), .str (Bs.S bs), .int (n : Int)] ∧ 0 < w ∧ n ≤ bs.length ∧ bs.length ≤ 100000 ∧ Q (.int (Cx_.ctx w bs n : Nat)) H

theorem sc_context : FnScope ["width", "bits", "place", "column", "total"] ["width", "bits", "place"] (defScope s_context) := ⟨rfl, rfl, rfl, by decide +kernel, rfl, by decide +kernel, by decide +kernel⟩
theorem ok_context (T : Tx P K mg) : FnOk P w K mg base CX0 1 T.context.a T.context.d ["width", "bits", "place"] (sp_context) := by
  refine T.context.f.ok sc_context (fun vs H Q E h => ?_) (fun cdv A outer s H vs Q E hr h => ⟨_, pss_cons (ps_set (i := 3) sc_context.nd rfl (Or.inl rfl) (pe_op op_mod (pv 2) (pv 0)))
      (pss_cons (ps_set (i := 4) sc_context.nd rfl (Or.inl rfl) (pe_int))
      (C8.pss_cut (ps_if (PW.pt (pw_and (pt_cmpR op_ne (pv 3) (pe_int) (nomark _)) (pw_and1 (pt_cmpR op_eq (pe_ix (Gx.ix_seqK (K := K) rfl) (pv 1) (pe_op op_sub (pv 2) (pe_int)) (fun _ _ => rfl)) (pe_str) (nomark _))))) (pss_one (ps_aug (i := 4) sc_context.nd rfl (Or.inl rfl) (pe_int) ip_add)) (pss_nil))
      (C8.pss_cut (ps_if (pt_cmpR op_ge (pv 2) (pv 0) (nomark _)) (C8.pss_cut (ps_if (PW.pt (pw_and (pt_cmpR op_ne (pv 3) (pe_int) (nomark _)) (pw_and1 (pt_cmpR op_eq (pe_ix (Gx.ix_seqK (K := K) rfl) (pv 1) (pe_op op_sub (pe_op op_sub (pv 2) (pv 0)) (pe_int)) (fun _ _ => rfl)) (pe_str) (nomark _))))) (pss_one (ps_aug (i := 4) sc_context.nd rfl (Or.inl rfl) (pe_int) ip_add)) (pss_nil))
      (C8.pss_cut (ps_if (pt_cmpR op_eq (pe_ix (Gx.ix_seqK (K := K) rfl) (pv 1) (pe_op op_sub (pv 2) (pv 0)) (fun _ _ => rfl)) (pe_str) (nomark _)) (pss_one (ps_aug (i := 4) sc_context.nd rfl (Or.inl rfl) (pe_int) ip_add)) (pss_nil))
      (pss_one (ps_if (PW.pt (pw_and (pt_cmpR op_lt (pv 3) (pe_op op_sub (pv 0) (pe_int)) (nomark _)) (pw_and1 (pt_cmpR op_eq (pe_ix (Gx.ix_seqK (K := K) rfl) (pv 1) (pe_op op_add (pe_op op_sub (pv 2) (pv 0)) (pe_int)) (fun _ _ => rfl)) (pe_str) (nomark _))))) (pss_one (ps_aug (i := 4) sc_context.nd rfl (Or.inl rfl) (pe_int) ip_add)) (pss_nil))))) (pss_nil))
      (pss_one (ps_ret (pv 4)))))), ?_⟩)
  · obtain ⟨w, n, bs, rfl, _⟩ := h
    rfl
  · skip
    obtain ⟨w, n, bs, rfl, hw, hn, hb, q⟩ := h
    walk_at "go"
    refine Gx.ic (by omega) ?_
    have hc : (n : Int) % (w : Int) = ((n % w : Nat) : Int) := by omega
    have hml := Nat.mod_lt n hw
    rw [hc]
    walk_at "go"
    have nz : (!decide (((n % w : Nat) : Int) = 0)) = decide (n % w ≠ 0) := by
      rw [← decide_not]; exact decide_eq_decide.mpr (by omega)
    refine Gx.cut (fun σ' H' => H' = H ∧ σ' = [some (.int (w : Int)), some (.str (Bs.S bs)), some (.int (n : Int)), some (.int ((n % w : Nat) : Int)), some (.int ((if n % w ≠ 0 ∧ bs.getD (n - 1) false = true then 1 else 0 : Nat) : Int))]) ?_ ?_
    · walk_at "go"
      rw [nz]
      refine Gx.if_d (fun h1 => ?_) (fun h1 => ?_)
      · walk_at "go"
        have hne : n ≠ 0 := fun e => h1 (by rw [e, Nat.zero_mod])
        refine Bs.ix (by omega) (by omega) (by omega) ?_
        rw [show ((n : Int) - 1).toNat = n - 1 by omega]
        walk_at "go"
        rw [Bs.eq1]
        refine Gx.if_b (fun h2 => ?_) (fun h2 => ?_)
        · walk_at "go"
          refine ⟨rfl, ?_⟩
          rw [if_pos ⟨h1, h2⟩]; rfl
        · walk_at "go"
          refine ⟨rfl, ?_⟩
          rw [if_neg (fun z => by rw [h2] at z; exact absurd z.2 (by decide))]; rfl
      · walk_at "go"
        refine ⟨rfl, ?_⟩
        rw [if_neg (fun z => h1 z.1)]; rfl
    · rintro σ' H' ⟨rfl, rfl⟩
      generalize ht : (if n % w ≠ 0 ∧ bs.getD (n - 1) false = true then 1 else 0 : Nat) = t
      refine Gx.cut (fun σ' H2 => H2 = H' ∧ σ' = [some (.int (w : Int)), some (.str (Bs.S bs)), some (.int (n : Int)), some (.int ((n % w : Nat) : Int)), some (.int ((Cx_.ctx w bs n : Nat) : Int))]) ?_ ?_
      · walk_at "go"
        refine Gx.if_d (fun h1 => ?_) (fun h1 => ?_)
        · refine Gx.cut (fun σ' H2 => H2 = H' ∧ σ' = [some (.int (w : Int)), some (.str (Bs.S bs)), some (.int (n : Int)), some (.int ((n % w : Nat) : Int)), some (.int ((t + (if n % w ≠ 0 ∧ bs.getD (n - w - 1) false = true then 2 else 0) : Nat) : Int))]) ?_ ?_
          · walk_at "go"
            rw [nz]
            refine Gx.if_d (fun h1 => ?_) (fun h1 => ?_)
            · walk_at "go"
              have hne : n ≠ w := fun e => h1 (by rw [e, Nat.mod_self])
              refine Bs.ix (by omega) (by omega) (by omega) ?_
              rw [show ((n : Int) - (w : Int) - 1).toNat = n - w - 1 by omega]
              walk_at "go"
              rw [Bs.eq1]
              refine Gx.if_b (fun h2 => ?_) (fun h2 => ?_)
              · walk_at "go"
                refine ⟨rfl, ?_⟩
                rw [if_pos ⟨h1, h2⟩]; rfl
              · walk_at "go"
                refine ⟨rfl, ?_⟩
                rw [if_neg (fun z => by rw [h2] at z; exact absurd z.2 (by decide))]; rfl
            · walk_at "go"
              refine ⟨rfl, ?_⟩
              rw [if_neg (fun z => h1 z.1)]; rfl
          · rintro σ' H2 ⟨rfl, rfl⟩
            generalize ht2 : (t + (if n % w ≠ 0 ∧ bs.getD (n - w - 1) false = true then 2 else 0) : Nat) = t2
            refine Gx.cut (fun σ' H3 => H3 = H2 ∧ σ' = [some (.int (w : Int)), some (.str (Bs.S bs)), some (.int (n : Int)), some (.int ((n % w : Nat) : Int)), some (.int ((t2 + (if bs.getD (n - w) false = true then 4 else 0) : Nat) : Int))]) ?_ ?_
            · walk_at "go"
              refine Bs.ix (by omega) (by omega) (by omega) ?_
              rw [show ((n : Int) - (w : Int)).toNat = n - w by omega]
              walk_at "go"
              rw [Bs.eq1]
              refine Gx.if_b (fun h2 => ?_) (fun h2 => ?_)
              · walk_at "go"
                refine ⟨rfl, ?_⟩
                rw [if_pos h2]; rfl
              · walk_at "go"
                refine ⟨rfl, ?_⟩
                rw [if_neg (by rw [h2]; decide)]; rfl
            · rintro σ' H3 ⟨rfl, rfl⟩
              generalize ht3 : (t2 + (if bs.getD (n - w) false = true then 4 else 0) : Nat) = t3
              have fin : ∀ c : Bool, (n % w < w - 1 ∧ bs.getD (n - w + 1) false = true ↔ c = true) → Cx_.ctx w bs n = t3 + (if c = true then 8 else 0) := fun c hc => by
                unfold Cx_.ctx
                rw [if_pos (show w ≤ n by omega), ht]
                have e : (if n % w < w - 1 ∧ bs.getD (n - w + 1) false = true then 8 else 0) = (if c = true then 8 else 0 : Nat) := by
                  by_cases h : c = true
                  · rw [if_pos (hc.mpr h), if_pos h]
                  · rw [if_neg (fun z => h (hc.mp z)), if_neg h]
                rw [e]; omega
              walk_at "go"
              refine Gx.if_d (fun h1 => ?_) (fun h1 => ?_)
              · walk_at "go"
                refine Bs.ix (by omega) (by omega) (by omega) ?_
                rw [show ((n : Int) - (w : Int) + 1).toNat = n - w + 1 by omega]
                walk_at "go"
                rw [Bs.eq1]
                refine Gx.if_b (fun h2 => ?_) (fun h2 => ?_)
                · walk_at "go"
                  refine ⟨rfl, ?_⟩
                  rw [fin true (by rw [h2]; constructor <;> intro _ <;> first | trivial | exact ⟨by omega, rfl⟩)]; rfl
                · walk_at "go"
                  refine ⟨rfl, ?_⟩
                  rw [fin false (by rw [h2]; constructor <;> intro z <;> first | exact absurd z.2 (by decide) | exact absurd z (by decide))]; rfl
              · walk_at "go"
                refine ⟨rfl, ?_⟩
                rw [fin false ⟨fun z => absurd z.1 (by omega), fun z => absurd z (by decide)⟩]; rfl
        · walk_at "go"
          refine ⟨rfl, ?_⟩
          unfold Cx_.ctx
          rw [if_neg (show ¬ w ≤ n by omega), ht]; rfl
      · rintro σ' H2 ⟨rfl, rfl⟩
        walk_at "go"
        exact q

theorem cp_context {w n : Int} {bs : List Bool} {H : Hp} {Q : VK} {E : XK} (hw : 0 < w) (h0 : 0 ≤ n) (hn : n ≤ bs.length) (hb : bs.length ≤ 100000) (q : Q (.int (Cx_.ctx w.toNat bs n.toNat : Nat)) H) : Gx.CP sp_context [.int w, .str (Bs.S bs), .int n] [] H Q E :=
  ⟨w.toNat, n.toNat, bs, by rw [List.append_nil, Int.toNat_of_nonneg h0, Int.toNat_of_nonneg (Int.le_of_lt hw)], by omega, by omega, hb, q⟩

def sp_Coding_take (C : Addr) : Sp := fun vs H Q _ => ∃ (x z o : Addr) (w : Nat) (bs : List Bool) (b : Bool), vs = [.ref x, .str (Bs.S [b])] ∧ Cod C H x z o w bs ∧ 0 < w ∧ bs.length ≤ 100000 ∧
  ∀ H', Cod C H' x z o w (bs ++ [b]) → (∀ c, c ≠ x → c ≠ z → c ≠ o → H' c = H c) → Q .non H'

theorem sc_Coding_take : FnScope ["self", "bit", "here", "zeros", "ones"] ["self", "bit"] (defScope s_Coding_take) := ⟨rfl, rfl, rfl, by decide +kernel, rfl, by decide +kernel, by decide +kernel⟩
theorem ok_Coding_take (T : Tx P K mg) : FnOk P w K mg base CX0 2 T.Coding_take.a T.Coding_take.d ["self", "bit"] (sp_Coding_take T.a_Coding) := by
  refine T.Coding_take.f.ok sc_Coding_take (fun vs H Q E h => ?_) (fun cdv A outer s H vs Q E hr h => ⟨_, pss_cons (ps_set (i := 2) sc_Coding_take.nd rfl (Or.inl rfl) (pe_call (ok_context T) (hr.mono (by decide)) rfl T.context.g T.context.f.kp T.context.b .nil pass0 (pa_cons (pe_fld (pv 0) rfl) (pa_cons (pe_fld (pv 0) rfl) (pa_cons (pe_callB (Gx.c_lenK (K := K) rfl) rfl T.n_len (by decide +kernel) (pa_cons (pe_fld (pv 0) rfl) pa_nil)) pa_nil)))))
      (pss_cons (ps_set (i := 3) sc_Coding_take.nd rfl (Or.inl rfl) (pe_ix (Gx.ix_seqK (K := K) rfl) (pe_fld (pv 0) rfl) (pv 2) (fun _ _ => rfl)))
      (pss_cons (ps_set (i := 4) sc_Coding_take.nd rfl (Or.inl rfl) (pe_ix (Gx.ix_seqK (K := K) rfl) (pe_fld (pv 0) rfl) (pv 2) (fun _ _ => rfl)))
      (pss_cons (ps_fld (pv 0) (pe_op op_mul (pe_fld (pv 0) rfl) (pe_op op_add (pv 3) (pv 4))) rfl)
      (pss_cons (ps_fld (pv 0) (pe_op op_mul (pe_fld (pv 0) rfl) (pe_op op_add (pv 3) (pv 4))) rfl)
      (pss_cons (ps_if (pt_cmpR op_eq (pv 1) (pe_str) (nomark _)) (pss_cons (ps_fld (pv 0) (pe_op op_mul (pe_fld (pv 0) rfl) (pv 3)) rfl)
      (pss_one (ps_augS (pe_fld (pv 0) rfl) (pv 2) Gx.pget_list (pe_int) ip_add set_list))) (pss_cons (ps_fld (pv 0) (pe_op op_add (pe_fld (pv 0) rfl) (pe_op op_mul (pe_fld (pv 0) rfl) (pv 3))) rfl)
      (pss_cons (ps_fld (pv 0) (pe_op op_mul (pe_fld (pv 0) rfl) (pv 4)) rfl)
      (pss_one (ps_augS (pe_fld (pv 0) rfl) (pv 2) Gx.pget_list (pe_int) ip_add set_list)))))
      (pss_one (ps_fld (pv 0) (pe_op Gx.o_addS (pe_fld (pv 0) rfl) (pv 1)) rfl))))))), ?_⟩)
  · obtain ⟨x, z, o, w, bs, b, rfl, _⟩ := h
    rfl
  · skip
    obtain ⟨x, z, o, w, bs, b, rfl, cod, hw, hb, q⟩ := h
    have hxz := cod.xz
    obtain ⟨⟨dx, hx⟩, hz, ho, hzo⟩ := cod
    have hzl := (Iv.zs_le w bs (Iv.nx w bs))
    have hol := (Iv.os_le w bs (Iv.nx w bs))
    walk_at "go"
    refine Bs.lenB (by omega) ?_
    walk_at "go"
    refine cp_context (by omega) (by omega) (by omega) hb ?_
    rw [Int.toNat_natCast, Int.toNat_natCast]
    walk_at "go"
    refine Gx.ixL (SqL.of hz) nx_at ?_
    walk_at "go"
    refine Gx.ixL (SqL.of ho) nx_at ?_
    walk_at "go"
    refine Gx.ic (.inr (by omega)) ?_
    walk_at "go"
    refine Gx.sfp hx T.cl_Coding T.na_Coding__low few_Coding put_Coding__low ?_
    have hx1 := upd_same (H := H) (a := x) (o := .ins T.a_Coding dx (fl_Coding (.str (Bs.S bs)) (.int (w : Int)) (.int ((Iv.lo w bs : Nat) * ((Iv.zs w bs (Iv.nx w bs) : Nat) + (Iv.os w bs (Iv.nx w bs) : Nat)))) (.int (Iv.sz w bs : Nat)) (.int (Iv.wh w bs : Nat)) (.ref z) (.ref o)))
    walk_at "go"
    refine Gx.ic (.inr (by omega)) ?_
    walk_at "go"
    refine Gx.sfp hx1 T.cl_Coding T.na_Coding__whole few_Coding put_Coding__whole ?_
    rw [upd_upd]
    clear hx1
    walk_at "go"
    rw [Bs.eq0]
    cases b with
    | false =>
      walk_at "go"
      refine Gx.fp upd_same T.cl_Coding T.na_Coding__size lk_Coding__size ?_
      walk_at "go"
      refine Gx.ic (.inr (by omega)) ?_
      walk_at "go"
      refine Gx.sfp upd_same T.cl_Coding T.na_Coding__size few_Coding put_Coding__size ?_
      rw [upd_upd]
      walk_at "go"
      refine Gx.fp upd_same T.cl_Coding T.na_Coding__zeros lk_Coding__zeros ?_
      walk_at "go"
      refine Gx.getN (SqL.of (by rw [upd_ne hxz.1.symm]; exact hz)) (by have := Cx_.ctx_lt w bs bs.length; omega) (Iv.zl_get (Cx_.ctx_lt w bs bs.length)) ?_
      walk_at "go"
      refine Gx.agL (by rw [upd_ne hxz.1.symm]; exact hz) (by unfold Iv.zl; rw [List.length_map, List.length_range]; exact Cx_.ctx_lt w bs bs.length) ?_
      walk_at "go"
      refine Gx.fp (by rw [upd_ne hxz.1]; exact upd_same) T.cl_Coding T.na_Coding_bits lk_Coding_bits ?_
      walk_at "go"
      refine Gx.addS (by rw [Bs.len, Bs.len, sizeLine_eq]; show _ + 1 ≤ _; omega) ?_
      rw [Bs.cat]
      walk_at "go"
      refine Gx.sfp (by rw [upd_ne hxz.1]; exact upd_same) T.cl_Coding T.na_Coding_bits few_Coding put_Coding_bits ?_
      refine q _ ⟨⟨dx, ?_⟩, ?_, ?_, hzo⟩ fun c h1 h2 h3 => ?_
      · rw [upd_same, Iv.lo_app hw, Iv.sz_app hw, Iv.wh_app hw]
        simp only [Bool.false_eq_true, if_false, Nat.add_zero, Iv.both, Int.natCast_mul, Int.natCast_add]
      · rw [upd_ne hxz.1.symm, upd_same]; exact congrArg (fun l => some (HO.lst l)) (Iv.zl_app0 hw)
      · rw [upd_ne hxz.2.symm, upd_ne hzo.symm, upd_ne hxz.2.symm, ho, Iv.ol_app0 hw]
      · rw [upd_ne h1, upd_ne h2, upd_ne h1]
    | true =>
      walk_at "go"
      refine Gx.fp upd_same T.cl_Coding T.na_Coding__low lk_Coding__low ?_
      walk_at "go"
      refine Gx.fp upd_same T.cl_Coding T.na_Coding__size lk_Coding__size ?_
      walk_at "go"
      refine Gx.ic (.inr (by omega)) ?_
      walk_at "go"
      refine Gx.sfp upd_same T.cl_Coding T.na_Coding__low few_Coding put_Coding__low ?_
      rw [upd_upd]
      walk_at "go"
      refine Gx.fp upd_same T.cl_Coding T.na_Coding__size lk_Coding__size ?_
      walk_at "go"
      refine Gx.ic (.inr (by omega)) ?_
      walk_at "go"
      refine Gx.sfp upd_same T.cl_Coding T.na_Coding__size few_Coding put_Coding__size ?_
      rw [upd_upd]
      walk_at "go"
      refine Gx.fp upd_same T.cl_Coding T.na_Coding__ones lk_Coding__ones ?_
      walk_at "go"
      refine Gx.getN (SqL.of (by rw [upd_ne hxz.2.symm]; exact ho)) (by have := Cx_.ctx_lt w bs bs.length; omega) (Iv.ol_get (Cx_.ctx_lt w bs bs.length)) ?_
      walk_at "go"
      refine Gx.agL (by rw [upd_ne hxz.2.symm]; exact ho) (by unfold Iv.ol; rw [List.length_map, List.length_range]; exact Cx_.ctx_lt w bs bs.length) ?_
      walk_at "go"
      refine Gx.fp (by rw [upd_ne hxz.2]; exact upd_same) T.cl_Coding T.na_Coding_bits lk_Coding_bits ?_
      walk_at "go"
      refine Gx.addS (by rw [Bs.len, Bs.len, sizeLine_eq]; show _ + 1 ≤ _; omega) ?_
      rw [Bs.cat]
      walk_at "go"
      refine Gx.sfp (by rw [upd_ne hxz.2]; exact upd_same) T.cl_Coding T.na_Coding_bits few_Coding put_Coding_bits ?_
      refine q _ ⟨⟨dx, ?_⟩, ?_, ?_, hzo⟩ fun c h1 h2 h3 => ?_
      · rw [upd_same, Iv.lo_app hw, Iv.sz_app hw, Iv.wh_app hw]
        simp only [if_true, Iv.both, Int.natCast_mul, Int.natCast_add]
      · rw [upd_ne hxz.1.symm, upd_ne hzo, upd_ne hxz.1.symm, hz, Iv.zl_app1 hw]
      · rw [upd_ne hxz.2.symm, upd_same]; exact congrArg (fun l => some (HO.lst l)) (Iv.ol_app1 hw)
      · rw [upd_ne h1, upd_ne h3, upd_ne h1]

theorem cp_Coding_take {C x z o : Addr} {w : Nat} {bs : List Bool} {b : Bool} {H : Hp} {Q : VK} {E : XK} (c : Cod C H x z o w bs) (hw : 0 < w) (hb : bs.length ≤ 100000)
    (q : ∀ H', Cod C H' x z o w (bs ++ [b]) → (∀ c, c ≠ x → c ≠ z → c ≠ o → H' c = H c) → Q .non H') : Gx.CP (sp_Coding_take C) [.ref x, .str (Bs.S [b])] [] H Q E := ⟨x, z, o, w, bs, b, rfl, c, hw, hb, q⟩

def sp_Coding_init (C : Addr) : Sp := fun vs H Q _ => ∃ (H0 : Hp) (x dx : Addr) (w : Nat), vs = [.ref x, .int (w : Int)] ∧ H x = some (.ins C dx []) ∧ 0 < w ∧ Same H0 H ∧ H0 x = none ∧
  ∀ (z o : Addr) (H' : Hp), H0 z = none → H0 o = none → Same H0 H' → Cod C H' x z o w [] → Q .non H'

theorem sc_Coding___init__ : FnScope ["self", "width"] ["self", "width"] (defScope s_Coding___init__) := ⟨rfl, rfl, rfl, by decide +kernel, rfl, by decide +kernel, by decide +kernel⟩
theorem ok_Coding___init__ (T : Tx P K mg) : FnOk P w K mg base CX0 1 T.Coding___init__.a T.Coding___init__.d ["self", "width"] (sp_Coding_init T.a_Coding) := by
  refine T.Coding___init__.f.ok sc_Coding___init__ (fun vs H Q E h => ?_) (fun cdv A outer s H vs Q E hr h => ⟨_, pss_cons (ps_fld (pv 0) (pe_str) rfl)
      (pss_cons (ps_fld (pv 0) (pv 1) rfl)
      (pss_cons (ps_fld (pv 0) (pe_int) rfl)
      (pss_cons (ps_fld (pv 0) (pe_int) rfl)
      (pss_cons (ps_fld (pv 0) (pe_int) rfl)
      (pss_cons (ps_fld (pv 0) (pe_op Gx.o_rep (pe_lst (pa_cons (pe_int) pa_nil)) (pe_glob (v := .int 16) rfl T.c_CONTEXTS ⟨_, rfl⟩)) rfl)
      (pss_one (ps_fld (pv 0) (pe_op Gx.o_rep (pe_lst (pa_cons (pe_int) pa_nil)) (pe_glob (v := .int 16) rfl T.c_CONTEXTS ⟨_, rfl⟩)) rfl))))))), ?_⟩)
  · obtain ⟨H0, x, dx, w, rfl, _⟩ := h
    rfl
  · skip
    obtain ⟨H0, x, dx, w, rfl, hx, hw, s0, h0, q⟩ := h
    walk_at "go"
    refine Gx.sfp hx T.cl_Coding T.na_Coding_bits (by walk_at "few") rfl ?_
    walk_at "go"
    refine Gx.sfp upd_same T.cl_Coding T.na_Coding__width (by walk_at "few") rfl ?_
    walk_at "go"
    refine Gx.sfp upd_same T.cl_Coding T.na_Coding__low (by walk_at "few") rfl ?_
    walk_at "go"
    refine Gx.sfp upd_same T.cl_Coding T.na_Coding__size (by walk_at "few") rfl ?_
    walk_at "go"
    refine Gx.sfp upd_same T.cl_Coding T.na_Coding__whole (by walk_at "few") rfl ?_
    walk_at "go"
    rw [upd_upd, upd_upd, upd_upd, upd_upd]
    refine Gx.lstP (by show 1 ≤ sizeLine; decide) fun l1 hl1 => ?_
    walk_at "go"
    refine Gx.repN (n := 16) upd_same (by decide) fun z hz => ?_
    have xl : x ≠ l1 := fun e => by rw [← e, upd_same] at hl1; cases hl1
    have xz : x ≠ z := fun e => by rw [← e, upd_ne xl, upd_same] at hz; cases hz
    walk_at "go"
    refine Gx.sfp (by rw [upd_ne xz, upd_ne xl]; exact upd_same) T.cl_Coding T.na_Coding__zeros (by walk_at "few") rfl ?_
    walk_at "go"
    refine Gx.lstP (by show 1 ≤ sizeLine; decide) fun l2 hl2 => ?_
    walk_at "go"
    refine Gx.repN (n := 16) upd_same (by decide) fun o ho => ?_
    have xl2 : x ≠ l2 := fun e => by rw [← e, upd_same] at hl2; cases hl2
    have xo : x ≠ o := fun e => by rw [← e, upd_ne xl2, upd_same] at ho; cases ho
    have zl2 : z ≠ l2 := fun e => by rw [← e, upd_ne xz.symm, upd_same] at hl2; cases hl2
    have zo : z ≠ o := fun e => by rw [← e, upd_ne zl2, upd_ne xz.symm, upd_same] at ho; cases ho
    walk_at "go"
    refine Gx.sfp (by rw [upd_ne xo, upd_ne xl2]; exact upd_same) T.cl_Coding T.na_Coding__ones (by walk_at "few") rfl ?_
    have l1z : l1 ≠ z := fun e => by rw [← e, upd_same] at hz; cases hz
    have hl10 : H l1 = none := by rw [upd_ne (Ne.symm xl)] at hl1; exact hl1
    have hz0 : H z = none := by rw [upd_ne l1z.symm, upd_ne xz.symm] at hz; exact hz
    have hl20 : H l2 = none := by
      by_cases e1 : l2 = l1
      · rw [e1]; exact hl10
      · rw [upd_ne xl2.symm, upd_ne zl2.symm, upd_ne e1, upd_ne xl2.symm] at hl2; exact hl2
    have l2o : l2 ≠ o := fun e => by rw [← e, upd_same] at ho; cases ho
    have ho0 : H o = none := by
      by_cases e1 : o = l1
      · rw [e1]; exact hl10
      · rw [upd_ne l2o.symm, upd_ne xo.symm, upd_ne zo.symm, upd_ne e1, upd_ne xo.symm] at ho; exact ho
    refine q z o _ (s0.free hz0) (s0.free ho0) ?_ ⟨⟨dx, ?_⟩, ?_, ?_, zo⟩
    · refine Gx.same_up h0 (Gx.same_up (s0.free ho0) (Gx.same_up (s0.free hl20) (Gx.same_up h0 (Gx.same_up (s0.free hz0) (Gx.same_up (s0.free hl10) (Gx.same_up h0 s0))))))
    · rw [upd_same, ini_Coding, Bs.lit_]; rfl
    · rw [upd_ne xz.symm, upd_ne zo, upd_ne zl2, upd_ne xz.symm, upd_same, Iv.nil_zl w]
    · rw [upd_ne xo.symm, upd_same, Iv.nil_ol w]


def sp_coding_of (C : Addr) : Sp := fun vs H Q _ => ∃ (w : Nat) (bs : List Bool), vs = [.int (w : Int), .str (Bs.S bs)] ∧ 0 < w ∧ bs.length ≤ 100000 ∧
  ∀ (x z o : Addr) (H' : Hp), H x = none → H z = none → H o = none → Same H H' → Cod C H' x z o w bs → Q (.ref x) H'

theorem sc_coding_of : FnScope ["width", "bits", "coding", "bit"] ["width", "bits"] (defScope s_coding_of) := ⟨rfl, rfl, rfl, by decide +kernel, rfl, by decide +kernel, by decide +kernel⟩
theorem ok_coding_of (T : Tx P K mg) : FnOk P w K mg base CX0 3 T.coding_of.a T.coding_of.d ["width", "bits"] (sp_coding_of T.a_Coding) := by
  refine T.coding_of.f.ok sc_coding_of (fun vs H Q E h => ?_) (fun cdv A outer s H vs Q E hr h => ⟨_, pss_cons (ps_set (i := 2) sc_coding_of.nd rfl (Or.inl rfl) (pe_make ⟨T.mk_Coding, T.Coding___init__.m.at_, T.Coding___init__.m.fn, T.kp_Coding⟩ (ok_Coding___init__ T) (hr.mono (by decide)) rfl T.g_Coding T.Coding___init__.b .nil pass0 (pa_cons (pv 0) pa_nil)))
      (pss_cons (ps_for PassesOwn.never rfl (pi_str (pv 1)) (pg_name (i := 3) sc_coding_of.nd rfl (Or.inl rfl))
      (pss_one (ps_expr (pe_meth (pv 2) T.cl_Coding T.Coding_take.m (ok_Coding_take T) (hr.mono (by decide)) T.Coding_take.b .nil pass0 (pa_cons (pv 3) pa_nil)))))
      (pss_one (ps_ret (pv 2)))), ?_⟩)
  · obtain ⟨w, bs, rfl, _⟩ := h
    rfl
  · skip
    obtain ⟨w, bs, rfl, hw, hb, q⟩ := h
    walk_at "go"
    intro x dx hx hdx hne
    refine ⟨H, x, dx, w, rfl, upd_same, hw, Gx.same_up hx (Gx.same_new hdx), hx, fun z o H1 hz ho s1 c1 => ⟨rfl, ?_⟩⟩
    walk_at "go"
    refine Gx.fw walk_str (fun i σ' H' => Same H H' ∧ Cod T.a_Coding H' x z o w (bs.take i) ∧ ∃ bv : Option V, σ' = [some (.int (w : Int)), some (.str (Bs.S bs)), some (.ref x), bv]) ⟨s1, c1, none, rfl⟩ (fun _ _ _ _ _ => trivial) ?_ ?_
    · rintro i v σ' H2 H2' hi ⟨s2, c2, bv, rfl⟩ ⟨rfl, c, hc, rfl⟩
      have hil : i < bs.length := by
        have e : (Bs.S bs).cps.size = bs.length := Bs.len bs
        omega
      have hcb : (⟨#[c]⟩ : Str) = Bs.S [bs.getD i false] := by
        have h := Bs.get_ hil
        rw [hc] at h
        rw [Option.some.inj h]; rfl
      rw [hcb]
      walk_at "go"
      obtain ⟨dx, hx2⟩ := c2.ob
      refine Gx.mp hx2 no_Coding_take ?_
      walk_at "go"
      refine cp_Coding_take c2 hw (by rw [List.length_take]; omega) fun H3 c3 k3 => ?_
      walk_at "go"
      have e : bs.take i ++ [bs.getD i false] = bs.take (i + 1) := by
        rw [List.take_add_one, List.getD_eq_getElem?_getD, List.getElem?_eq_getElem hil]; rfl
      rw [e] at c3
      exact ⟨fun a u ea => (k3 a (ne_of_none ea hx) (ne_of_none ea hz) (ne_of_none ea ho)).trans (s2 a u ea), c3, _, rfl⟩
    · rintro σ' H2 ⟨s2, c2, bv, rfl⟩
      have e : (Bs.S bs).cps.size = bs.length := Bs.len bs
      rw [e, List.take_length] at c2
      walk_at "go"
      exact q x z o H2 hx hz ho s2 c2

theorem cp_coding_of {C : Addr} {w : Int} {bs : List Bool} {H : Hp} {Q : VK} {E : XK} (hw : 0 < w) (hb : bs.length ≤ 100000)
    (q : ∀ (x z o : Addr) (H' : Hp), H x = none → H z = none → H o = none → Same H H' → Cod C H' x z o w.toNat bs → Q (.ref x) H') : Gx.CP (sp_coding_of C) [.int w, .str (Bs.S bs)] [] H Q E :=
  ⟨w.toNat, bs, by rw [List.append_nil, Int.toNat_of_nonneg (Int.le_of_lt hw)], by omega, hb, q⟩

def sp_interval : Sp := fun vs H Q _ => ∃ (w : Nat) (bs : List Bool), vs = [.int (w : Int), .str (Bs.S bs)] ∧ 0 < w ∧ bs.length ≤ 100000 ∧
  ∀ (p : Addr) (H' : Hp), Same H H' → H' p = some (.tup [.int (Iv.lo w bs : Nat), .int (Iv.sz w bs : Nat), .int (Iv.wh w bs : Nat)]) → Q (.ref p) H'

theorem sc_interval : FnScope ["width", "bits"] ["width", "bits"] (defScope s_interval) := ⟨rfl, rfl, rfl, by decide +kernel, rfl, by decide +kernel, by decide +kernel⟩
theorem ok_interval (T : Tx P K mg) : FnOk P w K mg base CX0 4 T.interval.a T.interval.d ["width", "bits"] (sp_interval) := by
  refine T.interval.f.ok sc_interval (fun vs H Q E h => ?_) (fun cdv A outer s H vs Q E hr h => ⟨_, pss_one (ps_ret (pe_meth0 (pe_call (ok_coding_of T) (hr.mono (by decide)) rfl T.coding_of.g T.coding_of.f.kp T.coding_of.b .nil pass0 (pa_cons (pv 0) (pa_cons (pv 1) pa_nil))) T.cl_Coding T.Coding_interval.m (ok_Coding_interval T) (hr.mono (by decide)) T.Coding_interval.b .nil pass0)), ?_⟩)
  · obtain ⟨w, bs, rfl, _⟩ := h
    rfl
  · skip
    obtain ⟨w, bs, rfl, hw, hb, q⟩ := h
    walk_at "go"
    refine cp_coding_of (by omega) hb fun x z o H1 hx hz ho s1 c1 => ?_
    rw [Int.toNat_natCast] at c1
    obtain ⟨dx, hx1⟩ := c1.ob
    walk_at "go"
    refine Gx.mp hx1 no_Coding_interval ?_
    walk_at "go"
    refine cp_Coding_interval c1 fun p hp => ?_
    exact q p _ (s1.trans (Gx.same_new hp)) upd_same

theorem cp_interval {w : Int} {bs : List Bool} {H : Hp} {Q : VK} {E : XK} (hw : 0 < w) (hb : bs.length ≤ 100000)
    (q : ∀ (p : Addr) (H' : Hp), Same H H' → H' p = some (.tup [.int (Iv.lo w.toNat bs : Nat), .int (Iv.sz w.toNat bs : Nat), .int (Iv.wh w.toNat bs : Nat)]) → Q (.ref p) H') :
    Gx.CP sp_interval [.int w, .str (Bs.S bs)] [] H Q E := ⟨w.toNat, bs, by rw [List.append_nil, Int.toNat_of_nonneg (Int.le_of_lt hw)], by omega, hb, q⟩

/-- the code; what is made on the way stands beside -/
def sp_code_of : Sp := fun vs H Q _ => ∃ (w : Nat) (bs : List Bool), vs = [.int (w : Int), .str (Bs.S bs)] ∧ 0 < w ∧ bs.length ≤ 300 ∧ ∀ H', Same H H' → Q (.str (Bs.S (Iv.code w bs))) H'

theorem sc_code_of : FnScope ["width", "bits", "low", "size", "whole"] ["width", "bits"] (defScope s_code_of) := ⟨rfl, rfl, rfl, by decide +kernel, rfl, by decide +kernel, by decide +kernel⟩
theorem ok_code_of (T : Tx P K mg) : FnOk P w K mg base CX0 5 T.code_of.a T.code_of.d ["width", "bits"] (sp_code_of) := by
  refine T.code_of.f.ok sc_code_of (fun vs H Q E h => ?_) (fun cdv A outer s H vs Q E hr h => ⟨_, pss_cons (ps_asg (pe_call (ok_interval T) (hr.mono (by decide)) rfl T.interval.g T.interval.f.kp T.interval.b .nil pass0 (pa_cons (pv 0) (pa_cons (pv 1) pa_nil))) (pg_tup rfl (pgs_cons (pg_name (i := 2) sc_code_of.nd rfl (Or.inl rfl)) (pgs_cons (pg_name (i := 3) sc_code_of.nd rfl (Or.inl rfl)) (pgs_cons (pg_name (i := 4) sc_code_of.nd rfl (Or.inl rfl)) pgs_nil)))))
      (pss_one (ps_ret (pe_call (ok_shortest_cell T) (hr.mono (by decide)) rfl T.shortest_cell.g T.shortest_cell.f.kp T.shortest_cell.b .nil pass0 (pa_cons (pv 2) (pa_cons (pv 3) (pa_cons (pv 4) pa_nil)))))), ?_⟩)
  · obtain ⟨w, bs, rfl, _⟩ := h
    rfl
  · skip
    obtain ⟨w, bs, rfl, hw, hb, q⟩ := h
    walk_at "go"
    refine cp_interval (by omega) (by omega) fun p H1 s1 h1 => ?_
    rw [Int.toNat_natCast] at h1
    refine Gx.gtup (SqT.of h1) rfl ?_
    walk_at "go"
    refine cp_shortest_cell (Iv.sz_pos w bs) (Iv.lo_sz w bs) (Iv.wh_pow hb) ?_
    exact q H1 s1

theorem cp_code_of {w : Int} {bs : List Bool} {H : Hp} {Q : VK} {E : XK} (hw : 0 < w) (hb : bs.length ≤ 300) (q : ∀ H', Same H H' → Q (.str (Bs.S (Iv.code w.toNat bs))) H') : Gx.CP sp_code_of [.int w, .str (Bs.S bs)] [] H Q E :=
  ⟨w.toNat, bs, by rw [List.append_nil, Int.toNat_of_nonneg (Int.le_of_lt hw)], by omega, hb, q⟩

def sp_opens : Sp := fun vs H Q _ => ∃ (w : Nat) (bs cs : List Bool), vs = [.int (w : Int), .str (Bs.S cs), .str (Bs.S bs)] ∧ 0 < w ∧ bs.length ≤ 300 ∧ ∀ H', Same H H' → Q (.bl (Txt.startswith (Bs.S (Iv.code w bs)) (Bs.S cs))) H'

theorem sc_opens : FnScope ["width", "code", "bits"] ["width", "code", "bits"] (defScope s_opens) := ⟨rfl, rfl, rfl, by decide +kernel, rfl, by decide +kernel, by decide +kernel⟩
theorem ok_opens (T : Tx P K mg) : FnOk P w K mg base CX0 6 T.opens.a T.opens.d ["width", "code", "bits"] (sp_opens) := by
  refine T.opens.f.ok sc_opens (fun vs H Q E h => ?_) (fun cdv A outer s H vs Q E hr h => ⟨_, pss_one (ps_ret (pe_m1 PySem.F.slot_str_startswith PySem.F.type_str_startswith mt_startswith (pe_call (ok_code_of T) (hr.mono (by decide)) rfl T.code_of.g T.code_of.f.kp T.code_of.b .nil pass0 (pa_cons (pv 0) (pa_cons (pv 2) pa_nil))) (pv 1))), ?_⟩)
  · obtain ⟨w, bs, cs, rfl, _⟩ := h
    rfl
  · skip
    obtain ⟨w, bs, cs, rfl, hw, hb, q⟩ := h
    walk_at "go"
    refine cp_code_of (w := (w : Int)) (by omega) hb fun H1 s1 => ?_
    rw [Int.toNat_natCast]
    walk_at "go"
    exact ⟨_, _, rfl, rfl, q _ s1⟩

theorem cp_opens {w : Int} {bs cs : List Bool} {H : Hp} {Q : VK} {E : XK} (hw : 0 < w) (hb : bs.length ≤ 300) (q : ∀ H', Same H H' → Q (.bl (Txt.startswith (Bs.S (Iv.code w.toNat bs)) (Bs.S cs))) H') : Gx.CP sp_opens [.int w, .str (Bs.S cs), .str (Bs.S bs)] [] H Q E :=
  ⟨w.toNat, bs, cs, by rw [List.append_nil, Int.toNat_of_nonneg (Int.le_of_lt hw)], by omega, hb, q⟩

def sp_next_bits : Sp := fun vs H Q _ => ∃ (w m : Nat) (c p : List Bool), vs = [.int (w : Int), .int (m : Int), .str (Bs.S c), .str (Bs.S p)] ∧ 0 < w ∧ p.length < m ∧ m ≤ 256 ∧
  ∀ (r : Addr) H', H r = none → Same H H' → H' r = some (.lst ((if c <+: Iv.code w (Kn.lower m p) then [V.str (Bs.S [false])] else []) ++ (if c <+: Iv.code w (Kn.upper m p) then [V.str (Bs.S [true])] else []))) → Q (.ref r) H'

theorem sc_next_bits : FnScope ["width", "count", "code", "bits", "more", "found"] ["width", "count", "code", "bits"] (defScope s_next_bits) := ⟨rfl, rfl, rfl, by decide +kernel, rfl, by decide +kernel, by decide +kernel⟩
theorem ok_next_bits (T : Tx P K mg) : FnOk P w K mg base CX0 7 T.next_bits.a T.next_bits.d ["width", "count", "code", "bits"] (sp_next_bits) := by
  refine T.next_bits.f.ok sc_next_bits (fun vs H Q E h => ?_) (fun cdv A outer s H vs Q E hr h => ⟨_, pss_cons (ps_set (i := 4) sc_next_bits.nd rfl (Or.inl rfl) (pe_op op_sub (pe_op op_sub (pv 1) (pe_callB (Gx.c_lenK (K := K) rfl) rfl T.n_len (by decide +kernel) (pa_cons (pv 3) pa_nil))) (pe_int)))
      (pss_cons (ps_set (i := 5) sc_next_bits.nd rfl (Or.inl rfl) (pe_lst pa_nil))
      (pss_cons (ps_if (pt_val (pe_call (ok_opens T) (hr.mono (by decide)) rfl T.opens.g T.opens.f.kp T.opens.b .nil pass0 (pa_cons (pv 0) (pa_cons (pv 2) (pa_cons (pe_call (ok_last_with_zero T) (hr.mono (by decide)) rfl T.last_with_zero.g T.last_with_zero.f.kp T.last_with_zero.b .nil pass0 (pa_cons (pv 3) (pa_cons (pv 4) pa_nil))) pa_nil))))) (pss_one (ps_expr (pe_bm PySem.F.plainAttrs_list PySem.F.slot_list_append PySem.F.type_list_append mt_append (pv 5) (pa_cons (pe_str) pa_nil)))) (pss_nil))
      (pss_cons (ps_if (pt_val (pe_call (ok_opens T) (hr.mono (by decide)) rfl T.opens.g T.opens.f.kp T.opens.b .nil pass0 (pa_cons (pv 0) (pa_cons (pv 2) (pa_cons (pe_call (ok_first_with_one T) (hr.mono (by decide)) rfl T.first_with_one.g T.first_with_one.f.kp T.first_with_one.b .nil pass0 (pa_cons (pv 3) (pa_cons (pv 4) pa_nil))) pa_nil))))) (pss_one (ps_expr (pe_bm PySem.F.plainAttrs_list PySem.F.slot_list_append PySem.F.type_list_append mt_append (pv 5) (pa_cons (pe_str) pa_nil)))) (pss_nil))
      (pss_one (ps_ret (pv 5)))))), ?_⟩)
  · obtain ⟨w, m, c, p, rfl, _⟩ := h
    rfl
  · skip
    obtain ⟨w, m, c, p, rfl, hw, hp, hm, q⟩ := h
    walk_at "go"
    refine Bs.lenB (by omega) ?_
    walk_at "go"
    refine Gx.lstP (Nat.zero_le _) fun r hr => ?_
    walk_at "go"
    have em : ((m : Int) - (p.length : Int) - 1).toNat = m - p.length - 1 := by omega
    have ll := Kn.lower_len hp
    have lu := Kn.upper_len hp
    refine cp_last_with_zero (by omega) (by omega) (by omega) ?_
    rw [em]
    walk_at "go"
    refine cp_opens (bs := Kn.lower m p) (by omega) (by omega) fun H1 s1 => ?_
    rw [Int.toNat_natCast, Kn.sw]
    have k1 := s1 _ _ (upd_same (H := H) (a := r) (o := .lst []))
    have s0 : Same H H1 := (Gx.same_new hr).trans s1
    walk_at "go"
    have rest : ∀ (xs : List V) (H2 : Hp), H2 r = some (.lst xs) → Same H H2 → xs.length ≤ 1 → (∀ (H' : Hp), Same H H' → H' r = some (.lst (xs ++ (if c <+: Iv.code w (Kn.upper m p) then [V.str (Bs.S [true])] else []))) → Q (.ref r) H') → Q (.ref r) H2 ∨ True := fun _ _ _ _ _ _ => .inr trivial
    refine Gx.if_d (fun h1 => ?_) (fun h1 => ?_)
    · walk_at "go"
      refine Gx.bmS (Gx.tyL (SqL.of k1)) ?_
      walk_at "go"
      refine Gx.app k1 (by rw [sizeLine_eq]; show 0 < _; omega) ?_
      walk_at "go"
      have k2 : upd H1 r (.lst ([] ++ [V.str (Str.ofString "0")])) r = some (.lst [V.str (Bs.S [false])]) := by rw [upd_same, ← Bs.lit0]; rfl
      have s2 := Gx.same_up (o := .lst ([] ++ [V.str (Str.ofString "0")])) hr s0
      generalize upd H1 r (.lst ([] ++ [V.str (Str.ofString "0")])) = H2 at k2 s2
      refine cp_first_with_one (by omega) (by omega) (by omega) ?_
      rw [em]
      walk_at "go"
      refine cp_opens (bs := Kn.upper m p) (by omega) (by omega) fun H3 s3 => ?_
      rw [Int.toNat_natCast, Kn.sw]
      have k3 := s3 _ _ k2
      walk_at "go"
      refine Gx.if_d (fun h2 => ?_) (fun h2 => ?_)
      · walk_at "go"
        refine Gx.bmS (Gx.tyL (SqL.of k3)) ?_
        walk_at "go"
        refine Gx.app k3 (by rw [sizeLine_eq]; show 1 < _; omega) ?_
        walk_at "go"
        refine q r _ hr (Gx.same_up hr (s2.trans s3)) ?_
        rw [if_pos h1, if_pos h2, upd_same, Bs.lit1]
      · walk_at "go"
        refine q r _ hr (s2.trans s3) ?_
        rw [if_pos h1, if_neg h2, k3]; rfl
    · walk_at "go"
      refine cp_first_with_one (by omega) (by omega) (by omega) ?_
      rw [em]
      walk_at "go"
      refine cp_opens (bs := Kn.upper m p) (by omega) (by omega) fun H3 s3 => ?_
      rw [Int.toNat_natCast, Kn.sw]
      have k3 := s3 _ _ k1
      walk_at "go"
      refine Gx.if_d (fun h2 => ?_) (fun h2 => ?_)
      · walk_at "go"
        refine Gx.bmS (Gx.tyL (SqL.of k3)) ?_
        walk_at "go"
        refine Gx.app k3 (by rw [sizeLine_eq]; show 0 < _; omega) ?_
        walk_at "go"
        refine q r _ hr (Gx.same_up hr (s0.trans s3)) ?_
        rw [if_neg h1, if_pos h2, upd_same, Bs.lit1]
      · walk_at "go"
        refine q r _ hr (s0.trans s3) ?_
        rw [if_neg h1, if_neg h2, k3]; rfl

theorem cp_next_bits {w m : Nat} {c p : List Bool} {H : Hp} {Q : VK} {E : XK} (hw : 0 < w) (hp : p.length < m) (hm : m ≤ 256)
    (q : ∀ (r : Addr) H', H r = none → Same H H' → H' r = some (.lst ((if c <+: Iv.code w (Kn.lower m p) then [V.str (Bs.S [false])] else []) ++ (if c <+: Iv.code w (Kn.upper m p) then [V.str (Bs.S [true])] else []))) → Q (.ref r) H') : Gx.CP sp_next_bits [.int (w : Int), .int (m : Int), .str (Bs.S c), .str (Bs.S p)] [] H Q E := ⟨w, m, c, p, rfl, hw, hp, hm, q⟩

def sp_Coding_shares (C : Addr) : Sp := fun vs H Q _ => ∃ (x z o : Addr) (w : Nat) (bs : List Bool), vs = [.ref x] ∧ Cod C H x z o w bs ∧ 0 < w ∧ bs.length ≤ 100000 ∧
  ∀ (p : Addr), H p = none → Q (.ref p) (upd H p (.tup [.int (Iv.zs w bs (Iv.nx w bs) : Nat), .int (Iv.os w bs (Iv.nx w bs) : Nat)]))

theorem sc_Coding_shares : FnScope ["self", "here"] ["self"] (defScope s_Coding_shares) := ⟨rfl, rfl, rfl, by decide +kernel, rfl, by decide +kernel, by decide +kernel⟩
theorem ok_Coding_shares (T : Tx P K mg) : FnOk P w K mg base CX0 2 T.Coding_shares.a T.Coding_shares.d ["self"] (sp_Coding_shares T.a_Coding) := by
  refine T.Coding_shares.f.ok sc_Coding_shares (fun vs H Q E h => ?_) (fun cdv A outer s H vs Q E hr h => ⟨_, pss_cons (ps_set (i := 1) sc_Coding_shares.nd rfl (Or.inl rfl) (pe_call (ok_context T) (hr.mono (by decide)) rfl T.context.g T.context.f.kp T.context.b .nil pass0 (pa_cons (pe_fld (pv 0) rfl) (pa_cons (pe_fld (pv 0) rfl) (pa_cons (pe_callB (Gx.c_lenK (K := K) rfl) rfl T.n_len (by decide +kernel) (pa_cons (pe_fld (pv 0) rfl) pa_nil)) pa_nil)))))
      (pss_one (ps_ret (pe_tup (pa_cons (pe_ix (Gx.ix_seqK (K := K) rfl) (pe_fld (pv 0) rfl) (pv 1) (fun _ _ => rfl)) (pa_cons (pe_ix (Gx.ix_seqK (K := K) rfl) (pe_fld (pv 0) rfl) (pv 1) (fun _ _ => rfl)) pa_nil))))), ?_⟩)
  · obtain ⟨x, z, o, w, bs, rfl, _⟩ := h
    rfl
  · skip
    obtain ⟨x, z, o, w, bs, rfl, ⟨⟨dx, hx⟩, hz, ho, hzo⟩, hw, hb, q⟩ := h
    walk_at "go"
    refine Bs.lenB (by omega) ?_
    walk_at "go"
    refine cp_context (by omega) (by omega) (by omega) hb ?_
    rw [Int.toNat_natCast, Int.toNat_natCast]
    walk_at "go"
    refine Gx.ixL (SqL.of hz) nx_at ?_
    walk_at "go"
    refine Gx.ixL (SqL.of ho) nx_at ?_
    walk_at "go"
    exact Gx.tupP (by show 2 ≤ sizeLine; decide) q

theorem cp_Coding_shares {C x z o : Addr} {w : Nat} {bs : List Bool} {H : Hp} {Q : VK} {E : XK} (c : Cod C H x z o w bs) (hw : 0 < w) (hb : bs.length ≤ 100000)
    (q : ∀ (p : Addr), H p = none → Q (.ref p) (upd H p (.tup [.int (Iv.zs w bs (Iv.nx w bs) : Nat), .int (Iv.os w bs (Iv.nx w bs) : Nat)]))) : Gx.CP (sp_Coding_shares C) [.ref x] [] H Q E := ⟨x, z, o, w, bs, rfl, c, hw, hb, q⟩

def sp_Coding_border (C : Addr) : Sp := fun vs H Q _ => ∃ (x z o : Addr) (w : Nat) (bs : List Bool), vs = [.ref x] ∧ Cod C H x z o w bs ∧ 0 < w ∧ bs.length ≤ 100000 ∧
  ∀ (p : Addr) H', Same H H' → H p = none → H' p = some (.tup [.int (Kn.tp w bs : Nat), .int (Kn.bt w bs : Nat)]) → Q (.ref p) H'

theorem sc_Coding_border : FnScope ["self", "zeros", "ones", "both"] ["self"] (defScope s_Coding_border) := ⟨rfl, rfl, rfl, by decide +kernel, rfl, by decide +kernel, by decide +kernel⟩
theorem ok_Coding_border (T : Tx P K mg) : FnOk P w K mg base CX0 3 T.Coding_border.a T.Coding_border.d ["self"] (sp_Coding_border T.a_Coding) := by
  refine T.Coding_border.f.ok sc_Coding_border (fun vs H Q E h => ?_) (fun cdv A outer s H vs Q E hr h => ⟨_, pss_cons (ps_asg (pe_meth0 (pv 0) T.cl_Coding T.Coding_shares.m (ok_Coding_shares T) (hr.mono (by decide)) T.Coding_shares.b .nil pass0) (pg_tup rfl (pgs_cons (pg_name (i := 1) sc_Coding_border.nd rfl (Or.inl rfl)) (pgs_cons (pg_name (i := 2) sc_Coding_border.nd rfl (Or.inl rfl)) pgs_nil))))
      (pss_cons (ps_set (i := 3) sc_Coding_border.nd rfl (Or.inl rfl) (pe_op op_add (pv 1) (pv 2)))
      (pss_one (ps_ret (pe_tup (pa_cons (pe_op op_add (pe_op op_mul (pe_fld (pv 0) rfl) (pv 3)) (pe_op op_mul (pe_fld (pv 0) rfl) (pv 1))) (pa_cons (pe_op op_mul (pe_fld (pv 0) rfl) (pv 3)) pa_nil)))))), ?_⟩)
  · obtain ⟨x, z, o, w, bs, rfl, _⟩ := h
    rfl
  · skip
    obtain ⟨x, z, o, w, bs, rfl, cod, hw, hb, q⟩ := h
    obtain ⟨dx, hx⟩ := cod.ob
    have hzl := (Iv.zs_le w bs (Iv.nx w bs))
    have hol := (Iv.os_le w bs (Iv.nx w bs))
    walk_at "go"
    refine Gx.mp hx no_Coding_shares ?_
    walk_at "go"
    refine cp_Coding_shares cod hw hb fun ps hps => ?_
    have s1 := Gx.same_new (o := .tup [.int (Iv.zs w bs (Iv.nx w bs) : Nat), .int (Iv.os w bs (Iv.nx w bs) : Nat)]) hps
    refine Gx.gtup (SqT.of upd_same) rfl ?_
    have hx := s1 _ _ hx
    walk_at "go"
    refine Gx.ic (.inr (by omega)) ?_
    walk_at "go"
    refine Gx.ic (.inr (by omega)) ?_
    walk_at "go"
    refine Gx.ic (.inr (by omega)) ?_
    walk_at "go"
    refine Gx.tupP (by show 2 ≤ sizeLine; decide) fun p hp => ?_
    refine q p _ (s1.trans (Gx.same_new hp)) (s1.free hp) ?_
    rw [upd_same]
    simp only [Kn.tp, Kn.bt, Iv.both, Int.natCast_mul, Int.natCast_add]

theorem cp_Coding_border {C x z o : Addr} {w : Nat} {bs : List Bool} {H : Hp} {Q : VK} {E : XK} (c : Cod C H x z o w bs) (hw : 0 < w) (hb : bs.length ≤ 100000)
    (q : ∀ (p : Addr) H', Same H H' → H p = none → H' p = some (.tup [.int (Kn.tp w bs : Nat), .int (Kn.bt w bs : Nat)]) → Q (.ref p) H') : Gx.CP (sp_Coding_border C) [.ref x] [] H Q E := ⟨x, z, o, w, bs, rfl, c, hw, hb, q⟩

def sp_bit_of_cell (C : Addr) : Sp := fun vs H Q _ => ∃ (x z o : Addr) (w : Nat) (bs c : List Bool), vs = [.ref x, .str (Bs.S c), .int (I2.val c : Nat)] ∧ Cod C H x z o w bs ∧ 0 < w ∧ bs.length ≤ 290 ∧ c.length ≤ 1000 ∧
  ∀ H', Same H H' → ((I2.val c + 1) * Kn.bt w bs ≤ Kn.tp w bs * 2 ^ c.length → Q (.str (Bs.S [false])) H') ∧ (¬ (I2.val c + 1) * Kn.bt w bs ≤ Kn.tp w bs * 2 ^ c.length → Kn.tp w bs * 2 ^ c.length ≤ I2.val c * Kn.bt w bs → Q (.str (Bs.S [true])) H') ∧
    (¬ (I2.val c + 1) * Kn.bt w bs ≤ Kn.tp w bs * 2 ^ c.length → ¬ Kn.tp w bs * 2 ^ c.length ≤ I2.val c * Kn.bt w bs → Q .non H')

theorem sc_bit_of_cell : FnScope ["coding", "code", "value", "top", "bottom", "scaled"] ["coding", "code", "value"] (defScope s_bit_of_cell) := ⟨rfl, rfl, rfl, by decide +kernel, rfl, by decide +kernel, by decide +kernel⟩
theorem ok_bit_of_cell (T : Tx P K mg) : FnOk P w K mg base CX0 4 T.bit_of_cell.a T.bit_of_cell.d ["coding", "code", "value"] (sp_bit_of_cell T.a_Coding) := by
  refine T.bit_of_cell.f.ok sc_bit_of_cell (fun vs H Q E h => ?_) (fun cdv A outer s H vs Q E hr h => ⟨_, pss_cons (ps_asg (pe_meth0 (pv 0) T.cl_Coding T.Coding_border.m (ok_Coding_border T) (hr.mono (by decide)) T.Coding_border.b .nil pass0) (pg_tup rfl (pgs_cons (pg_name (i := 3) sc_bit_of_cell.nd rfl (Or.inl rfl)) (pgs_cons (pg_name (i := 4) sc_bit_of_cell.nd rfl (Or.inl rfl)) pgs_nil))))
      (pss_cons (ps_set (i := 5) sc_bit_of_cell.nd rfl (Or.inl rfl) (pe_op op_shlW (pv 3) (pe_callB (Gx.c_lenK (K := K) rfl) rfl T.n_len (by decide +kernel) (pa_cons (pv 1) pa_nil))))
      (pss_cons (ps_if (pt_cmpR op_le (pe_op op_mulW (pe_op op_add (pv 2) (pe_int)) (pv 4)) (pv 5) (nomark _)) (pss_one (ps_ret (pe_str))) (pss_nil))
      (pss_cons (ps_if (pt_cmpR op_le (pv 5) (pe_op op_mulW (pv 2) (pv 4)) (nomark _)) (pss_one (ps_ret (pe_str))) (pss_nil))
      (pss_one (ps_ret (pe_non)))))), ?_⟩)
  · obtain ⟨x, z, o, w, bs, c, rfl, _⟩ := h
    rfl
  · skip
    obtain ⟨x, z, o, w, bs, c, rfl, cod, hw, hb, hc, q⟩ := h
    obtain ⟨dx, hx⟩ := cod.ob
    walk_at "go"
    refine Gx.mp hx no_Coding_border ?_
    walk_at "go"
    refine cp_Coding_border cod hw (by omega) fun p H1 s1 hp0 hp => ?_
    refine Gx.gtup (SqT.of hp) rfl ?_
    obtain ⟨q1, q2, q3⟩ := q H1 s1
    have wl : ∀ {x : Nat} {k : Nat}, x < 2 ^ k → (x : Int).natAbs < 2 ^ k := fun h => by rw [Int.natAbs_natCast]; exact h
    have hzl := (Iv.zs_le w bs (Iv.nx w bs))
    have hol := (Iv.os_le w bs (Iv.nx w bs))
    have hwh := Iv.wh_pow (w := w) (bs := bs) (by omega)
    have hls := Iv.lo_sz w bs
    have b1 : Kn.bt w bs < 2 ^ 3010 := by
      have e : Kn.bt w bs ≤ 2 ^ 3000 * 1000 := by
        unfold Kn.bt Iv.both; exact Nat.mul_le_mul hwh (by omega)
      have e2 : (2 : Nat) ^ 3010 = 2 ^ 3000 * 1024 := by rw [show 3010 = 3000 + 10 from rfl, Nat.pow_add]
      have := Nat.two_pow_pos 3000
      omega
    have b2 : Kn.tp w bs < 2 ^ 3011 := by
      have e : Kn.tp w bs ≤ 2 ^ 3000 * 1000 := by
        unfold Kn.tp
        have e1 : Iv.lo w bs * Iv.both w bs ≤ Iv.lo w bs * 1000 := Nat.mul_le_mul_left _ (by unfold Iv.both; omega)
        have e2 : Iv.sz w bs * Iv.zs w bs (Iv.nx w bs) ≤ Iv.sz w bs * 1000 := Nat.mul_le_mul_left _ (by omega)
        have e3 : (Iv.lo w bs + Iv.sz w bs) * 1000 ≤ 2 ^ 3000 * 1000 := Nat.mul_le_mul_right _ (by omega)
        rw [Nat.add_mul] at e3; omega
      have e2 : (2 : Nat) ^ 3011 = 2 ^ 3000 * 2048 := by rw [show 3011 = 3000 + 11 from rfl, Nat.pow_add]
      have := Nat.two_pow_pos 3000
      omega
    have b3 : I2.val c + 1 < 2 ^ 1001 := by
      have e1 := Fb.val_lt c
      have e2 : 2 ^ c.length ≤ 2 ^ 1000 := Nat.pow_le_pow_right (by decide) hc
      have e3 : (2 : Nat) ^ 1001 = 2 ^ 1000 * 2 := rfl
      have := Nat.two_pow_pos 1000
      omega
    generalize Kn.tp w bs = top at *
    generalize Kn.bt w bs = bot at *
    generalize I2.val c = a at *
    walk_at "go"
    refine Bs.lenB (by omega) ?_
    refine Gx.ic (shl_ok (n := 3011) (wl b2) (by omega)) ?_
    walk_at "go"
    rw [Int.toNat_natCast]
    refine Gx.ic (wide_mul (a := 1001) (b := 3010) (wl (x := a + 1) b3) (wl b1) (by decide) (by decide) (by decide)) ?_
    walk_at "go"
    have f1 : decide (((a : Int) + 1) * (bot : Int) ≤ (top : Int) * 2 ^ c.length) = decide ((a + 1) * bot ≤ top * 2 ^ c.length) := by
      refine decide_eq_decide.mpr ?_
      rw [show ((a : Int) + 1) * (bot : Int) = (((a + 1) * bot : Nat) : Int) by rw [Int.natCast_mul]; rfl, show (top : Int) * 2 ^ c.length = ((top * 2 ^ c.length : Nat) : Int) by rw [Int.natCast_mul, Int.natCast_pow]; rfl]
      exact Int.ofNat_le
    have f2 : decide ((top : Int) * 2 ^ c.length ≤ (a : Int) * (bot : Int)) = decide (top * 2 ^ c.length ≤ a * bot) := by
      refine decide_eq_decide.mpr ?_
      rw [show (a : Int) * (bot : Int) = ((a * bot : Nat) : Int) by rw [Int.natCast_mul], show (top : Int) * 2 ^ c.length = ((top * 2 ^ c.length : Nat) : Int) by rw [Int.natCast_mul, Int.natCast_pow]; rfl]
      exact Int.ofNat_le
    rw [f1]
    refine Gx.if_d (fun h1 => ?_) (fun h1 => ?_)
    · walk_at "go"
      rw [Bs.lit0]
      exact q1 h1
    walk_at "go"
    refine Gx.ic (wide_mul (a := 1001) (b := 3010) (wl (x := a) (by omega)) (wl b1) (by decide) (by decide) (by decide)) ?_
    walk_at "go"
    rw [f2]
    refine Gx.if_d (fun h2 => ?_) (fun h2 => ?_)
    · walk_at "go"
      rw [Bs.lit1]
      exact q2 h1 h2
    walk_at "go"
    exact q3 h1 h2

theorem cp_bit_of_cell {C x z o : Addr} {w : Nat} {bs c : List Bool} {H : Hp} {Q : VK} {E : XK} (cod : Cod C H x z o w bs) (hw : 0 < w) (hb : bs.length ≤ 290) (hc : c.length ≤ 1000)
    (q : ∀ H', Same H H' → ((I2.val c + 1) * Kn.bt w bs ≤ Kn.tp w bs * 2 ^ c.length → Q (.str (Bs.S [false])) H') ∧ (¬ (I2.val c + 1) * Kn.bt w bs ≤ Kn.tp w bs * 2 ^ c.length → Kn.tp w bs * 2 ^ c.length ≤ I2.val c * Kn.bt w bs → Q (.str (Bs.S [true])) H') ∧
    (¬ (I2.val c + 1) * Kn.bt w bs ≤ Kn.tp w bs * 2 ^ c.length → ¬ Kn.tp w bs * 2 ^ c.length ≤ I2.val c * Kn.bt w bs → Q .non H')) : Gx.CP (sp_bit_of_cell C) [.ref x, .str (Bs.S c), .int (I2.val c : Nat)] [] H Q E := ⟨x, z, o, w, bs, c, rfl, cod, hw, hb, hc, q⟩

def sp_number_of : Sp := fun vs H Q _ => ∃ (bs : List Bool), vs = [.str (Bs.S bs)] ∧ bs.length ≤ 600 ∧ Q (.int (I2.val bs : Nat)) H

theorem sc_number_of : FnScope ["digits"] ["digits"] (defScope s_number_of) := ⟨rfl, rfl, rfl, by decide +kernel, rfl, by decide +kernel, by decide +kernel⟩
theorem ok_number_of (T : Tx P K mg) : FnOk P w K mg base CX0 1 T.number_of.a T.number_of.d ["digits"] (sp_number_of) := by
  refine T.number_of.f.ok sc_number_of (fun vs H Q E h => ?_) (fun cdv A outer s H vs Q E hr h => ⟨_, pss_one (ps_ret (pe_callTy I2.c_int2 rfl T.n_int (by decide +kernel) (pa_cons (pe_op Gx.o_addS (pe_str) (pv 0)) (pa_cons (pe_int) pa_nil)))), ?_⟩)
  · obtain ⟨bs, rfl, _⟩ := h
    rfl
  · skip
    obtain ⟨bs, rfl, hb, q⟩ := h
    walk_at "go"
    rw [Bs.lit0]
    refine Gx.addS (by rw [Bs.len, Bs.len, sizeLine_eq]; show 1 + _ ≤ _; omega) ?_
    rw [Bs.cat]
    walk_at "go"
    refine Fb.int2 (by intro h; cases h) (by rw [List.length_append]; show 1 + _ ≤ _; omega) ?_
    exact q

theorem cp_number_of {bs : List Bool} {H : Hp} {Q : VK} {E : XK} (hb : bs.length ≤ 600) (q : Q (.int (I2.val bs : Nat)) H) : Gx.CP sp_number_of [.str (Bs.S bs)] [] H Q E := ⟨bs, rfl, hb, q⟩

def pfV : Option (List Bool) → V
  | none => .non
  | some p => .str (Bs.S p)
def sp_prefix_of (C : Addr) : Sp := fun vs H Q _ => ∃ (w m : Nat) (c : List Bool), vs = [.int (w : Int), .int (m : Int), .str (Bs.S c)] ∧ 0 < w ∧ m ≤ 256 ∧ c.length ≤ 100000 ∧
  ∀ (r : Option (List Bool)) H', Same H H' → Kn.Known w m c r → Q (pfV r) H'

theorem sc_prefix_of : FnScope ["width", "count", "code", "value", "coding", "bit", "found"] ["width", "count", "code"] (defScope s_prefix_of) := ⟨rfl, rfl, rfl, by decide +kernel, rfl, by decide +kernel, by decide +kernel⟩
theorem ok_prefix_of (T : Tx P K mg) : FnOk P w K mg base CX0 8 T.prefix_of.a T.prefix_of.d ["width", "count", "code"] (sp_prefix_of T.a_Coding) := by
  refine T.prefix_of.f.ok sc_prefix_of (fun vs H Q E h => ?_) (fun cdv A outer s H vs Q E hr h => ⟨_, pss_cons (ps_if (pt_cmpR op_ge (pe_op op_mul (pe_int) (pe_callB (Gx.c_lenK (K := K) rfl) rfl T.n_len (by decide +kernel) (pa_cons (pv 2) pa_nil))) (pe_op op_add (pe_op op_mul (pe_int) (pv 1)) (pe_int)) (nomark _)) (pss_one (ps_ret (pe_non))) (pss_nil))
      (pss_cons (ps_set (i := 3) sc_prefix_of.nd rfl (Or.inl rfl) (pe_call (ok_number_of T) (hr.mono (by decide)) rfl T.number_of.g T.number_of.f.kp T.number_of.b .nil pass0 (pa_cons (pv 2) pa_nil)))
      (pss_cons (ps_set (i := 4) sc_prefix_of.nd rfl (Or.inl rfl) (pe_make ⟨T.mk_Coding, T.Coding___init__.m.at_, T.Coding___init__.m.fn, T.kp_Coding⟩ (ok_Coding___init__ T) (hr.mono (by decide)) rfl T.g_Coding T.Coding___init__.b .nil pass0 (pa_cons (pv 0) pa_nil)))
      (pss_cons (ps_while PassesOwn.never (pt_cmpR op_lt (pe_callB (Gx.c_lenK (K := K) rfl) rfl T.n_len (by decide +kernel) (pa_cons (pe_fld (pv 4) rfl) pa_nil)) (pv 1) (nomark _))
      (pss_cons (ps_set (i := 5) sc_prefix_of.nd rfl (Or.inl rfl) (pe_call (ok_bit_of_cell T) (hr.mono (by decide)) rfl T.bit_of_cell.g T.bit_of_cell.f.kp T.bit_of_cell.b .nil pass0 (pa_cons (pv 4) (pa_cons (pv 2) (pa_cons (pv 3) pa_nil)))))
      (pss_cons (ps_if (pt_cmpR op_isN (pv 5) (pe_non) (nomark _)) (pss_cons (ps_set (i := 6) sc_prefix_of.nd rfl (Or.inl rfl) (pe_call (ok_next_bits T) (hr.mono (by decide)) rfl T.next_bits.g T.next_bits.f.kp T.next_bits.b .nil pass0 (pa_cons (pv 0) (pa_cons (pv 1) (pa_cons (pv 2) (pa_cons (pe_fld (pv 4) rfl) pa_nil))))))
      (pss_cons (ps_if (pt_cmpR op_eq (pe_callB (Gx.c_lenK (K := K) rfl) rfl T.n_len (by decide +kernel) (pa_cons (pv 6) pa_nil)) (pe_int) (nomark _)) (pss_one (ps_ret (pe_fld (pv 4) rfl))) (pss_nil))
      (pss_cons (ps_if (pt_cmpR op_eq (pe_callB (Gx.c_lenK (K := K) rfl) rfl T.n_len (by decide +kernel) (pa_cons (pv 6) pa_nil)) (pe_int) (nomark _)) (pss_one (ps_ret (pe_non))) (pss_nil))
      (pss_one (ps_set (i := 5) sc_prefix_of.nd rfl (Or.inl rfl) (pe_ix (Gx.ix_seqK (K := K) rfl) (pv 6) (pe_int) (fun _ _ => rfl))))))) (pss_nil))
      (pss_one (ps_expr (pe_meth (pv 4) T.cl_Coding T.Coding_take.m (ok_Coding_take T) (hr.mono (by decide)) T.Coding_take.b .nil pass0 (pa_cons (pv 5) pa_nil)))))))
      (pss_one (ps_ret (pe_ifExp (pt_val (pe_call (ok_opens T) (hr.mono (by decide)) rfl T.opens.g T.opens.f.kp T.opens.b .nil pass0 (pa_cons (pv 0) (pa_cons (pv 2) (pa_cons (pe_fld (pv 4) rfl) pa_nil))))) (pe_fld (pv 4) rfl) (pe_non))))))), ?_⟩)
  · obtain ⟨w, m, c, rfl, _⟩ := h
    rfl
  · skip
    obtain ⟨w, m, c, rfl, hw, hm, hc, q⟩ := h
    walk_at "go"
    refine Bs.lenB (by omega) ?_
    refine Gx.ic (.inl (by decide)) ?_
    walk_at "go"
    refine Gx.ic (.inl (by decide)) ?_
    walk_at "go"
    refine Gx.if_d (fun hlong => ?_) (fun hlong => ?_)
    · walk_at "go"
      refine q none H (Same.refl H) fun bs hl hp => ?_
      have h1 := Iv.short (w := w) (bs := bs) hw
      have h2 := hp.length_le
      rw [Iv.code_len] at h2
      omega
    walk_at "go"
    refine cp_number_of (by omega) ?_
    walk_at "go"
    intro x dx hx hdx hne
    refine ⟨H, x, dx, w, rfl, upd_same, hw, Gx.same_up hx (Gx.same_new hdx), hx, fun z o H1 hz ho s1 c1 => ⟨rfl, ?_⟩⟩
    walk_at "go"
    refine Gx.whl (fun k σ' H' => ∃ (p : List Bool) (bv fv : Option V), k + p.length = m ∧ Same H H' ∧ Cod T.a_Coding H' x z o w p ∧ Kn.From w m c p ∧ σ' = [some (.int (w : Int)), some (.int (m : Int)), some (.str (Bs.S c)), some (.int (I2.val c : Nat)), some (.ref x), bv, fv]) m
      ⟨[], none, none, by simp, s1, c1, fun bs _ _ => List.nil_prefix, rfl⟩ ?_
    rintro k σ' H2 ⟨p, bv, fv, hkm, s2, c2, fr, rfl⟩
    obtain ⟨dx2, hx2⟩ := id c2.ob
    have hpm : p.length ≤ m := by omega
    walk_at "go"
    refine Bs.lenB (by omega) ?_
    walk_at "go"
    have keep : ∀ {H3 H4 : Hp}, Same H H3 → (∀ c, c ≠ x → c ≠ z → c ≠ o → H4 c = H3 c) → Same H H4 := fun s k a u ea => (k a (ne_of_none ea hx) (ne_of_none ea hz) (ne_of_none ea ho)).trans (s a u ea)
    refine Gx.whI_d (fun hlt => ?_) (fun hge => ?_)
    · have hlt2 : p.length < m := by omega
      walk_at "go"
      refine cp_bit_of_cell c2 hw (by omega) (by omega) fun H3 s3 => ⟨fun g1 => ?_, fun g1 g2 => ?_, fun g1 g2 => ?_⟩
      · walk_at "go"
        refine ⟨rfl, ?_⟩
        rw [decide_eq_false (by intro h; cases h)]
        walk_at "go"
        obtain ⟨dx3, hx3⟩ := (c2.keep s3).ob
        refine Gx.mp hx3 no_Coding_take ?_
        walk_at "go"
        refine cp_Coding_take (c2.keep s3) hw (by omega) fun H4 c4 k4 => ?_
        walk_at "go"
        refine ⟨k - 1, by omega, p ++ [false], _, _, by rw [List.length_append, List.length_singleton]; omega, keep (s2.trans s3) k4, c4, fun bs hl hc2 => ?_, rfl⟩
        rcases Kn.next_or (fr bs hl hc2) (by omega) with ⟨t, e⟩ | ⟨t, e⟩
        · rw [e]; exact Kn.pre_zero p t
        · rw [e] at hc2; exact absurd hc2 (Kn.no_one hw g1 t)
      · walk_at "go"
        refine ⟨rfl, ?_⟩
        rw [decide_eq_false (by intro h; cases h)]
        walk_at "go"
        obtain ⟨dx3, hx3⟩ := (c2.keep s3).ob
        refine Gx.mp hx3 no_Coding_take ?_
        walk_at "go"
        refine cp_Coding_take (c2.keep s3) hw (by omega) fun H4 c4 k4 => ?_
        walk_at "go"
        refine ⟨k - 1, by omega, p ++ [true], _, _, by rw [List.length_append, List.length_singleton]; omega, keep (s2.trans s3) k4, c4, fun bs hl hc2 => ?_, rfl⟩
        rcases Kn.next_or (fr bs hl hc2) (by omega) with ⟨t, e⟩ | ⟨t, e⟩
        · rw [e] at hc2; exact absurd hc2 (Kn.no_zero hw g2 t)
        · rw [e]; exact Kn.pre_one p t
      · walk_at "go"
        refine ⟨rfl, ?_⟩
        rw [decide_eq_true rfl]
        obtain ⟨dx3, hx3⟩ := id (c2.keep s3).ob
        walk_at "go"
        refine cp_next_bits hw hlt2 hm fun r H4 hr s4 hr4 => ?_
        have s34 := s3.trans s4
        have c4 := c2.keep s34
        obtain ⟨dx4, hx4⟩ := id c4.ob
        have lo1 : ∀ t, (p ++ false :: t).length = m → c <+: Iv.code w (p ++ false :: t) → c <+: Iv.code w (Kn.lower m p) := fun t hl => Kn.to_lower hw g1 hl
        have up1 : ∀ t, (p ++ true :: t).length = m → c <+: Iv.code w (p ++ true :: t) → c <+: Iv.code w (Kn.upper m p) := fun t hl => Kn.to_upper hw g2 hl
        walk_at "go"
        refine Gx.lenL (SqL.of hr4) ?_
        by_cases dl : c <+: Iv.code w (Kn.lower m p) <;> by_cases du : c <+: Iv.code w (Kn.upper m p)
        · rw [if_pos dl, if_pos du] at hr4 ⊢
          walk_at "go"
          refine Gx.if_dy (by decide) ?_
          walk_at "go"
          exact q (some p) H4 (s2.trans s34) ⟨hpm, fr, fun e => by omega, fun _ => ⟨dl, du⟩⟩
        · rw [if_pos dl, if_neg du] at hr4 ⊢
          walk_at "go"
          refine Gx.if_dno (by decide) ?_
          walk_at "go"
          refine Gx.lenL (SqL.of hr4) ?_
          walk_at "go"
          refine Gx.if_dno (by decide) ?_
          walk_at "go"
          refine Gx.ixL (SqL.of hr4) (at_of (j := 0) rfl rfl) ?_
          walk_at "go"
          refine Gx.mp hx4 no_Coding_take ?_
          walk_at "go"
          refine cp_Coding_take c4 hw (by omega) fun H5 c5 k5 => ?_
          walk_at "go"
          refine ⟨k - 1, by omega, p ++ [false], _, _, by rw [List.length_append, List.length_singleton]; omega, keep (s2.trans s34) k5, c5, fun bs hl hc2 => ?_, rfl⟩
          rcases Kn.next_or (fr bs hl hc2) (by omega) with ⟨t, e⟩ | ⟨t, e⟩
          · rw [e]; exact Kn.pre_zero p t
          · rw [e] at hc2 hl; exact absurd (up1 t hl hc2) du
        · rw [if_neg dl, if_pos du] at hr4 ⊢
          walk_at "go"
          refine Gx.if_dno (by decide) ?_
          walk_at "go"
          refine Gx.lenL (SqL.of hr4) ?_
          walk_at "go"
          refine Gx.if_dno (by decide) ?_
          walk_at "go"
          refine Gx.ixL (SqL.of hr4) (at_of (j := 0) rfl rfl) ?_
          walk_at "go"
          refine Gx.mp hx4 no_Coding_take ?_
          walk_at "go"
          refine cp_Coding_take c4 hw (by omega) fun H5 c5 k5 => ?_
          walk_at "go"
          refine ⟨k - 1, by omega, p ++ [true], _, _, by rw [List.length_append, List.length_singleton]; omega, keep (s2.trans s34) k5, c5, fun bs hl hc2 => ?_, rfl⟩
          rcases Kn.next_or (fr bs hl hc2) (by omega) with ⟨t, e⟩ | ⟨t, e⟩
          · rw [e] at hc2 hl; exact absurd (lo1 t hl hc2) dl
          · rw [e]; exact Kn.pre_one p t
        · rw [if_neg dl, if_neg du] at hr4 ⊢
          walk_at "go"
          refine Gx.if_dno (by decide) ?_
          walk_at "go"
          refine Gx.lenL (SqL.of hr4) ?_
          walk_at "go"
          refine Gx.if_dy (by decide) ?_
          walk_at "go"
          refine q none H4 (s2.trans s34) fun bs hl hc2 => ?_
          rcases Kn.next_or (fr bs hl hc2) (by omega) with ⟨t, e⟩ | ⟨t, e⟩
          · rw [e] at hc2 hl; exact dl (lo1 t hl hc2)
          · rw [e] at hc2 hl; exact du (up1 t hl hc2)
    · have epm : p.length = m := by omega
      walk_at "go"
      refine cp_opens (by omega) (by omega) fun H3 s3 => ?_
      rw [Int.toNat_natCast, Kn.sw]
      obtain ⟨dx3, hx3⟩ := (c2.keep s3).ob
      walk_at "go"
      refine Gx.if_d (fun h1 => ?_) (fun h1 => ?_)
      · walk_at "go"
        exact q (some p) H3 (s2.trans s3) ⟨hpm, fr, fun _ => h1, fun h => by omega⟩
      · walk_at "go"
        refine q none H3 (s2.trans s3) fun bs hl hc2 => ?_
        have e : p = bs := (fr bs hl hc2).eq_of_length (by omega)
        rw [← e] at hc2
        exact h1 hc2

theorem cp_prefix_of {C : Addr} {w m : Nat} {c : List Bool} {H : Hp} {Q : VK} {E : XK} (hw : 0 < w) (hm : m ≤ 256) (hc : c.length ≤ 100000) (q : ∀ (r : Option (List Bool)) H', Same H H' → Kn.Known w m c r → Q (pfV r) H') : Gx.CP (sp_prefix_of C) [.int (w : Int), .int (m : Int), .str (Bs.S c)] [] H Q E := ⟨w, m, c, rfl, hw, hm, hc, q⟩

/-- a number against its bounds -/
def sp_check_range (C : Addr) : Sp := fun vs H Q E => ∃ (z : Str) (v l m : Int), vs = [.str z, .int v, .int l, .int m] ∧ z.length ≤ 1000 ∧ (l ≤ v → v ≤ m → Q .non H) ∧ (¬ (l ≤ v ∧ v ≤ m) → Sx.Err C H z E)

theorem sc_check_range : FnScope ["name", "value", "least", "most"] ["name", "value", "least", "most"] (defScope s_check_range) := ⟨rfl, rfl, rfl, by decide +kernel, rfl, by decide +kernel, by decide +kernel⟩
theorem ok_check_range (T : Tx P K mg) : FnOk P w K mg base (L2.CX P w) 3 T.check_range.a T.check_range.d ["name", "value", "least", "most"] (sp_check_range T.x_OutOfRange.C) := by
  refine T.check_range.f.okX sc_check_range (fun vs H Q E h => ?_) (fun cdv A outer s H vs Q E hr h => ⟨_, pss_one (ps_if (PW.pt (pw_or (pt_cmpR op_lt (pv 1) (pv 2) (nomark _)) (pw_or1 (pt_cmpR op_gt (pv 1) (pv 3) (nomark _))))) (pss_one (ps_raise rfl (takes_of rfl rfl rfl rfl) (pmk_oex T.x_OutOfRange.o T.x_OutOfRange.i T.x_OutOfRange.t (ok_OutOfRange___init__ T) (hr.mono (by decide)) T.x_OutOfRange.b .nil pass0 rfl T.x_OutOfRange.g (pa_cons (pv 0) pa_nil)))) (pss_nil)), ?_⟩)
  · obtain ⟨z, v, l, m, rfl, _⟩ := h
    rfl
  · skip
    obtain ⟨z, v, l, m, rfl, hz, q, qe⟩ := h
    walk_at "go"
    refine Gx.if_d (fun h => ?_) (fun h => ?_)
    · walk_at "go"
      exact Sx.mkO hz (qe (by omega)).now fun R h => by walk_at "go"; exact h
    walk_at "go"
    refine Gx.if_d (fun h2 => ?_) (fun h2 => ?_)
    · walk_at "go"
      exact Sx.mkO hz (qe (by omega)).now fun R h => by walk_at "go"; exact h
    walk_at "go"
    exact q (by omega) (by omega)

theorem cpx_check_range {C : Addr} {z : Str} {v l m : Int} {H : Hp} {Q : VK} {E : XK} (q : l ≤ v → v ≤ m → Q .non H) (qe : ¬ (l ≤ v ∧ v ≤ m) → Sx.Err C H z E) (hz : z.length ≤ 1000 := by decide) : Gx.CP (sp_check_range C) [.str z, .int v, .int l, .int m] [] H Q E := ⟨z, v, l, m, rfl, hz, q, qe⟩
theorem cs_check_range {C : Addr} {z : Str} {v l m : Int} {H : Hp} {Q : VK} {E : XK} (q : l ≤ v → v ≤ m → Q .non H) (qe : ¬ (l ≤ v ∧ v ≤ m) → Sx.Err C H z E) (hz : z.length ≤ 1000 := by decide) : Sx.CS (sp_check_range C) [.str z, .int v, .int l, .int m] H Q E := ⟨z, v, l, m, rfl, hz, q, qe⟩
theorem cp_check_range {C : Addr} {z : Str} {v l m : Int} {H : Hp} {Q : VK} {E : XK} (h1 : l ≤ v) (h2 : v ≤ m) (q : Q .non H) (hz : z.length ≤ 1000 := by decide) : Gx.CP (sp_check_range C) [.str z, .int v, .int l, .int m] [] H Q E := ⟨z, v, l, m, rfl, hz, fun _ _ => q, fun h => absurd ⟨h1, h2⟩ h⟩

def sp_check_code (C : Addr) : Sp := fun vs H Q E => ∃ (bs : List Bool), vs = [.str (Bs.S bs)] ∧ bs.length ≤ 100000 ∧ (bs.length ≤ 400 → Q .non H) ∧ (¬ bs.length ≤ 400 → Sx.Err C H "code" E)

theorem sc_check_code : FnScope ["code"] ["code"] (defScope s_check_code) := ⟨rfl, rfl, rfl, by decide +kernel, rfl, by decide +kernel, by decide +kernel⟩
theorem ok_check_code (T : Tx P K mg) : FnOk P w K mg base (L2.CX P w) 3 T.check_code.a T.check_code.d ["code"] (sp_check_code T.x_OutOfRange.C) := by
  refine T.check_code.f.okX sc_check_code (fun vs H Q E h => ?_) (fun cdv A outer s H vs Q E hr h => ⟨_, pss_one (ps_if (pt_cmpR op_gt (pe_callB (Gx.c_lenK (K := K) rfl) rfl T.n_len (by decide +kernel) (pa_cons (pv 0) pa_nil)) (pe_glob (v := .int 400) rfl T.c_CODE_MOST ⟨_, rfl⟩) (nomark _)) (pss_one (ps_raise rfl (takes_of rfl rfl rfl rfl) (pmk_oex T.x_OutOfRange.o T.x_OutOfRange.i T.x_OutOfRange.t (ok_OutOfRange___init__ T) (hr.mono (by decide)) T.x_OutOfRange.b .nil pass0 rfl T.x_OutOfRange.g (pa_cons (pe_str) pa_nil)))) (pss_nil)), ?_⟩)
  · obtain ⟨bs, rfl, _⟩ := h
    rfl
  · skip
    obtain ⟨bs, rfl, hb, q, qe⟩ := h
    walk_at "go"
    refine Bs.lenB (by omega) ?_
    walk_at "go"
    refine Gx.if_d (fun a => ?_) (fun a => ?_)
    · walk_at "go"
      exact Sx.mkO (by decide) (qe (by omega)).now fun R h => by walk_at "go"; exact h
    walk_at "go"
    exact q (by omega)

theorem cs_check_code {C : Addr} {bs : List Bool} {H : Hp} {Q : VK} {E : XK} (hb : bs.length ≤ 100000) (q : bs.length ≤ 400 → Q .non H) (qe : ¬ bs.length ≤ 400 → Sx.Err C H "code" E) : Sx.CS (sp_check_code C) [.str (Bs.S bs)] H Q E := ⟨bs, rfl, hb, q, qe⟩

def sp_check_width (C : Addr) : Sp := fun vs H Q E => ∃ (v : Int), vs = [.int v] ∧ (1 ≤ v → v ≤ 16 → Q .non H) ∧ (¬ (1 ≤ v ∧ v ≤ 16) → Sx.Err C H "width" E)

theorem sc_check_width : FnScope ["width"] ["width"] (defScope s_check_width) := ⟨rfl, rfl, rfl, by decide +kernel, rfl, by decide +kernel, by decide +kernel⟩
theorem ok_check_width (T : Tx P K mg) : FnOk P w K mg base (L2.CX P w) 4 T.check_width.a T.check_width.d ["width"] (sp_check_width T.x_OutOfRange.C) := by
  refine T.check_width.f.okX sc_check_width (fun vs H Q E h => ?_) (fun cdv A outer s H vs Q E hr h => ⟨_, pss_one (ps_expr (pe_callS (ok_check_range T) (hr.mono (by decide)) rfl T.check_range.g T.check_range.f.kp T.check_range.b (fun σ => passAt (takes_of rfl rfl rfl rfl) σ) (pa_cons (pe_str) (pa_cons (pv 0) (pa_cons (pe_int) (pa_cons (pe_glob (v := .int 16) rfl T.c_WIDTH_MOST ⟨_, rfl⟩) pa_nil)))))), ?_⟩)
  · obtain ⟨v, rfl, _⟩ := h
    rfl
  · skip
    obtain ⟨v, rfl, q, qe⟩ := h
    walk_at "go"
    refine cs_check_range (fun a1 a2 => ?_) qe
    walk_at "go"
    exact q a1 a2

theorem cs_check_width {C : Addr} {v : Int} {H : Hp} {Q : VK} {E : XK} (q : 1 ≤ v → v ≤ 16 → Q .non H) (qe : ¬ (1 ≤ v ∧ v ≤ 16) → Sx.Err C H "width" E) : Sx.CS (sp_check_width C) [.int v] H Q E := ⟨v, rfl, q, qe⟩

def pfxBad (w m : Int) (n : Nat) : Option Str := if ¬ (1 ≤ w ∧ w ≤ 16) then some "width" else if ¬ (0 ≤ m ∧ m ≤ 256) then some "count" else if ¬ n ≤ 400 then some "code" else none
theorem pfxBad_none {w m : Int} {n : Nat} : pfxBad w m n = none ↔ (1 ≤ w ∧ w ≤ 16) ∧ (0 ≤ m ∧ m ≤ 256) ∧ n ≤ 400 := by
  unfold pfxBad
  by_cases h1 : 1 ≤ w ∧ w ≤ 16 <;> by_cases h2 : 0 ≤ m ∧ m ≤ 256 <;> by_cases h3 : n ≤ 400 <;> simp [h1, h2, h3]
def sp_check_prefix (C : Addr) : Sp := fun vs H Q E => ∃ (w m : Int) (c : List Bool), vs = [.int w, .int m, .str (Bs.S c)] ∧ c.length ≤ 100000 ∧ (pfxBad w m c.length = none → Q .non H) ∧ (∀ z, pfxBad w m c.length = some z → Sx.Err C H z E)

theorem sc_check_prefix : FnScope ["width", "count", "code"] ["width", "count", "code"] (defScope s_check_prefix) := ⟨rfl, rfl, rfl, by decide +kernel, rfl, by decide +kernel, by decide +kernel⟩
theorem ok_check_prefix (T : Tx P K mg) : FnOk P w K mg base (L2.CX P w) 5 T.check_prefix.a T.check_prefix.d ["width", "count", "code"] (sp_check_prefix T.x_OutOfRange.C) := by
  refine T.check_prefix.f.okX sc_check_prefix (fun vs H Q E h => ?_) (fun cdv A outer s H vs Q E hr h => ⟨_, pss_cons (ps_expr (pe_callS (ok_check_width T) (hr.mono (by decide)) rfl T.check_width.g T.check_width.f.kp T.check_width.b (fun σ => passAt (takes_of rfl rfl rfl rfl) σ) (pa_cons (pv 0) pa_nil)))
      (pss_cons (ps_expr (pe_callS (ok_check_range T) (hr.mono (by decide)) rfl T.check_range.g T.check_range.f.kp T.check_range.b (fun σ => passAt (takes_of rfl rfl rfl rfl) σ) (pa_cons (pe_str) (pa_cons (pv 1) (pa_cons (pe_int) (pa_cons (pe_glob (v := .int 256) rfl T.c_BITS_MOST ⟨_, rfl⟩) pa_nil))))))
      (pss_one (ps_expr (pe_callS (ok_check_code T) (hr.mono (by decide)) rfl T.check_code.g T.check_code.f.kp T.check_code.b (fun σ => passAt (takes_of rfl rfl rfl rfl) σ) (pa_cons (pv 2) pa_nil))))), ?_⟩)
  · obtain ⟨w, m, c, rfl, _⟩ := h
    rfl
  · skip
    obtain ⟨w, m, c, rfl, hc, q, qe⟩ := h
    unfold pfxBad at q qe
    walk_at "go"
    refine cs_check_width (fun a1 a2 => ?_) (fun a => qe _ (if_pos a))
    rw [if_neg (not_not_intro ⟨a1, a2⟩)] at q qe
    walk_at "go"
    refine cs_check_range (fun b1 b2 => ?_) (fun a => qe _ (if_pos a))
    rw [if_neg (not_not_intro ⟨b1, b2⟩)] at q qe
    walk_at "go"
    refine cs_check_code hc (fun c1 => ?_) (fun a => qe _ (if_pos a))
    rw [if_neg (not_not_intro c1)] at q
    walk_at "go"
    exact q rfl

theorem cs_check_prefix {C : Addr} {w m : Int} {c : List Bool} {H : Hp} {Q : VK} {E : XK} (hc : c.length ≤ 100000) (q : pfxBad w m c.length = none → Q .non H) (qe : ∀ z, pfxBad w m c.length = some z → Sx.Err C H z E) : Sx.CS (sp_check_prefix C) [.int w, .int m, .str (Bs.S c)] H Q E := ⟨w, m, c, rfl, hc, q, qe⟩

def smpBad (w m j : Int) (n : Nat) (z : Str) : Option Str := match pfxBad w m n with
  | some s => some s
  | none => if ¬ (0 ≤ j ∧ j ≤ m - 1) then some "place" else if ¬ z ∈ (["0", "1"] : List Str) then some "bit" else none
theorem bit_of {z : Str} (h : z ∈ (["0", "1"] : List Str)) : ∃ b, z = Bs.S [b] := by
  rcases List.mem_cons.mp h with e | e
  · exact ⟨false, e.trans Bs.lit0⟩
  · rcases List.mem_cons.mp e with e | e
    · exact ⟨true, e.trans Bs.lit1⟩
    · cases e
def sp_sample (C : Addr) : Sp := fun vs H Q E => ∃ (w m j : Int) (c : List Bool) (z : Str), vs = [.int w, .int m, .str (Bs.S c), .int j, .str z] ∧ c.length ≤ 100000 ∧
  (smpBad w m j c.length z = none → ∀ v H', Same H H' → Q v H') ∧ (∀ s, smpBad w m j c.length z = some s → Sx.Err C H s E)

theorem sc_sample : FnScope ["width", "count", "code", "place", "bit", "prefix"] ["width", "count", "code", "place", "bit"] (defScope s_sample) := ⟨rfl, rfl, rfl, by decide +kernel, rfl, by decide +kernel, by decide +kernel⟩
theorem ok_sample (T : Tx P K mg) : FnOk P w K mg base (L2.CX P w) 9 T.sample.a T.sample.d ["width", "count", "code", "place", "bit"] (sp_sample T.x_OutOfRange.C) := by
  refine T.sample.f.okX sc_sample (fun vs H Q E h => ?_) (fun cdv A outer s H vs Q E hr h => ⟨_, pss_cons (ps_expr (pe_callS (ok_check_prefix T) (hr.mono (by decide)) rfl T.check_prefix.g T.check_prefix.f.kp T.check_prefix.b (fun σ => passAt (takes_of rfl rfl rfl rfl) σ) (pa_cons (pv 0) (pa_cons (pv 1) (pa_cons (pv 2) pa_nil)))))
      (pss_cons (ps_expr (pe_callS (ok_check_range T) (hr.mono (by decide)) rfl T.check_range.g T.check_range.f.kp T.check_range.b (fun σ => passAt (takes_of rfl rfl rfl rfl) σ) (pa_cons (pe_str) (pa_cons (pv 3) (pa_cons (pe_int) (pa_cons (pe_op op_sub (pv 1) (pe_int)) pa_nil))))))
      (pss_cons (ps_if (pt_cmpR op_notIn_seq (pv 4) (pe_tup (pa_cons (pe_str) (pa_cons (pe_str) pa_nil))) (by rfl)) (pss_one (ps_raise rfl (takes_of rfl rfl rfl rfl) (pmk_oex T.x_OutOfRange.o T.x_OutOfRange.i T.x_OutOfRange.t (ok_OutOfRange___init__ T) (hr.mono (by decide)) T.x_OutOfRange.b .nil pass0 rfl T.x_OutOfRange.g (pa_cons (pe_str) pa_nil)))) (pss_nil))
      (pss_cons (ps_set (i := 5) sc_sample.nd rfl (Or.inl rfl) (pe_call (ok_prefix_of T) (hr.mono (by decide)) rfl T.prefix_of.g T.prefix_of.f.kp T.prefix_of.b .nil pass0 (pa_cons (pv 0) (pa_cons (pv 1) (pa_cons (pv 2) pa_nil)))))
      (pss_one (ps_ret (pe_ifExp (pt_cmpR op_isN (pv 5) (pe_non) (nomark _)) (pe_non) (pe_call (ok_sample_of T) (hr.mono (by decide)) rfl T.sample_of.g T.sample_of.f.kp T.sample_of.b .nil pass0 (pa_cons (pv 5) (pa_cons (pv 1) (pa_cons (pv 3) (pa_cons (pv 4) pa_nil))))))))))), ?_⟩)
  · obtain ⟨w, m, j, c, z, rfl, _⟩ := h
    rfl
  · skip
    obtain ⟨w, m, j, c, z, rfl, hc, q, qe⟩ := h
    unfold smpBad at q qe
    walk_at "go"
    refine cs_check_prefix hc (fun ok => ?_) (fun s e => qe s (by rw [e]))
    obtain ⟨⟨w1, w2⟩, ⟨m1, m2⟩, c1⟩ := pfxBad_none.mp ok
    rw [ok] at q qe
    simp only [] at q qe
    walk_at "go"
    refine cs_check_range (fun b1 b2 => ?_) (fun a => qe _ (if_pos a))
    rw [if_neg (not_not_intro ⟨b1, b2⟩)] at q qe
    walk_at "go"
    refine Gx.tupP (by show 2 ≤ sizeLine; decide) fun t ht => ?_
    have s1 := Gx.same_new (o := .tup ([("0" : Str), "1"].map V.str)) ht
    refine Gx.inTS (xs := ["0", "1"]) (SqT.of upd_same) ?_
    by_cases hz : z ∈ (["0", "1"] : List Str)
    · rw [if_neg (not_not_intro hz)] at q
      rw [show (if true = true then !decide (z ∈ (["0", "1"] : List Str)) else decide (z ∈ (["0", "1"] : List Str))) = false by rw [if_pos rfl, decide_eq_true hz]; rfl]
      obtain ⟨b, rfl⟩ := bit_of hz
      obtain ⟨w, rfl⟩ : ∃ n : Nat, w = n := ⟨w.toNat, by omega⟩
      obtain ⟨m, rfl⟩ : ∃ n : Nat, m = n := ⟨m.toNat, by omega⟩
      walk_at "go"
      refine cp_prefix_of (by omega) (by omega) (by omega) fun r H2 s2 kn => ?_
      have q := fun v => q rfl v H2 (s1.trans s2)
      cases r with
      | none =>
        show gName 5 (.non) _ _ _
        walk_at "go"
        refine ⟨rfl, ?_⟩
        rw [decide_eq_true rfl]
        walk_at "go"
        exact q _
      | some p =>
        show gName 5 (.str (Bs.S p)) _ _ _
        walk_at "go"
        refine ⟨rfl, ?_⟩
        rw [decide_eq_false (by intro h; cases h)]
        walk_at "go"
        have := kn.1
        refine cp_sample_of (by omega) (by omega) (by omega) (by omega) ?_
        exact q _
    · rw [show (if true = true then !decide (z ∈ (["0", "1"] : List Str)) else decide (z ∈ (["0", "1"] : List Str))) = true by rw [if_pos rfl, decide_eq_false hz]; rfl]
      walk_at "go"
      exact Sx.mkO (by decide) ((qe _ (if_pos hz)).mono s1).now fun R h => by walk_at "go"; exact h

theorem cs_sample {C : Addr} {w m j : Int} {c : List Bool} {z : Str} {H : Hp} {Q : VK} {E : XK} (hc : c.length ≤ 100000) (q : smpBad w m j c.length z = none → ∀ v H', Same H H' → Q v H') (qe : ∀ s, smpBad w m j c.length z = some s → Sx.Err C H s E) : Sx.CS (sp_sample C) [.int w, .int m, .str (Bs.S c), .int j, .str z] H Q E := ⟨w, m, j, c, z, rfl, hc, q, qe⟩

def sp_possible_or_beside : Sp := fun vs H Q _ => ∃ (w : Nat) (c bs : List Bool) (step : Int), vs = [.int (w : Int), .str (Bs.S c), .str (Bs.S bs), .int step] ∧ 0 < w ∧ bs.length ≤ 256 ∧ (step = 1 ∨ step = -1) ∧
  ∀ H', Same H H' → (Rk.Ps w bs.length c (I2.val bs) → Q (.str (Bs.S bs)) H') ∧
    (¬ Rk.Ps w bs.length c (I2.val bs) → ∀ v : Nat, (v : Int) = (I2.val bs : Int) + step → v < 2 ^ bs.length → Rk.Ps w bs.length c v → Q (.str (Bs.S (Fb.bin bs.length v))) H') ∧
    (¬ Rk.Ps w bs.length c (I2.val bs) → (∀ v : Nat, (v : Int) = (I2.val bs : Int) + step → v < 2 ^ bs.length → ¬ Rk.Ps w bs.length c v) → Q .non H')

theorem sc_possible_or_beside : FnScope ["width", "code", "bits", "step", "value", "beside"] ["width", "code", "bits", "step"] (defScope s_possible_or_beside) := ⟨rfl, rfl, rfl, by decide +kernel, rfl, by decide +kernel, by decide +kernel⟩
theorem ok_possible_or_beside (T : Tx P K mg) : FnOk P w K mg base CX0 7 T.possible_or_beside.a T.possible_or_beside.d ["width", "code", "bits", "step"] (sp_possible_or_beside) := by
  refine T.possible_or_beside.f.ok sc_possible_or_beside (fun vs H Q E h => ?_) (fun cdv A outer s H vs Q E hr h => ⟨_, pss_cons (ps_if (pt_val (pe_call (ok_opens T) (hr.mono (by decide)) rfl T.opens.g T.opens.f.kp T.opens.b .nil pass0 (pa_cons (pv 0) (pa_cons (pv 1) (pa_cons (pv 2) pa_nil))))) (pss_one (ps_ret (pv 2))) (pss_nil))
      (pss_cons (ps_set (i := 4) sc_possible_or_beside.nd rfl (Or.inl rfl) (pe_op op_add (pe_call (ok_number_of T) (hr.mono (by decide)) rfl T.number_of.g T.number_of.f.kp T.number_of.b .nil pass0 (pa_cons (pv 2) pa_nil)) (pv 3)))
      (pss_cons (ps_if (PW.pt (pw_or (pt_cmpR op_lt (pv 4) (pe_int) (nomark _)) (pw_or1 (pt_cmpR op_ge (pv 4) (pe_op op_shlW (pe_int) (pe_callB (Gx.c_lenK (K := K) rfl) rfl T.n_len (by decide +kernel) (pa_cons (pv 2) pa_nil))) (nomark _))))) (pss_one (ps_ret (pe_non))) (pss_nil))
      (pss_cons (ps_set (i := 5) sc_possible_or_beside.nd rfl (Or.inl rfl) (pe_call (ok_digits_of T) (hr.mono (by decide)) rfl T.digits_of.g T.digits_of.f.kp T.digits_of.b .nil pass0 (pa_cons (pv 4) (pa_cons (pe_callB (Gx.c_lenK (K := K) rfl) rfl T.n_len (by decide +kernel) (pa_cons (pv 2) pa_nil)) pa_nil))))
      (pss_one (ps_ret (pe_ifExp (pt_val (pe_call (ok_opens T) (hr.mono (by decide)) rfl T.opens.g T.opens.f.kp T.opens.b .nil pass0 (pa_cons (pv 0) (pa_cons (pv 1) (pa_cons (pv 5) pa_nil))))) (pv 5) (pe_non))))))), ?_⟩)
  · obtain ⟨w, c, bs, step, rfl, _⟩ := h
    rfl
  · skip
    obtain ⟨w, c, bs, step, rfl, hw, hb, hst, q⟩ := h
    have hlt := Fb.val_lt bs
    walk_at "go"
    refine cp_opens (by omega) (by omega) fun H1 s1 => ?_
    rw [Int.toNat_natCast, Kn.sw]
    have e0 : Rk.Ps w bs.length c (I2.val bs) ↔ c <+: Iv.code w bs := by unfold Rk.Ps; rw [Fb.bin_val]
    walk_at "go"
    refine Gx.if_d (fun h1 => ?_) (fun h1 => ?_)
    · walk_at "go"
      exact (q H1 s1).1 (e0.mpr h1)
    have n0 : ¬ Rk.Ps w bs.length c (I2.val bs) := fun z => h1 (e0.mp z)
    walk_at "go"
    refine cp_number_of (by omega) ?_
    walk_at "go"
    refine Gx.if_d (fun h2 => ?_) (fun h2 => ?_)
    · walk_at "go"
      exact (q H1 s1).2.2 n0 (fun v hv _ => by omega)
    walk_at "go"
    refine Bs.lenB (by omega) ?_
    refine Gx.ic (shl_ok (n := 1) (by decide) (by omega)) ?_
    walk_at "go"
    rw [Gy.pw]
    refine Gx.if_d (fun h3 => ?_) (fun h3 => ?_)
    · walk_at "go"
      exact (q H1 s1).2.2 n0 (fun v hv hv2 => by omega)
    obtain ⟨v, hv⟩ : ∃ v : Nat, (I2.val bs : Int) + step = (v : Int) := ⟨((I2.val bs : Int) + step).toNat, by omega⟩
    rw [hv] at h3 ⊢
    walk_at "go"
    refine Bs.lenB (by omega) ?_
    walk_at "go"
    refine cp_digits_of (by omega) (by omega) (by omega) ?_
    rw [Int.toNat_natCast, Int.toNat_natCast]
    walk_at "go"
    refine cp_opens (by omega) (by rw [Fb.bin_len]; omega) fun H2 s2 => ?_
    rw [Int.toNat_natCast, Kn.sw]
    walk_at "go"
    refine Gx.if_d (fun h4 => ?_) (fun h4 => ?_)
    · walk_at "go"
      exact (q H2 (s1.trans s2)).2.1 n0 v hv.symm (by omega) h4
    · walk_at "go"
      refine (q H2 (s1.trans s2)).2.2 n0 fun v' hv' _ z => ?_
      have : v' = v := by omega
      subst this
      exact h4 z

theorem cp_possible_or_beside {w : Int} {c bs : List Bool} {step : Int} {H : Hp} {Q : VK} {E : XK} (hw : 0 < w) (hb : bs.length ≤ 256) (hst : step = 1 ∨ step = -1) (q : ∀ H', Same H H' → (Rk.Ps w.toNat bs.length c (I2.val bs) → Q (.str (Bs.S bs)) H') ∧
    (¬ Rk.Ps w.toNat bs.length c (I2.val bs) → ∀ v : Nat, (v : Int) = (I2.val bs : Int) + step → v < 2 ^ bs.length → Rk.Ps w.toNat bs.length c v → Q (.str (Bs.S (Fb.bin bs.length v))) H') ∧
    (¬ Rk.Ps w.toNat bs.length c (I2.val bs) → (∀ v : Nat, (v : Int) = (I2.val bs : Int) + step → v < 2 ^ bs.length → ¬ Rk.Ps w.toNat bs.length c v) → Q .non H')) : Gx.CP sp_possible_or_beside [.int w, .str (Bs.S c), .str (Bs.S bs), .int step] [] H Q E :=
  ⟨w.toNat, c, bs, step, by rw [List.append_nil, Int.toNat_of_nonneg (Int.le_of_lt hw)], by omega, hb, hst, q⟩

def sp_bits_at (C : Addr) : Sp := fun vs H Q _ => ∃ (w m T k : Nat), vs = [.int (w : Int), .int (m : Int), .int (T : Int), .int (k : Int)] ∧ 0 < w ∧ m ≤ 256 ∧ T ≤ 2 ^ k ∧ k ≤ 1000 ∧
  ∀ (bs : List Bool) H', Same H H' → bs.length = m → Rk.At w T k bs → Q (.str (Bs.S bs)) H'

theorem sc_bits_at : FnScope ["width", "count", "top", "digits", "coding", "_", "border", "bottom"] ["width", "count", "top", "digits"] (defScope s_bits_at) := ⟨rfl, rfl, rfl, by decide +kernel, rfl, by decide +kernel, by decide +kernel⟩
theorem ok_bits_at (T : Tx P K mg) : FnOk P w K mg base CX0 4 T.bits_at.a T.bits_at.d ["width", "count", "top", "digits"] (sp_bits_at T.a_Coding) := by
  refine T.bits_at.f.ok sc_bits_at (fun vs H Q E h => ?_) (fun cdv A outer s H vs Q E hr h => ⟨_, pss_cons (ps_set (i := 4) sc_bits_at.nd rfl (Or.inl rfl) (pe_make ⟨T.mk_Coding, T.Coding___init__.m.at_, T.Coding___init__.m.fn, T.kp_Coding⟩ (ok_Coding___init__ T) (hr.mono (by decide)) rfl T.g_Coding T.Coding___init__.b .nil pass0 (pa_cons (pv 0) pa_nil)))
      (pss_cons (ps_for PassesOwn.never rfl (pi_range1 rfl T.n_range (pa_cons (pv 1) pa_nil)) (pg_name (i := 5) sc_bits_at.nd rfl (Or.inl rfl))
      (pss_cons (ps_asg (pe_meth0 (pv 4) T.cl_Coding T.Coding_border.m (ok_Coding_border T) (hr.mono (by decide)) T.Coding_border.b .nil pass0) (pg_tup rfl (pgs_cons (pg_name (i := 6) sc_bits_at.nd rfl (Or.inl rfl)) (pgs_cons (pg_name (i := 7) sc_bits_at.nd rfl (Or.inl rfl)) pgs_nil))))
      (pss_one (ps_expr (pe_meth (pv 4) T.cl_Coding T.Coding_take.m (ok_Coding_take T) (hr.mono (by decide)) T.Coding_take.b .nil pass0 (pa_cons (pe_ifExp (pt_cmpR op_le (pe_op op_shlW (pv 6) (pv 3)) (pe_op op_mulW (pv 2) (pv 7)) (nomark _)) (pe_str) (pe_str)) pa_nil))))))
      (pss_one (ps_ret (pe_fld (pv 4) rfl)))), ?_⟩)
  · obtain ⟨w, m, t, k, rfl, _⟩ := h
    rfl
  · skip
    obtain ⟨w, m, t, k, rfl, hw, hm, ht, hk, q⟩ := h
    walk_at "go"
    intro x dx hx hdx hne
    refine ⟨H, x, dx, w, rfl, upd_same, hw, Gx.same_up hx (Gx.same_new hdx), hx, fun z o H1 hz ho s1 c1 => ⟨rfl, ?_⟩⟩
    walk_at "go"
    refine Gx.r1 (by omega) (by omega) ?_
    rw [Int.toNat_natCast]
    refine Gx.fw walk_range (fun i σ' H' => ∃ (p : List Bool) (v1 v2 v3 : Option V), p.length = i ∧ Same H H' ∧ Cod T.a_Coding H' x z o w p ∧ Rk.At w t k p ∧ σ' = [some (.int (w : Int)), some (.int (m : Int)), some (.int (t : Int)), some (.int (k : Int)), some (.ref x), v1, v2, v3]) ⟨[], none, none, none, rfl, s1, c1, Rk.at_nil w t k, rfl⟩ (fun _ _ _ _ _ => trivial) ?_ ?_
    · rintro i v σ' H2 H2' hi ⟨p, v1, v2, v3, hp, s2, c2, ha, rfl⟩ ⟨rfl, hx2⟩
      have keep : ∀ {H3 H4 : Hp}, Same H H3 → (∀ c, c ≠ x → c ≠ z → c ≠ o → H4 c = H3 c) → Same H H4 := fun s k a u ea => (k a (ne_of_none ea hx) (ne_of_none ea hz) (ne_of_none ea ho)).trans (s a u ea)
      obtain ⟨dx2, hx3⟩ := id c2.ob
      walk_at "go"
      refine Gx.mp hx3 no_Coding_border ?_
      walk_at "go"
      refine cp_Coding_border c2 hw (by omega) fun pt H3 s3 hpt0 hpt => ?_
      refine Gx.gtup (SqT.of hpt) rfl ?_
      have c3 := c2.keep s3
      obtain ⟨dx3, hx4⟩ := id c3.ob
      walk_at "go"
      refine Gx.mp hx4 no_Coding_take ?_
      have wl : ∀ {x : Nat} {k : Nat}, x < 2 ^ k → (x : Int).natAbs < 2 ^ k := fun h => by rw [Int.natAbs_natCast]; exact h
      have hzl := (Iv.zs_le w p (Iv.nx w p))
      have hol := (Iv.os_le w p (Iv.nx w p))
      have hwh := Iv.wh_pow (w := w) (bs := p) (by omega)
      have b1 : Kn.bt w p < 2 ^ 3010 := by
        have e : Kn.bt w p ≤ 2 ^ 3000 * 1000 := by
          unfold Kn.bt Iv.both; exact Nat.mul_le_mul hwh (by omega)
        have e2 : (2 : Nat) ^ 3010 = 2 ^ 3000 * 1024 := by rw [show 3010 = 3000 + 10 from rfl, Nat.pow_add]
        have := Nat.two_pow_pos 3000
        omega
      have b2 : Kn.tp w p < 2 ^ 3010 := Nat.lt_of_le_of_lt (Rk.tp_le w p) b1
      have b3 : t < 2 ^ 1001 := by
        have e2 : 2 ^ k ≤ 2 ^ 1000 := Nat.pow_le_pow_right (by decide) hk
        have e3 : (2 : Nat) ^ 1001 = 2 ^ 1000 * 2 := rfl
        have := Nat.two_pow_pos 1000
        omega
      have a1 := fun h => Rk.at_one hw ha h
      have a0 := fun h => Rk.at_zero hw ha h
      generalize Kn.tp w p = top at *
      generalize Kn.bt w p = bot at *
      walk_at "go"
      refine Gx.ic (shl_ok (n := 3010) (wl b2) (by omega)) ?_
      walk_at "go"
      rw [Int.toNat_natCast]
      refine Gx.ic (wide_mul (a := 1001) (b := 3010) (wl b3) (wl b1) (by decide) (by decide) (by decide)) ?_
      walk_at "go"
      have f1 : decide ((top : Int) * 2 ^ k ≤ (t : Int) * (bot : Int)) = decide (top * 2 ^ k ≤ t * bot) := by
        refine decide_eq_decide.mpr ?_
        rw [show (t : Int) * (bot : Int) = ((t * bot : Nat) : Int) by rw [Int.natCast_mul], show (top : Int) * 2 ^ k = ((top * 2 ^ k : Nat) : Int) by rw [Int.natCast_mul, Int.natCast_pow]; rfl]
        exact Int.ofNat_le
      rw [f1]
      refine Gx.if_d (fun h1 => ?_) (fun h1 => ?_)
      · walk_at "go"
        rw [Bs.lit1]
        refine cp_Coding_take c3 hw (by omega) fun H4 c4 k4 => ?_
        walk_at "go"
        exact ⟨p ++ [true], _, _, _, by rw [List.length_append, List.length_singleton, hp], keep (s2.trans s3) k4, c4, a1 h1, rfl⟩
      · walk_at "go"
        rw [Bs.lit0]
        refine cp_Coding_take c3 hw (by omega) fun H4 c4 k4 => ?_
        walk_at "go"
        exact ⟨p ++ [false], _, _, _, by rw [List.length_append, List.length_singleton, hp], keep (s2.trans s3) k4, c4, a0 h1, rfl⟩
    · rintro σ' H2 ⟨p, v1, v2, v3, hp, s2, c2, ha, rfl⟩
      obtain ⟨dx2, hx3⟩ := id c2.ob
      walk_at "go"
      exact q p H2 s2 hp ha

theorem cp_bits_at {C : Addr} {w m T k : Int} {H : Hp} {Q : VK} {E : XK} (hw : 0 < w) (h0 : 0 ≤ m) (hm : m ≤ 256) (ht0 : 0 ≤ T) (hk0 : 0 ≤ k) (hk : k ≤ 1000) (ht : T.toNat ≤ 2 ^ k.toNat) (q : ∀ (bs : List Bool) H', Same H H' → bs.length = m.toNat → Rk.At w.toNat T.toNat k.toNat bs → Q (.str (Bs.S bs)) H') : Gx.CP (sp_bits_at C) [.int w, .int m, .int T, .int k] [] H Q E :=
  ⟨w.toNat, m.toNat, T.toNat, k.toNat, by rw [List.append_nil, Int.toNat_of_nonneg (Int.le_of_lt hw), Int.toNat_of_nonneg h0, Int.toNat_of_nonneg ht0, Int.toNat_of_nonneg hk0], by omega, by omega, ht, by omega, q⟩

def sp_first_bits (C : Addr) : Sp := fun vs H Q _ => ∃ (w m : Nat) (c : List Bool), vs = [.int (w : Int), .int (m : Int), .str (Bs.S c)] ∧ 0 < w ∧ m ≤ 256 ∧ c.length ≤ 500 ∧
  ∀ (r : Option Nat) H', Same H H' → Rk.Fst w m c r → Q (Rk.orV m r) H'

theorem sc_first_bits : FnScope ["width", "count", "code", "bits"] ["width", "count", "code"] (defScope s_first_bits) := ⟨rfl, rfl, rfl, by decide +kernel, rfl, by decide +kernel, by decide +kernel⟩
theorem ok_first_bits (T : Tx P K mg) : FnOk P w K mg base CX0 8 T.first_bits.a T.first_bits.d ["width", "count", "code"] (sp_first_bits T.a_Coding) := by
  refine T.first_bits.f.ok sc_first_bits (fun vs H Q E h => ?_) (fun cdv A outer s H vs Q E hr h => ⟨_, pss_cons (ps_set (i := 3) sc_first_bits.nd rfl (Or.inl rfl) (pe_call (ok_bits_at T) (hr.mono (by decide)) rfl T.bits_at.g T.bits_at.f.kp T.bits_at.b .nil pass0 (pa_cons (pv 0) (pa_cons (pv 1) (pa_cons (pe_call (ok_number_of T) (hr.mono (by decide)) rfl T.number_of.g T.number_of.f.kp T.number_of.b .nil pass0 (pa_cons (pv 2) pa_nil)) (pa_cons (pe_callB (Gx.c_lenK (K := K) rfl) rfl T.n_len (by decide +kernel) (pa_cons (pv 2) pa_nil)) pa_nil))))))
      (pss_one (ps_ret (pe_call (ok_possible_or_beside T) (hr.mono (by decide)) rfl T.possible_or_beside.g T.possible_or_beside.f.kp T.possible_or_beside.b .nil pass0 (pa_cons (pv 0) (pa_cons (pv 2) (pa_cons (pv 3) (pa_cons (pe_int) pa_nil))))))), ?_⟩)
  · obtain ⟨w, m, c, rfl, _⟩ := h
    rfl
  · skip
    obtain ⟨w, m, c, rfl, hw, hm, hc, q⟩ := h
    have hlt := Fb.val_lt c
    walk_at "go"
    refine cp_number_of (by omega) ?_
    walk_at "go"
    refine Bs.lenB (by omega) ?_
    walk_at "go"
    refine cp_bits_at (by omega) (by omega) (by omega) (by omega) (by omega) (by omega) (by rw [Int.toNat_natCast, Int.toNat_natCast]; omega) fun bs H1 s1 hl ha => ?_
    rw [Int.toNat_natCast] at hl ha
    rw [Int.toNat_natCast, Int.toNat_natCast] at ha
    subst hl
    have e := Fb.bin_val bs
    have hv := Fb.val_lt bs
    have ff := Rk.fst_of (m := bs.length) (v0 := I2.val bs) (c := c) hw hv (by rw [e]; exact ha)
    walk_at "go"
    refine cp_possible_or_beside (by omega) (by omega) (.inl rfl) fun H2 s2 => ?_
    rw [Int.toNat_natCast]
    refine ⟨fun h => ?_, fun h v hv1 hv2 hv3 => ?_, fun h hn => ?_⟩
    · have := q _ H2 (s1.trans s2) (ff.1 h)
      rw [show Rk.orV bs.length (some (I2.val bs)) = .str (Bs.S bs) from congrArg (fun x => V.str (Bs.S x)) e] at this
      exact this
    · have ev : v = I2.val bs + 1 := by omega
      subst ev
      exact q _ H2 (s1.trans s2) (ff.2.1 h hv2 hv3)
    · exact q _ H2 (s1.trans s2) (ff.2.2 h fun h2 => hn _ rfl h2)

theorem cp_first_bits {C : Addr} {w m : Int} {c : List Bool} {H : Hp} {Q : VK} {E : XK} (hw : 0 < w) (h0 : 0 ≤ m) (hm : m ≤ 256) (hc : c.length ≤ 500) (q : ∀ (r : Option Nat) H', Same H H' → Rk.Fst w.toNat m.toNat c r → Q (Rk.orV m.toNat r) H') : Gx.CP (sp_first_bits C) [.int w, .int m, .str (Bs.S c)] [] H Q E :=
  ⟨w.toNat, m.toNat, c, by rw [List.append_nil, Int.toNat_of_nonneg (Int.le_of_lt hw), Int.toNat_of_nonneg h0], by omega, by omega, hc, q⟩

def sp_first_possible (CE C : Addr) : Sp := fun vs H Q E => ∃ (w m : Int) (c : List Bool), vs = [.int w, .int m, .str (Bs.S c)] ∧ c.length ≤ 100000 ∧
  (pfxBad w m c.length = none → ∀ v H', Same H H' → Q v H') ∧ (∀ z, pfxBad w m c.length = some z → Sx.Err CE H z E)

theorem sc_first_possible : FnScope ["width", "count", "code"] ["width", "count", "code"] (defScope s_first_possible) := ⟨rfl, rfl, rfl, by decide +kernel, rfl, by decide +kernel, by decide +kernel⟩
theorem ok_first_possible (T : Tx P K mg) : FnOk P w K mg base (L2.CX P w) 9 T.first_possible.a T.first_possible.d ["width", "count", "code"] (sp_first_possible T.x_OutOfRange.C T.a_Coding) := by
  refine T.first_possible.f.okX sc_first_possible (fun vs H Q E h => ?_) (fun cdv A outer s H vs Q E hr h => ⟨_, pss_cons (ps_expr (pe_callS (ok_check_prefix T) (hr.mono (by decide)) rfl T.check_prefix.g T.check_prefix.f.kp T.check_prefix.b (fun σ => passAt (takes_of rfl rfl rfl rfl) σ) (pa_cons (pv 0) (pa_cons (pv 1) (pa_cons (pv 2) pa_nil)))))
      (pss_one (ps_ret (pe_call (ok_first_bits T) (hr.mono (by decide)) rfl T.first_bits.g T.first_bits.f.kp T.first_bits.b .nil pass0 (pa_cons (pv 0) (pa_cons (pv 1) (pa_cons (pv 2) pa_nil)))))), ?_⟩)
  · obtain ⟨w, m, c, rfl, _⟩ := h
    rfl
  · skip
    obtain ⟨w, m, c, rfl, hc, q, qe⟩ := h
    walk_at "go"
    refine cs_check_prefix hc (fun ok => ?_) qe
    obtain ⟨⟨w1, w2⟩, ⟨m1, m2⟩, c1⟩ := pfxBad_none.mp ok
    walk_at "go"
    refine cp_first_bits (by omega) (by omega) (by omega) (by omega) fun r H1 s1 fr => ?_
    exact q ok _ _ s1

theorem cs_first_possible {CE C : Addr} {w m : Int} {c : List Bool} {H : Hp} {Q : VK} {E : XK} (hc : c.length ≤ 100000) (q : pfxBad w m c.length = none → ∀ v H', Same H H' → Q v H') (qe : ∀ z, pfxBad w m c.length = some z → Sx.Err CE H z E) : Sx.CS (sp_first_possible CE C) [.int w, .int m, .str (Bs.S c)] H Q E := ⟨w, m, c, rfl, hc, q, qe⟩

def sp_last_bits (C : Addr) : Sp := fun vs H Q _ => ∃ (w m : Nat) (c : List Bool), vs = [.int (w : Int), .int (m : Int), .str (Bs.S c)] ∧ 0 < w ∧ m ≤ 256 ∧ c.length ≤ 500 ∧
  ∀ (r : Option Nat) H', Same H H' → Rk.Lst w m c r → Q (Rk.orV m r) H'

theorem sc_last_bits : FnScope ["width", "count", "code", "bits"] ["width", "count", "code"] (defScope s_last_bits) := ⟨rfl, rfl, rfl, by decide +kernel, rfl, by decide +kernel, by decide +kernel⟩
theorem ok_last_bits (T : Tx P K mg) : FnOk P w K mg base CX0 8 T.last_bits.a T.last_bits.d ["width", "count", "code"] (sp_last_bits T.a_Coding) := by
  refine T.last_bits.f.ok sc_last_bits (fun vs H Q E h => ?_) (fun cdv A outer s H vs Q E hr h => ⟨_, pss_cons (ps_set (i := 3) sc_last_bits.nd rfl (Or.inl rfl) (pe_call (ok_bits_at T) (hr.mono (by decide)) rfl T.bits_at.g T.bits_at.f.kp T.bits_at.b .nil pass0 (pa_cons (pv 0) (pa_cons (pv 1) (pa_cons (pe_op op_add (pe_call (ok_number_of T) (hr.mono (by decide)) rfl T.number_of.g T.number_of.f.kp T.number_of.b .nil pass0 (pa_cons (pv 2) pa_nil)) (pe_int)) (pa_cons (pe_callB (Gx.c_lenK (K := K) rfl) rfl T.n_len (by decide +kernel) (pa_cons (pv 2) pa_nil)) pa_nil))))))
      (pss_one (ps_ret (pe_call (ok_possible_or_beside T) (hr.mono (by decide)) rfl T.possible_or_beside.g T.possible_or_beside.f.kp T.possible_or_beside.b .nil pass0 (pa_cons (pv 0) (pa_cons (pv 2) (pa_cons (pv 3) (pa_cons (pe_un un_neg (pe_int)) pa_nil))))))), ?_⟩)
  · obtain ⟨w, m, c, rfl, _⟩ := h
    rfl
  · skip
    obtain ⟨w, m, c, rfl, hw, hm, hc, q⟩ := h
    have hlt := Fb.val_lt c
    walk_at "go"
    refine cp_number_of (by omega) ?_
    walk_at "go"
    refine Bs.lenB (by omega) ?_
    walk_at "go"
    refine cp_bits_at (by omega) (by omega) (by omega) (by omega) (by omega) (by omega) (by rw [Int.toNat_natCast, show ((I2.val c : Int) + 1).toNat = I2.val c + 1 by omega]; omega) fun bs H1 s1 hl ha => ?_
    rw [Int.toNat_natCast] at hl ha
    rw [Int.toNat_natCast, show ((I2.val c : Int) + 1).toNat = I2.val c + 1 by omega] at ha
    subst hl
    have e := Fb.bin_val bs
    have hv := Fb.val_lt bs
    have ff := Rk.lst_of (m := bs.length) (v1 := I2.val bs) (c := c) hw hv (by rw [e]; exact ha)
    walk_at "go"
    refine cp_possible_or_beside (by omega) (by omega) (.inr rfl) fun H2 s2 => ?_
    rw [Int.toNat_natCast]
    refine ⟨fun h => ?_, fun h v hv1 hv2 hv3 => ?_, fun h hn => ?_⟩
    · have := q _ H2 (s1.trans s2) (ff.1 h)
      rw [show Rk.orV bs.length (some (I2.val bs)) = .str (Bs.S bs) from congrArg (fun x => V.str (Bs.S x)) e] at this
      exact this
    · have ev : v = I2.val bs - 1 := by omega
      subst ev
      exact q _ H2 (s1.trans s2) (ff.2.1 h (by omega) hv3)
    · exact q _ H2 (s1.trans s2) (ff.2.2 h fun h2 => hn _ (by omega) (by omega))

theorem cp_last_bits {C : Addr} {w m : Int} {c : List Bool} {H : Hp} {Q : VK} {E : XK} (hw : 0 < w) (h0 : 0 ≤ m) (hm : m ≤ 256) (hc : c.length ≤ 500) (q : ∀ (r : Option Nat) H', Same H H' → Rk.Lst w.toNat m.toNat c r → Q (Rk.orV m.toNat r) H') : Gx.CP (sp_last_bits C) [.int w, .int m, .str (Bs.S c)] [] H Q E :=
  ⟨w.toNat, m.toNat, c, by rw [List.append_nil, Int.toNat_of_nonneg (Int.le_of_lt hw), Int.toNat_of_nonneg h0], by omega, by omega, hc, q⟩

def sp_count_possible (CE C : Addr) : Sp := fun vs H Q E => ∃ (w m : Int) (c : List Bool), vs = [.int w, .int m, .str (Bs.S c)] ∧ c.length ≤ 100000 ∧
  (pfxBad w m c.length = none → ∀ v H', Same H H' → Q v H') ∧ (∀ z, pfxBad w m c.length = some z → Sx.Err CE H z E)

theorem sc_count_possible : FnScope ["width", "count", "code", "first"] ["width", "count", "code"] (defScope s_count_possible) := ⟨rfl, rfl, rfl, by decide +kernel, rfl, by decide +kernel, by decide +kernel⟩
theorem ok_count_possible (T : Tx P K mg) : FnOk P w K mg base (L2.CX P w) 9 T.count_possible.a T.count_possible.d ["width", "count", "code"] (sp_count_possible T.x_OutOfRange.C T.a_Coding) := by
  refine T.count_possible.f.okX sc_count_possible (fun vs H Q E h => ?_) (fun cdv A outer s H vs Q E hr h => ⟨_, pss_cons (ps_expr (pe_callS (ok_check_prefix T) (hr.mono (by decide)) rfl T.check_prefix.g T.check_prefix.f.kp T.check_prefix.b (fun σ => passAt (takes_of rfl rfl rfl rfl) σ) (pa_cons (pv 0) (pa_cons (pv 1) (pa_cons (pv 2) pa_nil)))))
      (pss_cons (ps_set (i := 3) sc_count_possible.nd rfl (Or.inl rfl) (pe_call (ok_first_bits T) (hr.mono (by decide)) rfl T.first_bits.g T.first_bits.f.kp T.first_bits.b .nil pass0 (pa_cons (pv 0) (pa_cons (pv 1) (pa_cons (pv 2) pa_nil)))))
      (pss_cons (ps_if (pt_cmpR op_isN (pv 3) (pe_non) (nomark _)) (pss_one (ps_ret (pe_int))) (pss_nil))
      (pss_one (ps_ret (pe_op op_add (pe_op op_sub (pe_call (ok_number_of T) (hr.mono (by decide)) rfl T.number_of.g T.number_of.f.kp T.number_of.b .nil pass0 (pa_cons (pe_call (ok_last_bits T) (hr.mono (by decide)) rfl T.last_bits.g T.last_bits.f.kp T.last_bits.b .nil pass0 (pa_cons (pv 0) (pa_cons (pv 1) (pa_cons (pv 2) pa_nil)))) pa_nil)) (pe_call (ok_number_of T) (hr.mono (by decide)) rfl T.number_of.g T.number_of.f.kp T.number_of.b .nil pass0 (pa_cons (pv 3) pa_nil))) (pe_int)))))), ?_⟩)
  · obtain ⟨w, m, c, rfl, _⟩ := h
    rfl
  · skip
    obtain ⟨w, m, c, rfl, hc, q, qe⟩ := h
    walk_at "go"
    refine cs_check_prefix hc (fun ok => ?_) qe
    obtain ⟨⟨w1, w2⟩, ⟨m1, m2⟩, c1⟩ := pfxBad_none.mp ok
    walk_at "go"
    refine cp_first_bits (by omega) (by omega) (by omega) (by omega) fun r H1 s1 fr => ?_
    cases r with
    | none =>
      show gName 3 .non _ _ _
      walk_at "go"
      refine ⟨rfl, ?_⟩
      rw [decide_eq_true rfl]
      walk_at "go"
      exact q ok _ _ s1
    | some f =>
      show gName 3 (.str (Bs.S (Fb.bin m.toNat f))) _ _ _
      walk_at "go"
      refine ⟨rfl, ?_⟩
      rw [decide_eq_false (by intro h; cases h)]
      walk_at "go"
      refine cp_last_bits (by omega) (by omega) (by omega) (by omega) fun r2 H2 s2 la => ?_
      rcases Rk.both_some fr la with ⟨e, _⟩ | ⟨f', l, e1, e2⟩
      · cases e
      cases e1
      subst e2
      rw [show Rk.orV m.toNat (some l) = .str (Bs.S (Fb.bin m.toNat l)) from rfl]
      walk_at "go"
      refine cp_number_of (by rw [Fb.bin_len]; omega) ?_
      walk_at "go"
      refine cp_number_of (by rw [Fb.bin_len]; omega) ?_
      walk_at "go"
      exact q ok _ _ (s1.trans s2)

theorem cs_count_possible {CE C : Addr} {w m : Int} {c : List Bool} {H : Hp} {Q : VK} {E : XK} (hc : c.length ≤ 100000) (q : pfxBad w m c.length = none → ∀ v H', Same H H' → Q v H') (qe : ∀ z, pfxBad w m c.length = some z → Sx.Err CE H z E) : Sx.CS (sp_count_possible CE C) [.int w, .int m, .str (Bs.S c)] H Q E := ⟨w, m, c, rfl, hc, q, qe⟩

/-- the known bits, then question marks -/
def markS (p : List Bool) (n : Nat) : Str := Bs.S p ++ Txt.mul "?" (n : Int)
def sp_marked : Sp := fun vs H Q _ => ∃ (p : List Bool) (m : Nat), vs = [.str (Bs.S p), .int (m : Int)] ∧ p.length ≤ m ∧ m ≤ 1000 ∧ Q (.str (markS p (m - p.length))) H

theorem sc_marked : FnScope ["prefix", "count"] ["prefix", "count"] (defScope s_marked) := ⟨rfl, rfl, rfl, by decide +kernel, rfl, by decide +kernel, by decide +kernel⟩
theorem ok_marked (T : Tx P K mg) : FnOk P w K mg base CX0 1 T.marked.a T.marked.d ["prefix", "count"] (sp_marked) := by
  refine T.marked.f.ok sc_marked (fun vs H Q E h => ?_) (fun cdv A outer s H vs Q E hr h => ⟨_, pss_one (ps_ret (pe_op Gx.o_addS (pv 0) (pe_op Mu.o_mulS (pe_str) (pe_op op_sub (pv 1) (pe_callB (Gx.c_lenK (K := K) rfl) rfl T.n_len (by decide +kernel) (pa_cons (pv 0) pa_nil)))))), ?_⟩)
  · obtain ⟨p, m, rfl, _⟩ := h
    rfl
  · skip
    obtain ⟨p, m, rfl, hp, hm, q⟩ := h
    walk_at "go"
    refine Bs.lenB (by omega) ?_
    walk_at "go"
    rw [show (m : Int) - (p.length : Int) = ((m - p.length : Nat) : Int) by omega]
    refine Mu.mulQ (by decide) (by omega) ?_
    refine Gx.addS (by rw [Bs.len, Mu.len_mul, sizeLine_eq]; show _ + _ * 1 ≤ _; omega) ?_
    exact q

theorem cp_marked {p : List Bool} {m : Int} {H : Hp} {Q : VK} {E : XK} (hp : (p.length : Int) ≤ m) (hm : m ≤ 1000) (q : Q (.str (markS p (m.toNat - p.length))) H) : Gx.CP sp_marked [.str (Bs.S p), .int m] [] H Q E := ⟨p, m.toNat, by rw [List.append_nil, Int.toNat_of_nonneg (by omega)], by omega, by omega, q⟩

def sp_known_prefix (C : Addr) : Sp := fun vs H Q E => ∃ (w m : Int) (c : List Bool), vs = [.int w, .int m, .str (Bs.S c)] ∧ c.length ≤ 100000 ∧
  (pfxBad w m c.length = none → ∀ (r : Option (List Bool)) H', Same H H' → Kn.Known w.toNat m.toNat c r → Q (pfV r) H') ∧ (∀ z, pfxBad w m c.length = some z → Sx.Err C H z E)

theorem sc_known_prefix : FnScope ["width", "count", "code"] ["width", "count", "code"] (defScope s_known_prefix) := ⟨rfl, rfl, rfl, by decide +kernel, rfl, by decide +kernel, by decide +kernel⟩
theorem ok_known_prefix (T : Tx P K mg) : FnOk P w K mg base (L2.CX P w) 9 T.known_prefix.a T.known_prefix.d ["width", "count", "code"] (sp_known_prefix T.x_OutOfRange.C) := by
  refine T.known_prefix.f.okX sc_known_prefix (fun vs H Q E h => ?_) (fun cdv A outer s H vs Q E hr h => ⟨_, pss_cons (ps_expr (pe_callS (ok_check_prefix T) (hr.mono (by decide)) rfl T.check_prefix.g T.check_prefix.f.kp T.check_prefix.b (fun σ => passAt (takes_of rfl rfl rfl rfl) σ) (pa_cons (pv 0) (pa_cons (pv 1) (pa_cons (pv 2) pa_nil)))))
      (pss_one (ps_ret (pe_call (ok_prefix_of T) (hr.mono (by decide)) rfl T.prefix_of.g T.prefix_of.f.kp T.prefix_of.b .nil pass0 (pa_cons (pv 0) (pa_cons (pv 1) (pa_cons (pv 2) pa_nil)))))), ?_⟩)
  · obtain ⟨w, m, c, rfl, _⟩ := h
    rfl
  · skip
    obtain ⟨w, m, c, rfl, hc, q, qe⟩ := h
    walk_at "go"
    refine cs_check_prefix hc (fun ok => ?_) qe
    obtain ⟨⟨w1, w2⟩, ⟨m1, m2⟩, c1⟩ := pfxBad_none.mp ok
    obtain ⟨w, rfl⟩ : ∃ n : Nat, w = n := ⟨w.toNat, by omega⟩
    obtain ⟨m, rfl⟩ : ∃ n : Nat, m = n := ⟨m.toNat, by omega⟩
    walk_at "go"
    exact cp_prefix_of (by omega) (by omega) (by omega) (q ok)

theorem cs_known_prefix {C : Addr} {w m : Int} {c : List Bool} {H : Hp} {Q : VK} {E : XK} (hc : c.length ≤ 100000) (q : pfxBad w m c.length = none → ∀ (r : Option (List Bool)) H', Same H H' → Kn.Known w.toNat m.toNat c r → Q (pfV r) H') (qe : ∀ z, pfxBad w m c.length = some z → Sx.Err C H z E) : Sx.CS (sp_known_prefix C) [.int w, .int m, .str (Bs.S c)] H Q E := ⟨w, m, c, rfl, hc, q, qe⟩

def sp_known (C : Addr) : Sp := fun vs H Q E => ∃ (w m : Int) (c : List Bool), vs = [.int w, .int m, .str (Bs.S c)] ∧ c.length ≤ 100000 ∧
  (pfxBad w m c.length = none → ∀ v H', Same H H' → Q v H') ∧ (∀ z, pfxBad w m c.length = some z → Sx.Err C H z E)

theorem sc_known : FnScope ["width", "count", "code", "prefix"] ["width", "count", "code"] (defScope s_known) := ⟨rfl, rfl, rfl, by decide +kernel, rfl, by decide +kernel, by decide +kernel⟩
theorem ok_known (T : Tx P K mg) : FnOk P w K mg base (L2.CX P w) 10 T.known.a T.known.d ["width", "count", "code"] (sp_known T.x_OutOfRange.C) := by
  refine T.known.f.okX sc_known (fun vs H Q E h => ?_) (fun cdv A outer s H vs Q E hr h => ⟨_, pss_cons (ps_set (i := 3) sc_known.nd rfl (Or.inl rfl) (pe_callS (ok_known_prefix T) (hr.mono (by decide)) rfl T.known_prefix.g T.known_prefix.f.kp T.known_prefix.b (fun σ => passAt (takes_of rfl rfl rfl rfl) σ) (pa_cons (pv 0) (pa_cons (pv 1) (pa_cons (pv 2) pa_nil)))))
      (pss_one (ps_ret (pe_ifExp (pt_cmpR op_isN (pv 3) (pe_non) (nomark _)) (pe_non) (pe_call (ok_marked T) (hr.mono (by decide)) rfl T.marked.g T.marked.f.kp T.marked.b .nil pass0 (pa_cons (pv 3) (pa_cons (pv 1) pa_nil)))))), ?_⟩)
  · obtain ⟨w, m, c, rfl, _⟩ := h
    rfl
  · skip
    obtain ⟨w, m, c, rfl, hc, q, qe⟩ := h
    walk_at "go"
    refine cs_known_prefix hc (fun ok r H1 s1 kn => ?_) qe
    obtain ⟨⟨w1, w2⟩, ⟨m1, m2⟩, c1⟩ := pfxBad_none.mp ok
    cases r with
    | none =>
      show gName 3 (.non) _ _ _
      walk_at "go"
      refine ⟨rfl, ?_⟩
      rw [decide_eq_true rfl]
      walk_at "go"
      exact q ok _ _ s1
    | some p =>
      show gName 3 (.str (Bs.S p)) _ _ _
      walk_at "go"
      refine ⟨rfl, ?_⟩
      rw [decide_eq_false (by intro h; cases h)]
      walk_at "go"
      refine cp_marked (by have := kn.1; omega) (by omega) ?_
      exact q ok _ _ s1

theorem cs_known {C : Addr} {w m : Int} {c : List Bool} {H : Hp} {Q : VK} {E : XK} (hc : c.length ≤ 100000) (q : pfxBad w m c.length = none → ∀ v H', Same H H' → Q v H') (qe : ∀ z, pfxBad w m c.length = some z → Sx.Err C H z E) : Sx.CS (sp_known C) [.int w, .int m, .str (Bs.S c)] H Q E := ⟨w, m, c, rfl, hc, q, qe⟩

def askBad (k : Nat) (w m j : Int) (n : Nat) (z : Str) : Option Str := if k = 4 then smpBad w m j n z else pfxBad w m n
def sp_law_ask (CE C : Addr) : Sp := fun vs H Q E => ∃ (k : Nat) (w m j : Int) (c : List Bool) (z : Str), vs = [.int (k : Int), .int w, .int m, .str (Bs.S c), .int j, .str z] ∧ k < 5 ∧ c.length ≤ 100000 ∧
  (askBad k w m j c.length z = none → ∀ v H', Same H H' → Q v H') ∧ (∀ s, askBad k w m j c.length z = some s → Sx.Err CE H s E)

theorem sc_law_ask : FnScope ["which", "width", "count", "code", "place", "bit"] ["which", "width", "count", "code", "place", "bit"] (defScope s_law_ask) := ⟨rfl, rfl, rfl, by decide +kernel, rfl, by decide +kernel, by decide +kernel⟩
theorem ok_law_ask (T : Tx P K mg) : FnOk P w K mg base (L2.CX P w) 11 T.law_ask.a T.law_ask.d ["which", "width", "count", "code", "place", "bit"] (sp_law_ask T.x_OutOfRange.C T.a_Coding) := by
  refine T.law_ask.f.okX sc_law_ask (fun vs H Q E h => ?_) (fun cdv A outer s H vs Q E hr h => ⟨_, pss_cons (ps_if (pt_cmpR op_eq (pv 0) (pe_int) (nomark _)) (pss_one (ps_ret (pe_callS (ok_known_prefix T) (hr.mono (by decide)) rfl T.known_prefix.g T.known_prefix.f.kp T.known_prefix.b (fun σ => passAt (takes_of rfl rfl rfl rfl) σ) (pa_cons (pv 1) (pa_cons (pv 2) (pa_cons (pv 3) pa_nil)))))) (pss_nil))
      (pss_cons (ps_if (pt_cmpR op_eq (pv 0) (pe_int) (nomark _)) (pss_one (ps_ret (pe_callS (ok_known T) (hr.mono (by decide)) rfl T.known.g T.known.f.kp T.known.b (fun σ => passAt (takes_of rfl rfl rfl rfl) σ) (pa_cons (pv 1) (pa_cons (pv 2) (pa_cons (pv 3) pa_nil)))))) (pss_nil))
      (pss_cons (ps_if (pt_cmpR op_eq (pv 0) (pe_int) (nomark _)) (pss_one (ps_ret (pe_callS (ok_count_possible T) (hr.mono (by decide)) rfl T.count_possible.g T.count_possible.f.kp T.count_possible.b (fun σ => passAt (takes_of rfl rfl rfl rfl) σ) (pa_cons (pv 1) (pa_cons (pv 2) (pa_cons (pv 3) pa_nil)))))) (pss_nil))
      (pss_cons (ps_if (pt_cmpR op_eq (pv 0) (pe_int) (nomark _)) (pss_one (ps_ret (pe_callS (ok_first_possible T) (hr.mono (by decide)) rfl T.first_possible.g T.first_possible.f.kp T.first_possible.b (fun σ => passAt (takes_of rfl rfl rfl rfl) σ) (pa_cons (pv 1) (pa_cons (pv 2) (pa_cons (pv 3) pa_nil)))))) (pss_nil))
      (pss_one (ps_ret (pe_callS (ok_sample T) (hr.mono (by decide)) rfl T.sample.g T.sample.f.kp T.sample.b (fun σ => passAt (takes_of rfl rfl rfl rfl) σ) (pa_cons (pv 1) (pa_cons (pv 2) (pa_cons (pv 3) (pa_cons (pv 4) (pa_cons (pv 5) pa_nil))))))))))), ?_⟩)
  · obtain ⟨k, w, m, j, c, z, rfl, _⟩ := h
    rfl
  · skip
    obtain ⟨k, w, m, j, c, z, rfl, hk, hc, q, qe⟩ := h
    unfold askBad at q qe
    walk_at "go"
    refine Gx.if_d (fun e => ?_) (fun e => ?_)
    · rw [if_neg (by omega)] at q qe
      walk_at "go"
      exact cs_known_prefix hc (fun ok r H1 s1 _ => q ok _ _ s1) qe
    walk_at "go"
    refine Gx.if_d (fun e => ?_) (fun e => ?_)
    · rw [if_neg (by omega)] at q qe
      walk_at "go"
      exact cs_known hc q qe
    walk_at "go"
    refine Gx.if_d (fun e => ?_) (fun e => ?_)
    · rw [if_neg (by omega)] at q qe
      walk_at "go"
      exact cs_count_possible hc q qe
    walk_at "go"
    refine Gx.if_d (fun e => ?_) (fun e => ?_)
    · rw [if_neg (by omega)] at q qe
      walk_at "go"
      exact cs_first_possible hc q qe
    rw [if_pos (by omega)] at q qe
    walk_at "go"
    exact cs_sample hc q qe

theorem cs_law_ask {CE C : Addr} {k : Int} {w m j : Int} {c : List Bool} {z : Str} {H : Hp} {Q : VK} {E : XK} (k0 : 0 ≤ k) (k5 : k < 5) (hc : c.length ≤ 100000) (q : askBad k.toNat w m j c.length z = none → ∀ v H', Same H H' → Q v H') (qe : ∀ s, askBad k.toNat w m j c.length z = some s → Sx.Err CE H s E) : Sx.CS (sp_law_ask CE C) [.int k, .int w, .int m, .str (Bs.S c), .int j, .str z] H Q E := ⟨k.toNat, w, m, j, c, z, by rw [Int.toNat_of_nonneg k0], by omega, hc, q, qe⟩

def sp_law_refusal : Sp := fun vs H Q _ => ∃ (k : Nat) (w m j : Int) (c : List Bool) (z : Str), vs = [.int (k : Int), .int w, .int m, .str (Bs.S c), .int j, .str z] ∧ k < 5 ∧ c.length ≤ 100000 ∧ ∀ H', Same H H' → Q (.str ((askBad k w m j c.length z).getD "")) H'

theorem sc_law_refusal : FnScope ["which", "width", "count", "code", "place", "bit", "e"] ["which", "width", "count", "code", "place", "bit"] (defScope s_law_refusal) := ⟨rfl, rfl, rfl, by decide +kernel, rfl, by decide +kernel, by decide +kernel⟩
theorem ok_law_refusal (T : Tx P K mg) : FnOk P w K mg base CX0 12 T.law_refusal.a T.law_refusal.d ["which", "width", "count", "code", "place", "bit"] (sp_law_refusal) := by
  refine T.law_refusal.f.ok sc_law_refusal (fun vs H Q E h => ?_) (fun cdv A outer s H vs Q E hr h => ⟨_, pss_cons (ps_try_as (i := 6) rfl rfl sc_law_refusal.nd rfl rfl ⟨rfl, by decide, .inl T.y_PictureError.g⟩ takes0 (fun W pn xe tk po => pss_one (ps_expr (pe_callS (ok_law_ask T) (hr.mono (by decide)) rfl T.law_ask.g T.law_ask.f.kp T.law_ask.b (fun σ => passAt tk σ) (pa_cons (pv 0) (pa_cons (pv 1) (pa_cons (pv 2) (pa_cons (pv 3) (pa_cons (pv 4) (pa_cons (pv 5) pa_nil)))))))))
      (fun a oe cls d pn hz hf => pss_cons (ps_if (PW.pt (pw_or (pt_val (pe_callB (Sx.call_isD T.x_OutOfRange.is hz hf) rfl T.n_isinstance (by decide +kernel) (pa_cons (pv 6) (pa_cons (pe_glob (v := .ref T.y_Contradiction.C) rfl T.y_Contradiction.g rfl) pa_nil)))) (pw_or (pt_val (pe_callB (Sx.call_isD T.x_OutOfRange.is hz hf) rfl T.n_isinstance (by decide +kernel) (pa_cons (pv 6) (pa_cons (pe_glob (v := .ref T.y_OtherKind.C) rfl T.y_OtherKind.g rfl) pa_nil)))) (pw_or1 (pt_not (pt_val (pe_callB (Sx.call_isD T.x_OutOfRange.is hz hf) rfl T.n_isinstance (by decide +kernel) (pa_cons (pv 6) (pa_cons (pe_bltn (v := .ty "ValueError") rfl T.n_ValueError (by decide +kernel) rfl) pa_nil))))))))) (pss_one (ps_ret (pe_str))) (pss_nil))
      (pss_cons (ps_if (pt_val (pe_callB (Sx.call_isD T.x_OutOfRange.is hz hf) rfl T.n_isinstance (by decide +kernel) (pa_cons (pv 6) (pa_cons (pe_glob (v := .ref T.x_OutOfRange.C) rfl T.x_OutOfRange.g rfl) pa_nil)))) (pss_one (ps_ret (pe_xf T.x_OutOfRange.xf T.nf_OutOfRange_name hz hf (pv 6) rfl))) (pss_nil))
      (pss_one (ps_ret (pe_str))))))
      (pss_one (ps_ret (pe_str))), ?_⟩)
  · obtain ⟨k, w, m, j, c, z, rfl, _⟩ := h
    rfl
  · skip
    obtain ⟨k, w, m, j, c, z, rfl, hk, hc, q⟩ := h
    walk_at "go"
    refine cs_law_ask (by omega) (by omega) hc (fun ok v H1 s1 => ?_) (fun s e H' dd s2 hd => ?_)
    · rw [Int.toNat_natCast] at ok
      walk_at "go"
      have := q _ s1
      rw [ok] at this
      exact this
    · rw [Int.toNat_natCast] at e
      refine Sx.took T.em_OutOfRange_PictureError fun a ha => ?_
      have hX : upd H' dd (.xd [("name", .str s)]) dd = some (.xd [("name", .str s)]) := upd_same
      walk_at "go"
      refine Sx.isR hX T.ki_OutOfRange_Contradiction ?_
      walk_at "go"
      refine Sx.isR hX T.ki_OutOfRange_OtherKind ?_
      walk_at "go"
      refine Sx.isT hX T.ki_OutOfRange_ValueError ?_
      walk_at "go"
      refine Sx.isR hX (Sx.kit_self _ _) ?_
      walk_at "go"
      refine Sx.xfp hX ?_
      have := q _ (s2.trans (Gx.same_new (o := .xd [("name", .str s)]) hd))
      rw [e] at this
      exact this

theorem cp_law_refusal {k w m j : Int} {c : List Bool} {z : Str} {H : Hp} {Q : VK} {E : XK} (k0 : 0 ≤ k) (k5 : k < 5) (hc : c.length ≤ 100000) (q : ∀ H', Same H H' → Q (.str ((askBad k.toNat w m j c.length z).getD "")) H') : Gx.CP sp_law_refusal [.int k, .int w, .int m, .str (Bs.S c), .int j, .str z] [] H Q E := ⟨k.toNat, w, m, j, c, z, by rw [List.append_nil, Int.toNat_of_nonneg k0], by omega, hc, q⟩

/-- a number from 0 on below the limit; the box's place moves -/
def sp_law_draw : Sp := fun vs H Q _ => ∃ (H0 : Hp) (b p : Addr) (xs : List Int) (m : Int), vs = [.ref b, .int m] ∧ 0 < m ∧ Bx.Box H0 H b p xs ∧ ∀ (r : Int) (H' : Hp), 0 ≤ r → r < m → Bx.Box H0 H' b p xs → (∀ c, c ≠ b → H' c = H c) → Q (.int r) H'

theorem sc_law_draw : FnScope ["box", "many", "at"] ["box", "many"] (defScope s_law_draw) := ⟨rfl, rfl, rfl, by decide +kernel, rfl, by decide +kernel, by decide +kernel⟩
theorem ok_law_draw (T : Tx P K mg) : FnOk P w K mg base CX0 1 T.law_draw.a T.law_draw.d ["box", "many"] (sp_law_draw) := by
  refine T.law_draw.f.ok sc_law_draw (fun vs H Q E h => ?_) (fun cdv A outer s H vs Q E hr h => ⟨_, pss_cons (ps_set (i := 2) sc_law_draw.nd rfl (Or.inl rfl) (pe_ix (Gx.ix_seqK (K := K) rfl) (pv 0) (pe_int) (fun _ _ => rfl)))
      (pss_cons (ps_asg (pe_op op_add (pv 2) (pe_int)) (pg_sub (pv 0) (pe_int) set_list))
      (pss_cons (ps_if (pt_cmpR op_lt (pv 2) (pe_callB (Gx.c_lenK (K := K) rfl) rfl T.n_len (by decide +kernel) (pa_cons (pe_ix (Gx.ix_seqK (K := K) rfl) (pv 0) (pe_int) (fun _ _ => rfl)) pa_nil)) (nomark _)) (pss_one (ps_ret (pe_op op_mod (pe_callTy Gx.c_int rfl T.n_int (by decide +kernel) (pa_cons (pe_ix (Gx.ix_seqK (K := K) rfl) (pe_ix (Gx.ix_seqK (K := K) rfl) (pv 0) (pe_int) (fun _ _ => rfl)) (pv 2) (fun _ _ => rfl)) pa_nil)) (pv 1)))) (pss_nil))
      (pss_one (ps_ret (pe_op op_mod (pe_callTy Gx.c_int rfl T.n_int (by decide +kernel) (pa_cons (pe_op op_add (pe_op op_mul (pv 2) (pe_int)) (pe_int)) pa_nil)) (pv 1)))))), ?_⟩)
  · obtain ⟨H0, b, p, xs, m, rfl, _⟩ := h
    rfl
  · skip
    obtain ⟨H0, b, p, xs, m, rfl, hm, B, q⟩ := h
    have hne := B.ne
    obtain ⟨hs, nb, np, ⟨k, hk⟩, hd⟩ := B
    walk_at "go"
    refine Gx.ixL (SqL.of hk) (at_of (j := 1) rfl rfl) ?_
    walk_at "go"
    refine Gx.setL (j := 1) hk rfl ?_
    have hk2 : upd H b (.lst [.ref p, .int ((k : Int) + 1)]) b = some (.lst [.ref p, .int ((k + 1 : Nat) : Int)]) := by rw [upd_same]; rfl
    have hd2 : upd H b (.lst [.ref p, .int ((k : Int) + 1)]) p = some (.lst (xs.map V.int)) := by rw [upd_ne hne]; exact hd
    have B2 : Bx.Box H0 (upd H b (.lst [.ref p, .int ((k : Int) + 1)])) b p xs := ⟨Gx.same_up nb hs, nb, np, ⟨k + 1, hk2⟩, hd2⟩
    have kp : ∀ c, c ≠ b → upd H b (.lst [.ref p, .int ((k : Int) + 1)]) c = H c := fun c hc => upd_ne hc
    walk_at "go"
    refine Gx.ixL (SqL.of hk2) (at_of (j := 0) rfl rfl) ?_
    walk_at "go"
    refine Gx.lenL (SqL.of hd2) ?_
    rw [List.length_map]
    walk_at "go"
    refine Gx.if_d (fun hlt => ?_) (fun hge => ?_)
    · walk_at "go"
      refine Gx.ixL (SqL.of hk2) (at_of (j := 0) rfl rfl) ?_
      walk_at "go"
      refine Gx.ixL (SqL.of hd2) (Gx.at_map (by omega)) ?_
      walk_at "go"
      refine Gx.ic hm ?_
      exact q _ _ (Int.emod_nonneg _ (by omega)) (Int.emod_lt_of_pos _ hm) B2 kp
    · walk_at "go"
      refine Gx.ic (.inr (by decide)) ?_
      walk_at "go"
      refine Gx.ic hm ?_
      exact q _ _ (Int.emod_nonneg _ (by omega)) (Int.emod_lt_of_pos _ hm) B2 kp

theorem cp_law_draw {H0 H : Hp} {b p : Addr} {xs : List Int} {m : Int} {Q : VK} {E : XK} (B : Bx.Box H0 H b p xs) (hm : 0 < m) (q : ∀ (r : Int) (H' : Hp), 0 ≤ r → r < m → Bx.Box H0 H' b p xs → (∀ c, c ≠ b → H' c = H c) → Q (.int r) H') :
    Gx.CP sp_law_draw [.ref b, .int m] [] H Q E := ⟨H0, b, p, xs, m, rfl, hm, B, q⟩

/-- some bits, so many -/
def sp_law_bits : Sp := fun vs H Q _ => ∃ (H0 : Hp) (b p : Addr) (xs : List Int) (m : Nat), vs = [.ref b, .int (m : Int)] ∧ m ≤ 100000 ∧ Bx.Box H0 H b p xs ∧ ∀ (bs : List Bool) (H' : Hp), bs.length = m → Bx.Box H0 H' b p xs → (∀ c, c ≠ b → H' c = H c) → Q (.str (Bs.S bs)) H'

theorem sc_law_bits : FnScope ["box", "many", "text", "kind", "k"] ["box", "many"] (defScope s_law_bits) := ⟨rfl, rfl, rfl, by decide +kernel, rfl, by decide +kernel, by decide +kernel⟩
theorem ok_law_bits (T : Tx P K mg) : FnOk P w K mg base CX0 2 T.law_bits.a T.law_bits.d ["box", "many"] (sp_law_bits) := by
  refine T.law_bits.f.ok sc_law_bits (fun vs H Q E h => ?_) (fun cdv A outer s H vs Q E hr h => ⟨_, pss_cons (ps_set (i := 2) sc_law_bits.nd rfl (Or.inl rfl) (pe_str))
      (pss_cons (ps_set (i := 3) sc_law_bits.nd rfl (Or.inl rfl) (pe_call (ok_law_draw T) (hr.mono (by decide)) rfl T.law_draw.g T.law_draw.f.kp T.law_draw.b .nil pass0 (pa_cons (pv 0) (pa_cons (pe_int) pa_nil))))
      (pss_cons (ps_for PassesOwn.never rfl (pi_range1 rfl T.n_range (pa_cons (pv 1) pa_nil)) (pg_name (i := 4) sc_law_bits.nd rfl (Or.inl rfl))
      (pss_one (ps_if (pt_cmpR op_eq (pv 3) (pe_int) (nomark _)) (pss_one (ps_set (i := 2) sc_law_bits.nd rfl (Or.inl rfl) (pe_op Gx.o_addS (pv 2) (pe_str)))) (pss_one (ps_if (pt_cmpR op_eq (pv 3) (pe_int) (nomark _)) (pss_one (ps_set (i := 2) sc_law_bits.nd rfl (Or.inl rfl) (pe_op Gx.o_addS (pv 2) (pe_str)))) (pss_one (ps_if (PW.pt (pw_and (pt_cmpR op_eq (pv 3) (pe_int) (nomark _)) (pw_and (pt_cmpR op_gt (pv 4) (pe_int) (nomark _)) (pw_and1 (pt_cmpR op_gt (pe_call (ok_law_draw T) (hr.mono (by decide)) rfl T.law_draw.g T.law_draw.f.kp T.law_draw.b .nil pass0 (pa_cons (pv 0) (pa_cons (pe_int) pa_nil))) (pe_int) (nomark _)))))) (pss_one (ps_set (i := 2) sc_law_bits.nd rfl (Or.inl rfl) (pe_op Gx.o_addS (pv 2) (pe_ix (Gx.ix_seqK (K := K) rfl) (pv 2) (pe_op op_sub (pv 4) (pe_int)) (fun _ _ => rfl))))) (pss_one (ps_set (i := 2) sc_law_bits.nd rfl (Or.inl rfl) (pe_op Gx.o_addS (pv 2) (pe_callTy Gx.c_strI rfl T.n_str (by decide +kernel) (pa_cons (pe_call (ok_law_draw T) (hr.mono (by decide)) rfl T.law_draw.g T.law_draw.f.kp T.law_draw.b .nil pass0 (pa_cons (pv 0) (pa_cons (pe_int) pa_nil))) pa_nil))))))))))))
      (pss_one (ps_ret (pv 2))))), ?_⟩)
  · obtain ⟨H0, b, p, xs, m, rfl, _⟩ := h
    rfl
  · skip
    obtain ⟨H0, b, p, xs, m, rfl, hm, B, q⟩ := h
    walk_at "go"
    rw [Bs.lit_]
    refine cp_law_draw B (by decide) fun kd H1 hk0 hk1 B1 kp1 => ?_
    walk_at "go"
    refine Gx.r1 (by omega) (by omega) ?_
    refine Gx.fw walk_range (fun i σ' H' => ∃ (bs : List Bool) (kv : Option V), bs.length = i ∧ Bx.Box H0 H' b p xs ∧ (∀ c, c ≠ b → H' c = H c) ∧
      σ' = [some (.ref b), some (.int (m : Int)), some (.str (Bs.S bs)), some (.int kd), kv]) ⟨[], none, rfl, B1, kp1, rfl⟩ (fun _ _ _ _ _ => trivial) ?_ ?_
    · rintro i x σ' H2 H2' hi ⟨bs, kv, hl, B2, kp, rfl⟩ ⟨rfl, hx⟩
      have hx2 : x = .int (i : Int) := hx.trans (congrArg V.int (by omega))
      subst hx2
      have fin : ∀ (c : Bool) (H' : Hp), Bx.Box H0 H' b p xs → (∀ c, c ≠ b → H' c = H c) → ∃ (bs' : List Bool) (kv : Option V), bs'.length = i + 1 ∧ Bx.Box H0 H' b p xs ∧ (∀ c, c ≠ b → H' c = H c) ∧
          [some (V.ref b), some (.int (m : Int)), some (.str (Bs.S bs ++ Bs.S [c])), some (.int kd), some (.int (i : Int))] = [some (.ref b), some (.int (m : Int)), some (.str (Bs.S bs')), some (.int kd), kv] :=
        fun c H' B' k' => ⟨bs ++ [c], _, by rw [List.length_append, hl]; rfl, B', k', by rw [Bs.cat]⟩
      have hsz : ∀ c : Bool, (Bs.S bs).length + (Bs.S [c]).length ≤ sizeLine := fun c => by rw [Bs.len, Bs.len, sizeLine_eq]; show bs.length + 1 ≤ _; omega
      walk_at "go"
      refine Gx.if_d (fun _ => ?_) (fun _ => ?_)
      · walk_at "go"
        rw [Bs.lit0]
        refine Gx.addS (hsz _) ?_
        walk_at "go"
        exact fin _ _ B2 kp
      walk_at "go"
      refine Gx.if_d (fun _ => ?_) (fun _ => ?_)
      · walk_at "go"
        rw [Bs.lit1]
        refine Gx.addS (hsz _) ?_
        walk_at "go"
        exact fin _ _ B2 kp
      walk_at "go"
      refine Gx.if_b (fun _ => ?_) (fun _ => ?_)
      · walk_at "go"
        refine Gx.if_d (fun hi0 => ?_) (fun _ => ?_)
        · walk_at "go"
          refine cp_law_draw B2 (by decide) fun r H' _ _ B' k' => ?_
          have k2 : ∀ c, c ≠ b → H' c = H c := fun c hc => (k' c hc).trans (kp c hc)
          walk_at "go"
          refine Gx.if_b (fun _ => ?_) (fun _ => ?_)
          · walk_at "go"
            refine Bs.ix (by omega) (by omega) (by omega) ?_
            refine Gx.addS (hsz _) ?_
            walk_at "go"
            exact fin _ _ B' k2
          · walk_at "go"
            refine cp_law_draw B' (by decide) fun r H' h0 h1 B' k' => ?_
            have k2 : ∀ c, c ≠ b → H' c = H c := fun c hc => (k' c hc).trans (k2 c hc)
            walk_at "go"
            refine Bs.strbit (by omega) fun c _ => ?_
            refine Gx.addS (hsz _) ?_
            walk_at "go"
            exact fin _ _ B' k2
        · walk_at "go"
          refine cp_law_draw B2 (by decide) fun r H' h0 h1 B' k' => ?_
          have k2 : ∀ c, c ≠ b → H' c = H c := fun c hc => (k' c hc).trans (kp c hc)
          walk_at "go"
          refine Bs.strbit (by omega) fun c _ => ?_
          refine Gx.addS (hsz _) ?_
          walk_at "go"
          exact fin _ _ B' k2
      · walk_at "go"
        refine cp_law_draw B2 (by decide) fun r H' h0 h1 B' k' => ?_
        have k2 : ∀ c, c ≠ b → H' c = H c := fun c hc => (k' c hc).trans (kp c hc)
        walk_at "go"
        refine Bs.strbit (by omega) fun c _ => ?_
        refine Gx.addS (hsz _) ?_
        walk_at "go"
        exact fin _ _ B' k2
    · rintro σ' H' ⟨bs, kv, hl, B2, kp, rfl⟩
      walk_at "go"
      exact q bs H' (by omega) B2 kp

theorem cp_law_bits {H0 H : Hp} {b p : Addr} {xs : List Int} {m : Int} {Q : VK} {E : XK} (B : Bx.Box H0 H b p xs) (h0 : 0 ≤ m) (hm : m ≤ 100000) (q : ∀ (bs : List Bool) (H' : Hp), bs.length = m.toNat → Bx.Box H0 H' b p xs → (∀ c, c ≠ b → H' c = H c) → Q (.str (Bs.S bs)) H') :
    Gx.CP sp_law_bits [.ref b, .int m] [] H Q E := ⟨H0, b, p, xs, m.toNat, by rw [List.append_nil, Int.toNat_of_nonneg h0], by omega, B, q⟩

/-- a cell of the script, 0 beyond its end -/
def sp_law_cell (K : PySem.W.Frag) : Sp := fun vs H Q _ => ∃ (a : Addr) (ns : List Int) (k : Nat), vs = [.ref a, .int (k : Int)] ∧ SqL K H a (ns.map V.int) ∧ k < 100000 ∧ Q (.int (ns.getD k 0)) H

theorem sc_law_cell : FnScope ["script", "k"] ["script", "k"] (defScope s_law_cell) := ⟨rfl, rfl, rfl, by decide +kernel, rfl, by decide +kernel, by decide +kernel⟩
theorem ok_law_cell (T : Tx P K mg) : FnOk P w K mg base CX0 1 T.law_cell.a T.law_cell.d ["script", "k"] (sp_law_cell K) := by
  refine T.law_cell.f.ok sc_law_cell (fun vs H Q E h => ?_) (fun cdv A outer s H vs Q E hr h => ⟨_, pss_cons (ps_if (pt_cmpR op_lt (pv 1) (pe_callB (Gx.c_lenK (K := K) rfl) rfl T.n_len (by decide +kernel) (pa_cons (pv 0) pa_nil)) (nomark _)) (pss_one (ps_ret (pe_ix (Gx.ix_seqK (K := K) rfl) (pv 0) (pv 1) (fun _ _ => rfl)))) (pss_nil))
      (pss_one (ps_ret (pe_int))), ?_⟩)
  · obtain ⟨a, ns, k, rfl, _⟩ := h
    rfl
  · skip
    obtain ⟨a, ns, k, rfl, hs, hk, q⟩ := h
    walk_at "go"
    refine Gx.lenL hs ?_
    walk_at "go"
    refine Gx.if_d (fun hlt => ?_) (fun hge => ?_)
    · rw [List.length_map] at hlt
      walk_at "go"
      exact Gx.ixL hs (Gx.at_map (by omega)) q
    · rw [List.length_map] at hge
      walk_at "go"
      have e : ns.getD k 0 = 0 := by
        rw [List.getD_eq_getElem?_getD, List.getElem?_eq_none (by omega)]; rfl
      rw [e] at q
      exact q

theorem cp_law_cell {K : PySem.W.Frag} {a : Addr} {ns : List Int} {k : Int} {H : Hp} {Q : VK} {E : XK} (hs : SqL K H a (ns.map V.int)) (h0 : 0 ≤ k) (h1 : k < 100000) (q : ∀ z : Int, (z ∈ ns ∨ z = 0) → Q (.int z) H) : Gx.CP (sp_law_cell K) [.ref a, .int k] [] H Q E := by
  refine ⟨a, ns, k.toNat, by rw [List.append_nil, Int.toNat_of_nonneg h0], hs, by omega, q _ ?_⟩
  rw [List.getD_eq_getElem?_getD]
  by_cases h : k.toNat < ns.length
  · rw [List.getElem?_eq_getElem h]; exact .inl (List.getElem_mem h)
  · rw [List.getElem?_eq_none (by omega)]; exact .inr rfl

/-- a new list of ints, as the script has them -/
def sp_law_digits (K : PySem.W.Frag) : Sp := fun vs H Q _ => ∃ (a : Addr) (ns : List Int) (f l : Nat), vs = [.ref a, .int (f : Int), .int (l : Int)] ∧ SqL K H a (ns.map V.int) ∧ f ≤ l ∧ l ≤ 1000 ∧
  ∀ (xs : List Int) (p : Addr) (H' : Hp), H p = none → Same H H' → H' p = some (.lst (xs.map V.int)) → Q (.ref p) H'

theorem sc_law_digits : FnScope ["script", "first", "last", "digits", "k", "cell", "turn", "seed"] ["script", "first", "last"] (defScope s_law_digits) := ⟨rfl, rfl, rfl, by decide +kernel, rfl, by decide +kernel, by decide +kernel⟩
theorem ok_law_digits (T : Tx P K mg) : FnOk P w K mg base CX0 2 T.law_digits.a T.law_digits.d ["script", "first", "last"] (sp_law_digits K) := by
  refine T.law_digits.f.ok sc_law_digits (fun vs H Q E h => ?_) (fun cdv A outer s H vs Q E hr h => ⟨_, pss_cons (ps_set (i := 3) sc_law_digits.nd rfl (Or.inl rfl) (pe_lst pa_nil))
      (pss_cons (ps_for PassesOwn.never rfl (pi_range2 rfl T.n_range (pa_cons (pv 1) (pa_cons (pv 2) pa_nil))) (pg_name (i := 4) sc_law_digits.nd rfl (Or.inl rfl))
      (pss_cons (ps_set (i := 5) sc_law_digits.nd rfl (Or.inl rfl) (pe_call (ok_law_cell T) (hr.mono (by decide)) rfl T.law_cell.g T.law_cell.f.kp T.law_cell.b .nil pass0 (pa_cons (pv 0) (pa_cons (pv 4) pa_nil))))
      (C8.pss_cut (ps_if (pt_cmpR op_lt (pv 5) (pe_int) (nomark _)) (pss_one (ps_set (i := 5) sc_law_digits.nd rfl (Or.inl rfl) (pe_op op_sub (pe_int) (pe_op op_mul (pe_int) (pv 5))))) (pss_nil))
      (pss_one (ps_if (pt_cmpR op_ge (pv 5) (pe_int) (nomark _)) (pss_one (ps_for PassesOwn.never rfl (pi_range1 rfl T.n_range (pa_cons (pe_int) pa_nil)) (pg_name (i := 6) sc_law_digits.nd rfl (Or.inl rfl))
      (pss_one (ps_if (pt_cmpR op_gt (pv 5) (pe_int) (nomark _)) (pss_cons (ps_expr (pe_bm PySem.F.plainAttrs_list PySem.F.slot_list_append PySem.F.type_list_append mt_append (pv 3) (pa_cons (pe_op op_mod (pe_callTy Gx.c_int rfl T.n_int (by decide +kernel) (pa_cons (pv 5) pa_nil)) (pe_int)) pa_nil)))
      (pss_one (ps_set (i := 5) sc_law_digits.nd rfl (Or.inl rfl) (pe_op op_fdiv (pv 5) (pe_int))))) (pss_nil))))) (pss_cons (ps_set (i := 7) sc_law_digits.nd rfl (Or.inl rfl) (pe_op op_mod (pe_callTy Gx.c_int rfl T.n_int (by decide +kernel) (pa_cons (pe_op op_add (pe_op op_add (pe_op op_mul (pv 5) (pe_int)) (pe_op op_mul (pv 4) (pe_int))) (pe_int)) pa_nil)) (pe_int)))
      (pss_one (ps_for PassesOwn.never rfl (pi_range1 rfl T.n_range (pa_cons (pe_int) pa_nil)) (pg_name (i := 6) sc_law_digits.nd rfl (Or.inl rfl))
      (pss_cons (ps_set (i := 7) sc_law_digits.nd rfl (Or.inl rfl) (pe_op op_mod (pe_callTy Gx.c_int rfl T.n_int (by decide +kernel) (pa_cons (pe_op op_add (pe_op op_add (pe_op op_mul (pv 7) (pe_int)) (pe_op op_mul (pe_int) (pv 6))) (pe_int)) pa_nil)) (pe_int)))
      (pss_one (ps_expr (pe_bm PySem.F.plainAttrs_list PySem.F.slot_list_append PySem.F.type_list_append mt_append (pv 3) (pa_cons (pe_op op_mod (pe_callTy Gx.c_int rfl T.n_int (by decide +kernel) (pa_cons (pe_op op_fdiv (pv 7) (pe_int)) pa_nil)) (pe_int)) pa_nil)))))))))))))
      (pss_one (ps_ret (pv 3)))), ?_⟩)
  · obtain ⟨a, ns, f, l, rfl, _⟩ := h
    rfl
  · skip
    obtain ⟨a, ns, f, l, rfl, hs, hfl, hl, q⟩ := h
    walk_at "go"
    refine Gx.lstP (Nat.zero_le _) fun p hp => ?_
    walk_at "go"
    refine Gx.r2 (by omega) ?_
    refine Gx.fw walk_range (fun i σ' H' => ∃ (xs : List Int) (k c t sd : Option V), xs.length ≤ 60 * i ∧ Same H H' ∧ H' p = some (.lst (xs.map V.int)) ∧
      σ' = [some (.ref a), some (.int (f : Int)), some (.int (l : Int)), some (.ref p), k, c, t, sd]) ?_ (fun _ _ _ _ _ => trivial) ?_ ?_
    · exact ⟨[], none, none, none, none, Nat.zero_le _, Gx.same_new hp, upd_same, rfl⟩
    · rintro i x σ' H1 H1' hi ⟨xs, k, c, t, sd, hx, s1, hL, rfl⟩ ⟨rfl, hxi⟩
      have hxi2 : x = .int ((f + i : Nat) : Int) := hxi.trans (congrArg V.int (by omega))
      subst hxi2
      have hz : ∀ ys : List Int, ys.length ≤ 60 * i + 60 → (ys.map V.int).length < sizeLine := fun ys h => by rw [List.length_map, sizeLine_eq]; omega
      walk_at "go"
      refine cp_law_cell (s1.seq hs) (by omega) (by omega) fun c0 _ => ?_
      walk_at "go"
      refine Gx.cut (fun σ' H' => H' = H1' ∧ ∃ c1 : Int, σ' = [some (.ref a), some (.int (f : Int)), some (.int (l : Int)), some (.ref p), some (.int ((f + i : Nat) : Int)), some (.int c1), t, sd]) ?_ ?_
      · walk_at "go"
        refine Gx.if_d (fun _ => ?_) (fun _ => ?_)
        · walk_at "go"
          refine Gx.ic (.inl (by decide)) ?_
          walk_at "go"
          exact ⟨rfl, _, rfl⟩
        · walk_at "go"
          exact ⟨rfl, _, rfl⟩
      · rintro σ' H' ⟨rfl, c1, rfl⟩
        walk_at "go"
        refine Gx.if_b (fun _ => ?_) (fun _ => ?_)
        · walk_at "go"
          refine Gx.r1 (by decide) (by decide) ?_
          refine Gx.fw walk_range (fun j σ' H' => ∃ (ys : List Int) (c t : Option V) (cc : Int), ys.length ≤ 60 * i + j ∧ Same H H' ∧ H' p = some (.lst (ys.map V.int)) ∧
            σ' = [some (.ref a), some (.int (f : Int)), some (.int (l : Int)), some (.ref p), some (.int ((f + i : Nat) : Int)), some (.int cc), t, sd]) ⟨xs, none, t, c1, by omega, s1, hL, rfl⟩ (fun _ _ _ _ _ => trivial) ?_ ?_
          · rintro j x σ' H2 H2' hj ⟨ys, _, t, cc, hy, s2, hL2, rfl⟩ ⟨rfl, hxj⟩
            walk_at "go"
            refine Gx.if_b (fun _ => ?_) (fun _ => ?_)
            · walk_at "go"
              refine Gx.bmS (Gx.tyL (SqL.of hL2)) ?_
              walk_at "go"
              refine Gx.ic (by decide) ?_
              walk_at "go"
              refine Gx.app hL2 (hz ys (by omega)) ?_
              walk_at "go"
              refine Gx.ic ⟨by decide, by decide⟩ ?_
              walk_at "go"
              exact ⟨ys ++ [cc % 1000], none, some x, _, by rw [List.length_append, List.length_singleton]; omega, Gx.same_up hp s2, Gx.snoc, rfl⟩
            · walk_at "go"
              exact ⟨ys, none, some x, cc, by omega, s2, hL2, rfl⟩
          · rintro σ' H' ⟨ys, _, t, cc, hy, s2, hL2, rfl⟩
            walk_at "go"
            exact ⟨ys, _, _, _, _, by omega, s2, hL2, rfl⟩
        · walk_at "go"
          refine Gx.ic (.inr (by decide)) ?_
          walk_at "go"
          refine Gx.ic (.inr (by decide)) ?_
          walk_at "go"
          refine Gx.ic (by decide) ?_
          walk_at "go"
          refine Gx.r1 (by decide) (by decide) ?_
          refine Gx.fw walk_range (fun j σ' H' => ∃ (ys : List Int) (t : Option V) (s0 : Int), ys.length ≤ 60 * i + j ∧ Same H H' ∧ H' p = some (.lst (ys.map V.int)) ∧ 
            σ' = [some (.ref a), some (.int (f : Int)), some (.int (l : Int)), some (.ref p), some (.int ((f + i : Nat) : Int)), some (.int c1), t, some (.int s0)]) ⟨xs, t, _, by omega, s1, hL, rfl⟩ (fun _ _ _ _ _ => trivial) ?_ ?_
          · rintro j x σ' H2 H2' hj ⟨ys, t, s0, hy, s2, hL2, rfl⟩ ⟨rfl, hxj⟩
            subst hxj
            walk_at "go"
            refine Gx.ic (.inr (by decide)) ?_
            walk_at "go"
            refine Gx.ic (.inl (by decide)) ?_
            walk_at "go"
            refine Gx.ic (by decide) ?_
            walk_at "go"
            refine Gx.bmS (Gx.tyL (SqL.of hL2)) ?_
            walk_at "go"
            refine Gx.ic ⟨by decide, by decide⟩ ?_
            walk_at "go"
            refine Gx.ic (by decide) ?_
            walk_at "go"
            refine Gx.app hL2 (hz ys (by omega)) ?_
            exact ⟨ys ++ [_], _, _, by rw [List.length_append, List.length_singleton]; omega, Gx.same_up hp s2, Gx.snoc, rfl⟩
          · rintro σ' H' ⟨ys, t, s0, hy, s2, hL2, rfl⟩
            walk_at "go"
            exact ⟨ys, _, _, _, _, by omega, s2, hL2, rfl⟩
    · rintro σ' H' ⟨xs, k, c, t, sd, hx, s1, hL, rfl⟩
      walk_at "go"
      exact q xs p H' hp s1 hL

theorem cp_law_digits {K : PySem.W.Frag} {a : Addr} {ns : List Int} {f l : Int} {H : Hp} {Q : VK} {E : XK} (hs : SqL K H a (ns.map V.int)) (h0 : 0 ≤ f) (h1 : f ≤ l) (h2 : l ≤ 1000)
    (q : ∀ (xs : List Int) (p : Addr) (H' : Hp), H p = none → Same H H' → H' p = some (.lst (xs.map V.int)) → Q (.ref p) H') : Gx.CP (sp_law_digits K) [.ref a, .int f, .int l] [] H Q E :=
  ⟨a, ns, f.toNat, l.toNat, by rw [List.append_nil, Int.toNat_of_nonneg h0, Int.toNat_of_nonneg (Int.le_trans h0 h1)], hs, by omega, by omega, q⟩

def d5 (w m j : Int) (n : Nat) (z : Str) : Str := (smpBad w m j n z).getD ""
theorem d5_ok {w m j : Int} {n : Nat} {z : Str} (h1 : 1 ≤ w ∧ w ≤ 16) (h2 : 0 ≤ m ∧ m ≤ 256) (h3 : n ≤ 400) (h4 : 0 ≤ j ∧ j ≤ m - 1) (h5 : z ∈ (["0", "1"] : List Str)) : smpBad w m j n z = none := by
  unfold smpBad; rw [pfxBad_none.mpr ⟨h1, h2, h3⟩]; simp only []
  rw [if_neg (not_not_intro h4), if_neg (not_not_intro h5)]
theorem d5_bit {w m j : Int} {n : Nat} {z : Str} (h1 : 1 ≤ w ∧ w ≤ 16) (h2 : 0 ≤ m ∧ m ≤ 256) (h3 : n ≤ 400) (h4 : 0 ≤ j ∧ j ≤ m - 1) (h5 : ¬ z ∈ (["0", "1"] : List Str)) : d5 w m j n z = "bit" := by
  unfold d5 smpBad; rw [pfxBad_none.mpr ⟨h1, h2, h3⟩]; simp only []
  rw [if_neg (not_not_intro h4), if_pos h5]; rfl
theorem d5_place {w m j : Int} {n : Nat} {z : Str} (h1 : 1 ≤ w ∧ w ≤ 16) (h2 : 0 ≤ m ∧ m ≤ 256) (h3 : n ≤ 400) (h4 : ¬ (0 ≤ j ∧ j ≤ m - 1)) : d5 w m j n z = "place" := by
  unfold d5 smpBad; rw [pfxBad_none.mpr ⟨h1, h2, h3⟩]; simp only []
  rw [if_pos h4]; rfl
theorem d5_pfx {w m j : Int} {n : Nat} {z s : Str} (h : pfxBad w m n = some s) : d5 w m j n z = s := by
  unfold d5 smpBad; rw [h]; rfl
theorem pfx_code {w m : Int} {n : Nat} (h1 : 1 ≤ w ∧ w ≤ 16) (h2 : 0 ≤ m ∧ m ≤ 256) (h3 : ¬ n ≤ 400) : pfxBad w m n = some ("code" : Str) := by
  unfold pfxBad; rw [if_neg (not_not_intro h1), if_neg (not_not_intro h2), if_pos h3]
theorem pfx_count {w m : Int} {n : Nat} (h1 : 1 ≤ w ∧ w ≤ 16) (h2 : ¬ (0 ≤ m ∧ m ≤ 256)) : pfxBad w m n = some ("count" : Str) := by
  unfold pfxBad; rw [if_neg (not_not_intro h1), if_pos h2]
theorem pfx_width {w m : Int} {n : Nat} (h1 : ¬ (1 ≤ w ∧ w ≤ 16)) : pfxBad w m n = some ("width" : Str) := by
  unfold pfxBad; rw [if_pos h1]
theorem pfx_is {w m : Int} {n : Nat} {s : Str} (h : pfxBad w m n = some s) : s = "width" ∨ s = "count" ∨ s = "code" := by
  unfold pfxBad at h
  by_cases h1 : 1 ≤ w ∧ w ≤ 16 <;> by_cases h2 : 0 ≤ m ∧ m ≤ 256 <;> by_cases h3 : n ≤ 400 <;> simp [h1, h2, h3] at h <;> simp [← h]
theorem d5_is {w m j : Int} {n : Nat} {z : Str} (h : pfxBad w m n = none) : d5 w m j n z = "place" ∨ d5 w m j n z = "bit" ∨ d5 w m j n z = "" := by
  unfold d5 smpBad; rw [h]; simp only []
  by_cases h4 : 0 ≤ j ∧ j ≤ m - 1 <;> by_cases h5 : z ∈ (["0", "1"] : List Str) <;> simp [h4, h5]
theorem ask_ok {k : Nat} {w m j : Int} {n : Nat} {z : Str} (h : smpBad w m j n z = none) (h1 : pfxBad w m n = none) : askBad k w m j n z = none := by
  unfold askBad; by_cases e : k = 4
  · rw [if_pos e]; exact h
  · rw [if_neg e]; exact h1
theorem ask_four {k : Nat} {w m j : Int} {n : Nat} {z : Str} (h : k < 4) : askBad k w m j n z = pfxBad w m n := by
  unfold askBad; rw [if_neg (by omega)]
theorem box_ne {H0 H : Hp} {b p q : Addr} {xs ys : List Int} (B : Bx.Box H0 H b p xs) (h : H q = some (.lst (ys.map V.int))) : q ≠ b := fun e => by
  obtain ⟨k, hk⟩ := B.bx
  rw [← e, h] at hk
  cases ys with
  | nil => cases hk
  | cons y ys => cases hk

theorem sc_law : FnScope ["script", "box", "width", "count", "code", "place", "bit", "far", "which", "due", "first"] ["script"] (defScope s_law) := ⟨rfl, rfl, rfl, by decide +kernel, rfl, by decide +kernel, by decide +kernel⟩
theorem ok_law (T : Tx P K mg) : FnOk P w K mg base CX0 13 T.law.a T.law.d ["script"] (spLaw K) := by
  refine T.law.f.ok sc_law (fun vs H Q E h => ?_) (fun cdv A outer s H vs Q E hr h => ⟨_, pss_cons (ps_set (i := 1) sc_law.nd rfl (Or.inl rfl) (pe_lst (pa_cons (pe_call (ok_law_digits T) (hr.mono (by decide)) rfl T.law_digits.g T.law_digits.f.kp T.law_digits.b .nil pass0 (pa_cons (pv 0) (pa_cons (pe_int) (pa_cons (pe_int) pa_nil)))) (pa_cons (pe_int) pa_nil))))
      (pss_cons (ps_set (i := 2) sc_law.nd rfl (Or.inl rfl) (pe_op op_add (pe_int) (pe_call (ok_law_draw T) (hr.mono (by decide)) rfl T.law_draw.g T.law_draw.f.kp T.law_draw.b .nil pass0 (pa_cons (pv 1) (pa_cons (pe_ix (Gx.ix_seqK (K := K) rfl) (pe_lst (pa_cons (pe_int) (pa_cons (pe_int) pa_nil))) (pe_call (ok_law_draw T) (hr.mono (by decide)) rfl T.law_draw.g T.law_draw.f.kp T.law_draw.b .nil pass0 (pa_cons (pv 1) (pa_cons (pe_int) pa_nil))) (fun _ _ => rfl)) pa_nil)))))
      (pss_cons (ps_set (i := 3) sc_law.nd rfl (Or.inl rfl) (pe_op op_add (pe_int) (pe_call (ok_law_draw T) (hr.mono (by decide)) rfl T.law_draw.g T.law_draw.f.kp T.law_draw.b .nil pass0 (pa_cons (pv 1) (pa_cons (pe_int) pa_nil)))))
      (pss_cons (ps_set (i := 4) sc_law.nd rfl (Or.inl rfl) (pe_call (ok_law_bits T) (hr.mono (by decide)) rfl T.law_bits.g T.law_bits.f.kp T.law_bits.b .nil pass0 (pa_cons (pv 1) (pa_cons (pe_call (ok_law_draw T) (hr.mono (by decide)) rfl T.law_draw.g T.law_draw.f.kp T.law_draw.b .nil pass0 (pa_cons (pv 1) (pa_cons (pe_int) pa_nil))) pa_nil))))
      (pss_cons (ps_set (i := 5) sc_law.nd rfl (Or.inl rfl) (pe_call (ok_law_draw T) (hr.mono (by decide)) rfl T.law_draw.g T.law_draw.f.kp T.law_draw.b .nil pass0 (pa_cons (pv 1) (pa_cons (pv 3) pa_nil))))
      (pss_cons (ps_set (i := 6) sc_law.nd rfl (Or.inl rfl) (pe_callTy Gx.c_strI rfl T.n_str (by decide +kernel) (pa_cons (pe_call (ok_law_draw T) (hr.mono (by decide)) rfl T.law_draw.g T.law_draw.f.kp T.law_draw.b .nil pass0 (pa_cons (pv 1) (pa_cons (pe_int) pa_nil))) pa_nil)))
      (pss_cons (ps_set (i := 7) sc_law.nd rfl (Or.inl rfl) (pe_call (ok_law_draw T) (hr.mono (by decide)) rfl T.law_draw.g T.law_draw.f.kp T.law_draw.b .nil pass0 (pa_cons (pv 1) (pa_cons (pe_int) pa_nil))))
      (pss_cons (ps_for PassesOwn.never rfl (pi_range1 rfl T.n_range (pa_cons (pe_int) pa_nil)) (pg_name (i := 8) sc_law.nd rfl (Or.inl rfl))
      (pss_one (ps_if (pt_cmpR op_ne (pe_call (ok_law_refusal T) (hr.mono (by decide)) rfl T.law_refusal.g T.law_refusal.f.kp T.law_refusal.b .nil pass0 (pa_cons (pv 8) (pa_cons (pv 2) (pa_cons (pv 3) (pa_cons (pv 4) (pa_cons (pv 5) (pa_cons (pv 6) pa_nil))))))) (pe_str) (nomark _)) (pss_one (ps_ret (pe_bl))) (pss_nil))))
      (pss_cons (ps_set (i := 9) sc_law.nd rfl (Or.inl rfl) (pe_str))
      (C8.pss_cut (ps_if (pt_cmpR op_eq (pe_call (ok_law_draw T) (hr.mono (by decide)) rfl T.law_draw.g T.law_draw.f.kp T.law_draw.b .nil pass0 (pa_cons (pv 1) (pa_cons (pe_int) pa_nil))) (pe_int) (nomark _)) (pss_cons (ps_set (i := 6) sc_law.nd rfl (Or.inl rfl) (pe_str))
      (pss_one (ps_set (i := 9) sc_law.nd rfl (Or.inl rfl) (pe_str)))) (pss_nil))
      (C8.pss_cut (ps_if (pt_cmpR op_eq (pe_call (ok_law_draw T) (hr.mono (by decide)) rfl T.law_draw.g T.law_draw.f.kp T.law_draw.b .nil pass0 (pa_cons (pv 1) (pa_cons (pe_int) pa_nil))) (pe_int) (nomark _)) (pss_cons (ps_set (i := 5) sc_law.nd rfl (Or.inl rfl) (pe_ix (Gx.ix_seqK (K := K) rfl) (pe_lst (pa_cons (pe_op op_sub (pe_op op_sub (pe_int) (pe_int)) (pv 7)) (pa_cons (pv 3) (pa_cons (pe_op op_add (pv 3) (pv 7)) pa_nil)))) (pe_call (ok_law_draw T) (hr.mono (by decide)) rfl T.law_draw.g T.law_draw.f.kp T.law_draw.b .nil pass0 (pa_cons (pv 1) (pa_cons (pe_int) pa_nil))) (fun _ _ => rfl)))
      (pss_one (ps_set (i := 9) sc_law.nd rfl (Or.inl rfl) (pe_str)))) (pss_nil))
      (C8.pss_cut (ps_if (pt_cmpR op_eq (pe_call (ok_law_draw T) (hr.mono (by decide)) rfl T.law_draw.g T.law_draw.f.kp T.law_draw.b .nil pass0 (pa_cons (pv 1) (pa_cons (pe_int) pa_nil))) (pe_int) (nomark _)) (pss_cons (ps_set (i := 4) sc_law.nd rfl (Or.inl rfl) (pe_op Gx.o_addS (pe_op Mu.o_mulS (pe_str) (pe_int)) (pe_op Mu.o_mulS (pe_str) (pe_op op_add (pe_int) (pe_op op_mod (pe_callTy Gx.c_int rfl T.n_int (by decide +kernel) (pa_cons (pv 7) pa_nil)) (pe_int))))))
      (pss_one (ps_set (i := 9) sc_law.nd rfl (Or.inl rfl) (pe_str)))) (pss_nil))
      (C8.pss_cut (ps_if (pt_cmpR op_eq (pe_call (ok_law_draw T) (hr.mono (by decide)) rfl T.law_draw.g T.law_draw.f.kp T.law_draw.b .nil pass0 (pa_cons (pv 1) (pa_cons (pe_int) pa_nil))) (pe_int) (nomark _)) (pss_cons (ps_set (i := 3) sc_law.nd rfl (Or.inl rfl) (pe_ix (Gx.ix_seqK (K := K) rfl) (pe_lst (pa_cons (pe_op op_sub (pe_op op_sub (pe_int) (pe_int)) (pv 7)) (pa_cons (pe_int) (pa_cons (pe_op op_add (pe_int) (pv 7)) pa_nil)))) (pe_call (ok_law_draw T) (hr.mono (by decide)) rfl T.law_draw.g T.law_draw.f.kp T.law_draw.b .nil pass0 (pa_cons (pv 1) (pa_cons (pe_int) pa_nil))) (fun _ _ => rfl)))
      (pss_one (ps_set (i := 9) sc_law.nd rfl (Or.inl rfl) (pe_str)))) (pss_nil))
      (C8.pss_cut (ps_if (pt_cmpR op_eq (pe_call (ok_law_draw T) (hr.mono (by decide)) rfl T.law_draw.g T.law_draw.f.kp T.law_draw.b .nil pass0 (pa_cons (pv 1) (pa_cons (pe_int) pa_nil))) (pe_int) (nomark _)) (pss_cons (ps_set (i := 2) sc_law.nd rfl (Or.inl rfl) (pe_ix (Gx.ix_seqK (K := K) rfl) (pe_lst (pa_cons (pe_int) (pa_cons (pe_op op_sub (pe_op op_sub (pe_int) (pe_int)) (pv 7)) (pa_cons (pe_int) (pa_cons (pe_op op_add (pe_int) (pv 7)) pa_nil))))) (pe_call (ok_law_draw T) (hr.mono (by decide)) rfl T.law_draw.g T.law_draw.f.kp T.law_draw.b .nil pass0 (pa_cons (pv 1) (pa_cons (pe_int) pa_nil))) (fun _ _ => rfl)))
      (pss_one (ps_set (i := 9) sc_law.nd rfl (Or.inl rfl) (pe_str)))) (pss_nil))
      (pss_cons (ps_for PassesOwn.never rfl (pi_range1 rfl T.n_range (pa_cons (pe_int) pa_nil)) (pg_name (i := 8) sc_law.nd rfl (Or.inl rfl))
      (pss_cons (ps_set (i := 10) sc_law.nd rfl (Or.inl rfl) (pv 9))
      (pss_cons (ps_if (PW.pt (pw_or (pt_cmpR op_eq (pv 9) (pe_str) (nomark _)) (pw_or1 (pt_cmpR op_eq (pv 9) (pe_str) (nomark _))))) (pss_one (ps_set (i := 10) sc_law.nd rfl (Or.inl rfl) (pe_str))) (pss_nil))
      (pss_one (ps_if (pt_cmpR op_ne (pe_call (ok_law_refusal T) (hr.mono (by decide)) rfl T.law_refusal.g T.law_refusal.f.kp T.law_refusal.b .nil pass0 (pa_cons (pv 8) (pa_cons (pv 2) (pa_cons (pv 3) (pa_cons (pv 4) (pa_cons (pv 5) (pa_cons (pv 6) pa_nil))))))) (pv 10) (nomark _)) (pss_one (ps_ret (pe_bl))) (pss_nil))))))
      (pss_one (ps_ret (pe_cmpR op_eq (pe_call (ok_law_refusal T) (hr.mono (by decide)) rfl T.law_refusal.g T.law_refusal.f.kp T.law_refusal.b .nil pass0 (pa_cons (pe_int) (pa_cons (pv 2) (pa_cons (pv 3) (pa_cons (pv 4) (pa_cons (pv 5) (pa_cons (pv 6) pa_nil))))))) (pv 9) (nomark _)))))))))))))))))), ?_⟩)
  · obtain ⟨a, ns, rfl, _⟩ := h
    rfl
  · skip
    obtain ⟨a, ns, rfl, hs, hlen, hbits, q⟩ := h
    walk_at "go"
    refine cp_law_digits hs (by decide) (by decide) (by decide) fun xs p H1 hp s1 hd => ?_
    walk_at "go"
    refine Gx.lstP (by show 2 ≤ sizeLine; decide) fun b hb => ?_
    walk_at "go"
    have B : Bx.Box H (upd H1 b (.lst [.ref p, .int 0])) b p xs := ⟨Gx.same_up (s1.free hb) s1, s1.free hb, hp, ⟨0, upd_same⟩, by rw [upd_ne (ne_of_none hd hb)]; exact hd⟩
    refine Gx.lstP (by show 2 ≤ sizeLine; decide) fun pl hpl => ?_
    have sL := Gx.same_new (o := .lst ([4, 16].map V.int)) hpl
    have hL : upd (upd H1 b (.lst [.ref p, .int 0])) pl (.lst ([4, 16].map V.int)) pl = some (.lst ([4, 16].map V.int)) := upd_same
    have B := B.keep sL
    have hpne := box_ne B hL
    show tCall _ [] _ _ _ (upd (upd H1 b (.lst [.ref p, .int 0])) pl (.lst ([4, 16].map V.int))) _
    generalize upd (upd H1 b (.lst [.ref p, .int 0])) pl (.lst ([4, 16].map V.int)) = HA at sL hL B
    walk_at "go"
    refine cp_law_draw B (by decide) fun d HA2 d0 d1 B kp => ?_
    obtain ⟨i, hi, hi2⟩ : ∃ i : Nat, d = (i : Int) ∧ i < 2 := ⟨d.toNat, by omega, by omega⟩
    subst hi
    obtain ⟨u, hu, hout⟩ : ∃ u : Int, atI ([4, 16].map V.int) (i : Int) = some (.int u) ∧ 0 < u ∧ u ≤ 16 := by
      rcases (show i = 0 ∨ i = 1 by omega) with e | e <;> subst e
      · exact ⟨_, at_of (j := 0) rfl rfl, by omega⟩
      · exact ⟨_, at_of (j := 1) rfl rfl, by omega⟩
    refine Gx.ixL (SqL.of (by rw [kp pl hpne]; exact hL)) hu ?_
    walk_at "go"
    refine cp_law_draw B hout.1 fun w0 HB w00 w01 B kp => ?_
    walk_at "go"
    obtain ⟨w, hw⟩ : ∃ w : Int, 1 + w0 = w := ⟨_, rfl⟩
    rw [hw]
    have okw : 1 ≤ w ∧ w ≤ 16 := by omega
    refine cp_law_draw B (by decide) fun m0 HC m00 m01 B kp => ?_
    walk_at "go"
    obtain ⟨m, hm⟩ : ∃ m : Int, 1 + m0 = m := ⟨_, rfl⟩
    rw [hm]
    have okm : 0 ≤ m ∧ m ≤ 256 := by omega
    refine cp_law_draw B (by decide) fun n0 HD n00 n01 B kp => ?_
    refine cp_law_bits B (by omega) (by omega) fun c HE hc B kp => ?_
    have okc : c.length ≤ 400 := by omega
    walk_at "go"
    refine cp_law_draw B (by omega) fun j HF j0 j1 B kp => ?_
    have okj : 0 ≤ j ∧ j ≤ m - 1 := by omega
    walk_at "go"
    refine cp_law_draw B (by decide) fun b0 HG b00 b01 B kp => ?_
    walk_at "go"
    refine Bs.strbit (by omega) fun bb _ => ?_
    have okb : Bs.S [bb] ∈ (["0", "1"] : List Str) := by cases bb <;> decide +kernel
    walk_at "go"
    refine cp_law_draw B (by decide) fun far HI far0 far1 B kp => ?_
    walk_at "go"
    have all := d5_ok okw okm okc okj okb
    have pfx : pfxBad w m c.length = none := pfxBad_none.mpr ⟨okw, okm, okc⟩
    refine Gx.r1 (by decide) (by decide) ?_
    refine Gx.fw walk_range (fun i σ' H' => Bx.Box H H' b p xs ∧ ∃ v1 : Option V, σ' = [some (.ref a), some (.ref b), some (.int w), some (.int m), some (.str (Bs.S c)), some (.int j), some (.str (Bs.S [bb])), some (.int far), v1, none, none]) ⟨B, none, rfl⟩ (fun _ _ _ _ _ => trivial) ?_ ?_
    · rintro i x σ' HJ HJ' hi ⟨B, v1, rfl⟩ ⟨rfl, hx⟩
      have hi5 : i < 5 := hi
      have hx2 : x = .int (i : Int) := hx.trans (congrArg V.int (by omega))
      subst hx2
      walk_at "go"
      refine cp_law_refusal (by omega) (by omega) (by omega) fun HK sK => ?_
      rw [Int.toNat_natCast, ask_ok all pfx]
      walk_at "go"
      exact ⟨B.keep sK, _, rfl⟩
    rintro σ' HJ ⟨B, v1, rfl⟩
    walk_at "go"
    have due0 : (Str.ofString "" : Str) = d5 w m j c.length (Bs.S [bb]) := by unfold d5; rw [all]; rfl
    refine Gx.cut (fun σ' H' => ∃ z : Str, Bx.Box H H' b p xs ∧ σ' = [some (.ref a), some (.ref b), some (.int w), some (.int m), some (.str (Bs.S c)), some (.int j), some (.str z), some (.int far), v1, some (.str (d5 w m j c.length z)), none]) ?_ ?_
    · walk_at "go"
      refine cp_law_draw B (by decide) fun t HK _ _ B kp => ?_
      walk_at "go"
      refine Gx.if_d (fun _ => ?_) (fun _ => ?_)
      · walk_at "go"
        exact ⟨Str.ofString "2", B, by rw [d5_bit (z := Str.ofString "2") okw okm okc okj (by decide +kernel)]; rfl⟩
      · walk_at "go"
        exact ⟨Bs.S [bb], B, by rw [← due0]; rfl⟩
    rintro σ' HK ⟨z, B, rfl⟩
    walk_at "go"
    refine Gx.cut (fun σ' H' => ∃ (j : Int) (z : Str), Bx.Box H H' b p xs ∧ σ' = [some (.ref a), some (.ref b), some (.int w), some (.int m), some (.str (Bs.S c)), some (.int j), some (.str z), some (.int far), v1, some (.str (d5 w m j c.length z)), none]) ?_ ?_
    · walk_at "go"
      refine cp_law_draw B (by decide) fun t HL _ _ B kp => ?_
      walk_at "go"
      refine Gx.if_d (fun _ => ?_) (fun _ => ?_)
      · walk_at "go"
        refine Gx.lstP (by show 3 ≤ sizeLine; decide) fun pl hpl => ?_
        have sL := Gx.same_new (o := .lst ([0 - 1 - far, m, m + far].map V.int)) hpl
        have hL : upd HL pl (.lst ([0 - 1 - far, m, m + far].map V.int)) pl = some (.lst ([0 - 1 - far, m, m + far].map V.int)) := upd_same
        have B := B.keep sL
        have hpne := box_ne B hL
        show tCall _ [] _ _ _ (upd HL pl (.lst ([0 - 1 - far, m, m + far].map V.int))) _
        generalize upd HL pl (.lst ([0 - 1 - far, m, m + far].map V.int)) = HM at sL hL B
        walk_at "go"
        refine cp_law_draw B (by decide) fun d HM2 d0 d1 B kp => ?_
        obtain ⟨i, hi, hi2⟩ : ∃ i : Nat, d = (i : Int) ∧ i < 3 := ⟨d.toNat, by omega, by omega⟩
        subst hi
        obtain ⟨u, hu, hout⟩ : ∃ u : Int, atI ([0 - 1 - far, m, m + far].map V.int) (i : Int) = some (.int u) ∧ ¬ (0 ≤ u ∧ u ≤ m - 1) := by
          rcases (show i = 0 ∨ i = 1 ∨ i = 2 by omega) with e | e | e <;> subst e
          · exact ⟨_, at_of (j := 0) rfl rfl, by omega⟩
          · exact ⟨_, at_of (j := 1) rfl rfl, by omega⟩
          · exact ⟨_, at_of (j := 2) rfl rfl, by omega⟩
        refine Gx.ixL (SqL.of (by rw [kp pl hpne]; exact hL)) hu ?_
        walk_at "go"
        exact ⟨u, z, B, by rw [d5_place okw okm okc hout]; rfl⟩
      · walk_at "go"
        exact ⟨_, _, B, rfl⟩
    clear due0 all
    rintro σ' HL ⟨j, z, B, rfl⟩
    walk_at "go"
    refine Gx.cut (fun σ' H' => ∃ (c : List Bool) (j : Int) (z : Str), c.length ≤ 100000 ∧ Bx.Box H H' b p xs ∧ σ' = [some (.ref a), some (.ref b), some (.int w), some (.int m), some (.str (Bs.S c)), some (.int j), some (.str z), some (.int far), v1, some (.str (d5 w m j c.length z)), none]) ?_ ?_
    · walk_at "go"
      refine cp_law_draw B (by decide) fun t HM _ _ B kp => ?_
      walk_at "go"
      refine Gx.if_d (fun _ => ?_) (fun _ => ?_)
      · walk_at "go"
        rw [show Str.ofString "01" = Bs.S [false, true] by decide +kernel]
        refine Mu.mulB (k := 200) (by decide) (by decide) ?_
        walk_at "go"
        refine Gx.ic (by decide) ?_
        walk_at "go"
        obtain ⟨e, he, he9⟩ : ∃ e : Nat, 1 + far % 9 = (e : Int) ∧ 1 ≤ e ∧ e ≤ 9 := ⟨(1 + far % 9).toNat, by omega, by omega, by omega⟩
        rw [he, Bs.lit1]
        refine Mu.mulB (by decide) (by omega) ?_
        rw [Mu.flat1]
        have hl : ((List.replicate 200 [false, true]).flatten ++ List.replicate e true).length = 400 + e := by
          rw [List.length_append, List.length_replicate]; rfl
        have hl4 : ((List.replicate 200 [false, true]).flatten).length = 400 := rfl
        refine Gx.addS (by rw [Bs.len, Bs.len, sizeLine_eq, List.length_replicate, hl4]; omega) ?_
        rw [Bs.cat]
        generalize (List.replicate 200 [false, true]).flatten ++ List.replicate e true = c2 at hl
        walk_at "go"
        exact ⟨c2, j, z, by omega, B, by rw [d5_pfx (pfx_code (n := c2.length) okw okm (by omega))]; rfl⟩
      · walk_at "go"
        exact ⟨_, _, _, by omega, B, rfl⟩
    clear okc pfx hc
    rintro σ' HM ⟨c, j, z, hcl, B, rfl⟩
    walk_at "go"
    refine Gx.cut (fun σ' H' => ∃ (m : Int) (c : List Bool) (j : Int) (z : Str), c.length ≤ 100000 ∧ Bx.Box H H' b p xs ∧ σ' = [some (.ref a), some (.ref b), some (.int w), some (.int m), some (.str (Bs.S c)), some (.int j), some (.str z), some (.int far), v1, some (.str (d5 w m j c.length z)), none]) ?_ ?_
    · walk_at "go"
      refine cp_law_draw B (by decide) fun t HL _ _ B kp => ?_
      walk_at "go"
      refine Gx.if_d (fun _ => ?_) (fun _ => ?_)
      · walk_at "go"
        refine Gx.lstP (by show 3 ≤ sizeLine; decide) fun pl hpl => ?_
        have sL := Gx.same_new (o := .lst ([0 - 1 - far, 257, 257 + far].map V.int)) hpl
        have hL : upd HL pl (.lst ([0 - 1 - far, 257, 257 + far].map V.int)) pl = some (.lst ([0 - 1 - far, 257, 257 + far].map V.int)) := upd_same
        have B := B.keep sL
        have hpne := box_ne B hL
        show tCall _ [] _ _ _ (upd HL pl (.lst ([0 - 1 - far, 257, 257 + far].map V.int))) _
        generalize upd HL pl (.lst ([0 - 1 - far, 257, 257 + far].map V.int)) = HN at sL hL B
        walk_at "go"
        refine cp_law_draw B (by decide) fun d HN2 d0 d1 B kp => ?_
        obtain ⟨i, hi, hi2⟩ : ∃ i : Nat, d = (i : Int) ∧ i < 3 := ⟨d.toNat, by omega, by omega⟩
        subst hi
        obtain ⟨u, hu, hout⟩ : ∃ u : Int, atI ([0 - 1 - far, 257, 257 + far].map V.int) (i : Int) = some (.int u) ∧ ¬ (0 ≤ u ∧ u ≤ 256) := by
          rcases (show i = 0 ∨ i = 1 ∨ i = 2 by omega) with e | e | e <;> subst e
          · exact ⟨_, at_of (j := 0) rfl rfl, by omega⟩
          · exact ⟨_, at_of (j := 1) rfl rfl, by omega⟩
          · exact ⟨_, at_of (j := 2) rfl rfl, by omega⟩
        refine Gx.ixL (SqL.of (by rw [kp pl hpne]; exact hL)) hu ?_
        walk_at "go"
        exact ⟨u, c, j, z, hcl, B, by rw [d5_pfx (pfx_count okw hout)]; rfl⟩
      · walk_at "go"
        exact ⟨_, _, _, _, hcl, B, rfl⟩
    clear okm
    rintro σ' HO ⟨m, c, j, z, hcl, B, rfl⟩
    walk_at "go"
    refine Gx.cut (fun σ' H' => ∃ (w m : Int) (c : List Bool) (j : Int) (z : Str), c.length ≤ 100000 ∧ Bx.Box H H' b p xs ∧ σ' = [some (.ref a), some (.ref b), some (.int w), some (.int m), some (.str (Bs.S c)), some (.int j), some (.str z), some (.int far), v1, some (.str (d5 w m j c.length z)), none]) ?_ ?_
    · walk_at "go"
      refine cp_law_draw B (by decide) fun t HL _ _ B kp => ?_
      walk_at "go"
      refine Gx.if_d (fun _ => ?_) (fun _ => ?_)
      · walk_at "go"
        refine Gx.lstP (by show 4 ≤ sizeLine; decide) fun pl hpl => ?_
        have sL := Gx.same_new (o := .lst ([0, 0 - 1 - far, 17, 17 + far].map V.int)) hpl
        have hL : upd HL pl (.lst ([0, 0 - 1 - far, 17, 17 + far].map V.int)) pl = some (.lst ([0, 0 - 1 - far, 17, 17 + far].map V.int)) := upd_same
        have B := B.keep sL
        have hpne := box_ne B hL
        show tCall _ [] _ _ _ (upd HL pl (.lst ([0, 0 - 1 - far, 17, 17 + far].map V.int))) _
        generalize upd HL pl (.lst ([0, 0 - 1 - far, 17, 17 + far].map V.int)) = HP at sL hL B
        walk_at "go"
        refine cp_law_draw B (by decide) fun d HP2 d0 d1 B kp => ?_
        obtain ⟨i, hi, hi2⟩ : ∃ i : Nat, d = (i : Int) ∧ i < 4 := ⟨d.toNat, by omega, by omega⟩
        subst hi
        obtain ⟨u, hu, hout⟩ : ∃ u : Int, atI ([0, 0 - 1 - far, 17, 17 + far].map V.int) (i : Int) = some (.int u) ∧ ¬ (1 ≤ u ∧ u ≤ 16) := by
          rcases (show i = 0 ∨ i = 1 ∨ i = 2 ∨ i = 3 by omega) with e | e | e | e <;> subst e
          · exact ⟨_, at_of (j := 0) rfl rfl, by omega⟩
          · exact ⟨_, at_of (j := 1) rfl rfl, by omega⟩
          · exact ⟨_, at_of (j := 2) rfl rfl, by omega⟩
          · exact ⟨_, at_of (j := 3) rfl rfl, by omega⟩
        refine Gx.ixL (SqL.of (by rw [kp pl hpne]; exact hL)) hu ?_
        walk_at "go"
        exact ⟨u, m, c, j, z, hcl, B, by rw [d5_pfx (pfx_width hout)]; rfl⟩
      · walk_at "go"
        exact ⟨_, _, _, _, _, hcl, B, rfl⟩
    clear okw
    rintro σ' HQ ⟨w, m, c, j, z, hcl, B, rfl⟩
    walk_at "go"
    refine Gx.r1 (by decide) (by decide) ?_
    refine Gx.fw walk_range (fun i σ' H' => ∃ v1 v2 : Option V, σ' = [some (.ref a), some (.ref b), some (.int w), some (.int m), some (.str (Bs.S c)), some (.int j), some (.str z), some (.int far), v1, some (.str (d5 w m j c.length z)), v2]) ⟨_, _, rfl⟩ (fun _ _ _ _ _ => trivial) ?_ ?_
    · rintro i x σ' HR HR' hi ⟨v1, v2, rfl⟩ ⟨rfl, hx⟩
      have hi4 : i < 4 := hi
      have hx2 : x = .int (i : Int) := hx.trans (congrArg V.int (by omega))
      subst hx2
      walk_at "go"
      cases hp : pfxBad w m c.length with
      | some s =>
        rw [d5_pfx hp]
        refine Gx.if_n (by rcases pfx_is hp with e | e | e <;> subst e <;> decide +kernel) ?_
        walk_at "go"
        refine Gx.if_n (by rcases pfx_is hp with e | e | e <;> subst e <;> decide +kernel) ?_
        walk_at "go"
        refine cp_law_refusal (by omega) (by omega) hcl fun HS sS => ?_
        rw [Int.toNat_natCast, ask_four hi4, hp]
        walk_at "go"
        rw [show decide ((some s).getD (Str.ofString "") = s) = true from decide_eq_true rfl]
        walk_at "go"
        exact ⟨_, _, rfl⟩
      | none =>
        rcases d5_is (j := j) (z := z) hp with e | e | e <;> rw [e]
        · refine Gx.if_y (by decide +kernel) ?_
          walk_at "go"
          refine cp_law_refusal (by omega) (by omega) hcl fun HS sS => ?_
          rw [Int.toNat_natCast, ask_four hi4, hp]
          walk_at "go"
          rw [show decide ((none : Option Str).getD (Str.ofString "") = Str.ofString "") = true from decide_eq_true rfl]
          walk_at "go"
          exact ⟨_, _, rfl⟩
        · refine Gx.if_n (by decide +kernel) ?_
          walk_at "go"
          refine Gx.if_y (by decide +kernel) ?_
          walk_at "go"
          refine cp_law_refusal (by omega) (by omega) hcl fun HS sS => ?_
          rw [Int.toNat_natCast, ask_four hi4, hp]
          walk_at "go"
          rw [show decide ((none : Option Str).getD (Str.ofString "") = Str.ofString "") = true from decide_eq_true rfl]
          walk_at "go"
          exact ⟨_, _, rfl⟩
        · refine Gx.if_n (by decide +kernel) ?_
          walk_at "go"
          refine Gx.if_n (by decide +kernel) ?_
          walk_at "go"
          refine cp_law_refusal (by omega) (by omega) hcl fun HS sS => ?_
          rw [Int.toNat_natCast, ask_four hi4, hp]
          walk_at "go"
          rw [show decide ((none : Option Str).getD (Str.ofString "") = Str.ofString "") = true from decide_eq_true rfl]
          walk_at "go"
          exact ⟨_, _, rfl⟩
    rintro σ' HR ⟨v1, v2, rfl⟩
    walk_at "go"
    refine cp_law_refusal (by decide) (by decide) hcl fun HS sS => ?_
    rw [show ((askBad (4 : Int).toNat w m j c.length z).getD (Str.ofString "")) = d5 w m j c.length z from rfl]
    walk_at "go"
    rw [decide_eq_true rfl]
    exact q _


end
theorem all_mk {l : PySem.W.OpenLaw} {w : World} {K : PySem.W.Frag} {h : Heap} {mg : Str → Option Value} {fa : Addr} (X : K.In h) (G : h.Ns mainGlobals mg) (hfa : mg "law" = some (.ref fa))
    {C_Coding : Addr}
    {C_OutOfRange f_OutOfRange cda_OutOfRange cc_OutOfRange N_OutOfRange : Addr} {nm_OutOfRange q_OutOfRange fi_OutOfRange : Str} {bs_OutOfRange bm_OutOfRange sub_OutOfRange : List Value} {sn_OutOfRange : List Str} {ab_OutOfRange : Bool} {col_OutOfRange : Option Bool} {dd_OutOfRange od_OutOfRange an_OutOfRange cdd_OutOfRange cld_OutOfRange : Option Addr} {k0_OutOfRange k1_OutOfRange k2_OutOfRange k3_OutOfRange k5_OutOfRange : Option Value} {oc_OutOfRange kV_OutOfRange dc_OutOfRange pm_OutOfRange ct_OutOfRange ccl_OutOfRange cl_OutOfRange : Value} {sl_OutOfRange ccs_OutOfRange csl_OutOfRange : Array (Option Value)} {vs_OutOfRange : Array Value} {tf_OutOfRange : Tok}
    {C_Contradiction : Addr}
    {C_OtherKind : Addr}
    {C_PictureError : Addr}
    {f_first_with_one : Addr} {od_first_with_one an_first_with_one : Option Addr} {sl_first_with_one : Array (Option Value)} {oc_first_with_one kV_first_with_one dc_first_with_one pm_first_with_one cd_first_with_one ct_first_with_one : Value}
    {f_last_with_zero : Addr} {od_last_with_zero an_last_with_zero : Option Addr} {sl_last_with_zero : Array (Option Value)} {oc_last_with_zero kV_last_with_zero dc_last_with_zero pm_last_with_zero cd_last_with_zero ct_last_with_zero : Value}
    {f_sample_of : Addr} {od_sample_of an_sample_of : Option Addr} {sl_sample_of : Array (Option Value)} {oc_sample_of kV_sample_of dc_sample_of pm_sample_of cd_sample_of ct_sample_of : Value}
    {f_digits_of : Addr} {od_digits_of an_digits_of : Option Addr} {sl_digits_of : Array (Option Value)} {oc_digits_of kV_digits_of dc_digits_of pm_digits_of cd_digits_of ct_digits_of : Value}
    {f_shortest_cell : Addr} {od_shortest_cell an_shortest_cell : Option Addr} {sl_shortest_cell : Array (Option Value)} {oc_shortest_cell kV_shortest_cell dc_shortest_cell pm_shortest_cell cd_shortest_cell ct_shortest_cell : Value}
    {f_Coding_interval : Addr} {od_Coding_interval an_Coding_interval : Option Addr} {sl_Coding_interval : Array (Option Value)} {oc_Coding_interval kV_Coding_interval dc_Coding_interval pm_Coding_interval cd_Coding_interval ct_Coding_interval : Value}
    {f_context : Addr} {od_context an_context : Option Addr} {sl_context : Array (Option Value)} {oc_context kV_context dc_context pm_context cd_context ct_context : Value}
    {f_Coding_take : Addr} {od_Coding_take an_Coding_take : Option Addr} {sl_Coding_take : Array (Option Value)} {oc_Coding_take kV_Coding_take dc_Coding_take pm_Coding_take cd_Coding_take ct_Coding_take : Value}
    {f_Coding___init__ : Addr} {od_Coding___init__ an_Coding___init__ : Option Addr} {sl_Coding___init__ : Array (Option Value)} {oc_Coding___init__ kV_Coding___init__ dc_Coding___init__ pm_Coding___init__ cd_Coding___init__ ct_Coding___init__ : Value}
    {f_coding_of : Addr} {od_coding_of an_coding_of : Option Addr} {sl_coding_of : Array (Option Value)} {oc_coding_of kV_coding_of dc_coding_of pm_coding_of cd_coding_of ct_coding_of : Value}
    {f_interval : Addr} {od_interval an_interval : Option Addr} {sl_interval : Array (Option Value)} {oc_interval kV_interval dc_interval pm_interval cd_interval ct_interval : Value}
    {f_code_of : Addr} {od_code_of an_code_of : Option Addr} {sl_code_of : Array (Option Value)} {oc_code_of kV_code_of dc_code_of pm_code_of cd_code_of ct_code_of : Value}
    {f_opens : Addr} {od_opens an_opens : Option Addr} {sl_opens : Array (Option Value)} {oc_opens kV_opens dc_opens pm_opens cd_opens ct_opens : Value}
    {f_next_bits : Addr} {od_next_bits an_next_bits : Option Addr} {sl_next_bits : Array (Option Value)} {oc_next_bits kV_next_bits dc_next_bits pm_next_bits cd_next_bits ct_next_bits : Value}
    {f_Coding_shares : Addr} {od_Coding_shares an_Coding_shares : Option Addr} {sl_Coding_shares : Array (Option Value)} {oc_Coding_shares kV_Coding_shares dc_Coding_shares pm_Coding_shares cd_Coding_shares ct_Coding_shares : Value}
    {f_Coding_border : Addr} {od_Coding_border an_Coding_border : Option Addr} {sl_Coding_border : Array (Option Value)} {oc_Coding_border kV_Coding_border dc_Coding_border pm_Coding_border cd_Coding_border ct_Coding_border : Value}
    {f_bit_of_cell : Addr} {od_bit_of_cell an_bit_of_cell : Option Addr} {sl_bit_of_cell : Array (Option Value)} {oc_bit_of_cell kV_bit_of_cell dc_bit_of_cell pm_bit_of_cell cd_bit_of_cell ct_bit_of_cell : Value}
    {f_number_of : Addr} {od_number_of an_number_of : Option Addr} {sl_number_of : Array (Option Value)} {oc_number_of kV_number_of dc_number_of pm_number_of cd_number_of ct_number_of : Value}
    {f_prefix_of : Addr} {od_prefix_of an_prefix_of : Option Addr} {sl_prefix_of : Array (Option Value)} {oc_prefix_of kV_prefix_of dc_prefix_of pm_prefix_of cd_prefix_of ct_prefix_of : Value}
    {f_check_range : Addr} {od_check_range an_check_range : Option Addr} {sl_check_range : Array (Option Value)} {oc_check_range kV_check_range dc_check_range pm_check_range cd_check_range ct_check_range : Value}
    {f_check_code : Addr} {od_check_code an_check_code : Option Addr} {sl_check_code : Array (Option Value)} {oc_check_code kV_check_code dc_check_code pm_check_code cd_check_code ct_check_code : Value}
    {f_check_width : Addr} {od_check_width an_check_width : Option Addr} {sl_check_width : Array (Option Value)} {oc_check_width kV_check_width dc_check_width pm_check_width cd_check_width ct_check_width : Value}
    {f_check_prefix : Addr} {od_check_prefix an_check_prefix : Option Addr} {sl_check_prefix : Array (Option Value)} {oc_check_prefix kV_check_prefix dc_check_prefix pm_check_prefix cd_check_prefix ct_check_prefix : Value}
    {f_sample : Addr} {od_sample an_sample : Option Addr} {sl_sample : Array (Option Value)} {oc_sample kV_sample dc_sample pm_sample cd_sample ct_sample : Value}
    {f_possible_or_beside : Addr} {od_possible_or_beside an_possible_or_beside : Option Addr} {sl_possible_or_beside : Array (Option Value)} {oc_possible_or_beside kV_possible_or_beside dc_possible_or_beside pm_possible_or_beside cd_possible_or_beside ct_possible_or_beside : Value}
    {f_bits_at : Addr} {od_bits_at an_bits_at : Option Addr} {sl_bits_at : Array (Option Value)} {oc_bits_at kV_bits_at dc_bits_at pm_bits_at cd_bits_at ct_bits_at : Value}
    {f_first_bits : Addr} {od_first_bits an_first_bits : Option Addr} {sl_first_bits : Array (Option Value)} {oc_first_bits kV_first_bits dc_first_bits pm_first_bits cd_first_bits ct_first_bits : Value}
    {f_first_possible : Addr} {od_first_possible an_first_possible : Option Addr} {sl_first_possible : Array (Option Value)} {oc_first_possible kV_first_possible dc_first_possible pm_first_possible cd_first_possible ct_first_possible : Value}
    {f_last_bits : Addr} {od_last_bits an_last_bits : Option Addr} {sl_last_bits : Array (Option Value)} {oc_last_bits kV_last_bits dc_last_bits pm_last_bits cd_last_bits ct_last_bits : Value}
    {f_count_possible : Addr} {od_count_possible an_count_possible : Option Addr} {sl_count_possible : Array (Option Value)} {oc_count_possible kV_count_possible dc_count_possible pm_count_possible cd_count_possible ct_count_possible : Value}
    {f_marked : Addr} {od_marked an_marked : Option Addr} {sl_marked : Array (Option Value)} {oc_marked kV_marked dc_marked pm_marked cd_marked ct_marked : Value}
    {f_known_prefix : Addr} {od_known_prefix an_known_prefix : Option Addr} {sl_known_prefix : Array (Option Value)} {oc_known_prefix kV_known_prefix dc_known_prefix pm_known_prefix cd_known_prefix ct_known_prefix : Value}
    {f_known : Addr} {od_known an_known : Option Addr} {sl_known : Array (Option Value)} {oc_known kV_known dc_known pm_known cd_known ct_known : Value}
    {f_law_ask : Addr} {od_law_ask an_law_ask : Option Addr} {sl_law_ask : Array (Option Value)} {oc_law_ask kV_law_ask dc_law_ask pm_law_ask cd_law_ask ct_law_ask : Value}
    {f_law_refusal : Addr} {od_law_refusal an_law_refusal : Option Addr} {sl_law_refusal : Array (Option Value)} {oc_law_refusal kV_law_refusal dc_law_refusal pm_law_refusal cd_law_refusal ct_law_refusal : Value}
    {f_law_draw : Addr} {od_law_draw an_law_draw : Option Addr} {sl_law_draw : Array (Option Value)} {oc_law_draw kV_law_draw dc_law_draw pm_law_draw cd_law_draw ct_law_draw : Value}
    {f_law_bits : Addr} {od_law_bits an_law_bits : Option Addr} {sl_law_bits : Array (Option Value)} {oc_law_bits kV_law_bits dc_law_bits pm_law_bits cd_law_bits ct_law_bits : Value}
    {f_law_cell : Addr} {od_law_cell an_law_cell : Option Addr} {sl_law_cell : Array (Option Value)} {oc_law_cell kV_law_cell dc_law_cell pm_law_cell cd_law_cell ct_law_cell : Value}
    {f_law_digits : Addr} {od_law_digits an_law_digits : Option Addr} {sl_law_digits : Array (Option Value)} {oc_law_digits kV_law_digits dc_law_digits pm_law_digits cd_law_digits ct_law_digits : Value}
    {f_law : Addr} {od_law an_law : Option Addr} {sl_law : Array (Option Value)} {oc_law kV_law dc_law pm_law cd_law ct_law : Value}
    {t_BITS_MOST : Tok}
    {t_CODE_MOST : Tok}
    {t_CONTEXTS : Tok}
    {t_WIDTH_MOST : Tok}
    (g_Coding : PySem.W.nsIn K mainGlobals "Coding" = some (some (.ref C_Coding)))
    (pg_Coding : PySem.W.plainGet K C_Coding Str.empty = true)
    (hd_Coding : PySem.W.hasDictIn K C_Coding = true)
    (po_Coding : PySem.W.plainOver K C_Coding = true)
    (sa_Coding : PySem.W.findIn K (.ref C_Coding) "__setattr__" = some (some (.builtin "object.__setattr__")))
    (mk_Coding : PySem.W.makesIn K C_Coding = true)
    (kc_Coding : PySem.W.keepIn K (.ref C_Coding) = true)
    (na_Coding_bits : PySem.W.findIn K (.ref C_Coding) "bits" = some none)
    (na_Coding__width : PySem.W.findIn K (.ref C_Coding) "_width" = some none)
    (na_Coding__low : PySem.W.findIn K (.ref C_Coding) "_low" = some none)
    (na_Coding__size : PySem.W.findIn K (.ref C_Coding) "_size" = some none)
    (na_Coding__whole : PySem.W.findIn K (.ref C_Coding) "_whole" = some none)
    (na_Coding__zeros : PySem.W.findIn K (.ref C_Coding) "_zeros" = some none)
    (na_Coding__ones : PySem.W.findIn K (.ref C_Coding) "_ones" = some none)
    (topS : (l.prog.main.scope.names.lookup ("super" : Str)).isSome = false)
    (nsS : PySem.W.nsIn K mainGlobals "super" = some none)
    (opS : PySem.W.nsIn K cStatics "thirdparty.any" = some none)
    (spS : PySem.W.specialIn K (.builtin "object.__class__") "__get__" = some (some (.builtin "getset_descriptor.__get__")))
    (tkS : PySem.W.takesIn K (.builtin "object.__class__") = some true)
    (g_OutOfRange : PySem.W.nsIn K mainGlobals "OutOfRange" = some (some (.ref C_OutOfRange)))
    (lC_OutOfRange : K.lookup C_OutOfRange = some (excClassObj nm_OutOfRange q_OutOfRange C_OutOfRange N_OutOfRange bs_OutOfRange bm_OutOfRange true sn_OutOfRange sub_OutOfRange ab_OutOfRange col_OutOfRange dd_OutOfRange k0_OutOfRange k1_OutOfRange k2_OutOfRange k3_OutOfRange k5_OutOfRange "ValueError.__new__"))
    (rv_OutOfRange : PySem.HandSPX.refsVE bm_OutOfRange = true)
    (sa_OutOfRange : PySem.W.findIn K (.ref C_OutOfRange) "__setattr__" = some (some (.builtin "object.__setattr__")))
    (bb_OutOfRange : PySem.W.subIn K (.ref C_OutOfRange) (.type "BaseException") = some true)
    (ty_OutOfRange : PySem.W.typeIn K (.ref C_OutOfRange) = some (.type "type"))
    (kC_OutOfRange : PySem.W.keepIn K (.ref C_OutOfRange) = true)
    (iC_OutOfRange : PySem.W.findIn K (.ref C_OutOfRange) "__init__" = some (some (.ref f_OutOfRange)))
    (tI_OutOfRange : PySem.W.typeIn K (.ref f_OutOfRange) = some (.type "function"))
    (lf_OutOfRange : K.lookup f_OutOfRange = some ⟨oc_OutOfRange, od_OutOfRange, .func (PySem.W.ksFn "__init__" "OutOfRange.__init__" (defArgs s_OutOfRange___init__) (defBody s_OutOfRange___init__) (defScope s_OutOfRange___init__) .none kV_OutOfRange dc_OutOfRange pm_OutOfRange an_OutOfRange (.ref cda_OutOfRange) ct_OutOfRange cc_OutOfRange), sl_OutOfRange⟩)
    (cf_OutOfRange : PySem.W.codeIn K (.ref cda_OutOfRange) "OutOfRange.__init__" = true)
    (lcd_OutOfRange : K.lookup cda_OutOfRange = some ⟨ccl_OutOfRange, cdd_OutOfRange, .fields vs_OutOfRange, ccs_OutOfRange⟩)
    (vs2_OutOfRange : vs_OutOfRange[2]? = some (.str fi_OutOfRange tf_OutOfRange))
    (fil_OutOfRange : ((l.prog.main.file : Str) == fi_OutOfRange) = true)
    (lcc_OutOfRange : K.lookup cc_OutOfRange = some ⟨cl_OutOfRange, cld_OutOfRange, .cell (some (.ref C_OutOfRange)), csl_OutOfRange⟩)
    (su_OutOfRange : PySem.W.mroIn K C_OutOfRange (.ref C_OutOfRange) = some true)
    (sup_OutOfRange : PySem.W.ks_superIn K C_OutOfRange C_OutOfRange "__init__" = some (some (.builtin "ValueError.__init__")))
    (isV_OutOfRange : PySem.W.subIn K (.ref C_OutOfRange) (.type "ValueError") = some true)
    (ga_OutOfRange : PySem.W.findIn K (.ref C_OutOfRange) "__getattribute__" = some (some (.builtin "BaseException.__getattribute__")))
    (gg_OutOfRange : PySem.W.findIn K (.ref C_OutOfRange) "__getattr__" = some none)
    (ca_OutOfRange : PySem.W.findIn K (.ref C_OutOfRange) "__class__" = some (some (.builtin "object.__class__")))
    (ob_OutOfRange : PySem.W.mroIn K C_OutOfRange (.type "object") = some true)
    (hd_OutOfRange : PySem.W.hasDictIn K C_OutOfRange = true)
    (ss_OutOfRange : PySem.W.subIn K (.ref C_OutOfRange) (.ref C_OutOfRange) = some true)
    (g_Contradiction : PySem.W.nsIn K mainGlobals "Contradiction" = some (some (.ref C_Contradiction)))
    (kC_Contradiction : PySem.W.keepIn K (.ref C_Contradiction) = true)
    (ex_Contradiction : PySem.W.excIn K C_Contradiction [.type "ValueError", .type "Exception", .type "BaseException", .type "object"] "ValueError.__new__" = true)
    (bb_Contradiction : PySem.W.subIn K (.ref C_Contradiction) (.type "BaseException") = some true)
    (ty_Contradiction : PySem.W.typeIn K (.ref C_Contradiction) = some (.type "type"))
    (hd_Contradiction : PySem.W.hasDictIn K C_Contradiction = true)
    (ss_Contradiction : PySem.W.subIn K (.ref C_Contradiction) (.ref C_Contradiction) = some true)
    (g_OtherKind : PySem.W.nsIn K mainGlobals "OtherKind" = some (some (.ref C_OtherKind)))
    (kC_OtherKind : PySem.W.keepIn K (.ref C_OtherKind) = true)
    (ex_OtherKind : PySem.W.excIn K C_OtherKind [.type "ValueError", .type "Exception", .type "BaseException", .type "object"] "ValueError.__new__" = true)
    (bb_OtherKind : PySem.W.subIn K (.ref C_OtherKind) (.type "BaseException") = some true)
    (ty_OtherKind : PySem.W.typeIn K (.ref C_OtherKind) = some (.type "type"))
    (hd_OtherKind : PySem.W.hasDictIn K C_OtherKind = true)
    (ss_OtherKind : PySem.W.subIn K (.ref C_OtherKind) (.ref C_OtherKind) = some true)
    (g_PictureError : PySem.W.nsIn K mainGlobals "PictureError" = some (some (.ref C_PictureError)))
    (kC_PictureError : PySem.W.keepIn K (.ref C_PictureError) = true)
    (ex_PictureError : PySem.W.excIn K C_PictureError [.type "ValueError", .type "Exception", .type "BaseException", .type "object"] "ValueError.__new__" = true)
    (bb_PictureError : PySem.W.subIn K (.ref C_PictureError) (.type "BaseException") = some true)
    (ty_PictureError : PySem.W.typeIn K (.ref C_PictureError) = some (.type "type"))
    (hd_PictureError : PySem.W.hasDictIn K C_PictureError = true)
    (ss_PictureError : PySem.W.subIn K (.ref C_PictureError) (.ref C_PictureError) = some true)
    (nf_OutOfRange_name : PySem.W.findIn K (.ref C_OutOfRange) "name" = some none)
    (em_OutOfRange_PictureError : PySem.W.subIn K (.ref C_OutOfRange) (.ref C_PictureError) = some true)
    (ki_OutOfRange_Contradiction : PySem.W.kitOne K (.ref C_OutOfRange) (.ref C_Contradiction) = some false)
    (ki_OutOfRange_OtherKind : PySem.W.kitOne K (.ref C_OutOfRange) (.ref C_OtherKind) = some false)
    (ki_OutOfRange_OutOfRange : PySem.W.kitOne K (.ref C_OutOfRange) (.ref C_OutOfRange) = some true)
    (ki_OutOfRange_ValueError : PySem.W.kitOne K (.ref C_OutOfRange) (.type "ValueError") = some true)
    (a_first_with_one : PySem.W.nsIn K mainGlobals "first_with_one" = some (some (.ref f_first_with_one)))
    (l_first_with_one : K.lookup f_first_with_one = some ⟨oc_first_with_one, od_first_with_one, .func (PySem.W.fnOf "first_with_one" "first_with_one" (defArgs s_first_with_one) (defBody s_first_with_one) (defScope s_first_with_one) .none kV_first_with_one dc_first_with_one pm_first_with_one an_first_with_one cd_first_with_one ct_first_with_one), sl_first_with_one⟩)
    (c_first_with_one : PySem.W.codeIn K cd_first_with_one "first_with_one" = true)
    (k_first_with_one : PySem.W.keepIn K (.ref f_first_with_one) = true)
    (a_last_with_zero : PySem.W.nsIn K mainGlobals "last_with_zero" = some (some (.ref f_last_with_zero)))
    (l_last_with_zero : K.lookup f_last_with_zero = some ⟨oc_last_with_zero, od_last_with_zero, .func (PySem.W.fnOf "last_with_zero" "last_with_zero" (defArgs s_last_with_zero) (defBody s_last_with_zero) (defScope s_last_with_zero) .none kV_last_with_zero dc_last_with_zero pm_last_with_zero an_last_with_zero cd_last_with_zero ct_last_with_zero), sl_last_with_zero⟩)
    (c_last_with_zero : PySem.W.codeIn K cd_last_with_zero "last_with_zero" = true)
    (k_last_with_zero : PySem.W.keepIn K (.ref f_last_with_zero) = true)
    (a_sample_of : PySem.W.nsIn K mainGlobals "sample_of" = some (some (.ref f_sample_of)))
    (l_sample_of : K.lookup f_sample_of = some ⟨oc_sample_of, od_sample_of, .func (PySem.W.fnOf "sample_of" "sample_of" (defArgs s_sample_of) (defBody s_sample_of) (defScope s_sample_of) .none kV_sample_of dc_sample_of pm_sample_of an_sample_of cd_sample_of ct_sample_of), sl_sample_of⟩)
    (c_sample_of : PySem.W.codeIn K cd_sample_of "sample_of" = true)
    (k_sample_of : PySem.W.keepIn K (.ref f_sample_of) = true)
    (a_digits_of : PySem.W.nsIn K mainGlobals "digits_of" = some (some (.ref f_digits_of)))
    (l_digits_of : K.lookup f_digits_of = some ⟨oc_digits_of, od_digits_of, .func (PySem.W.fnOf "digits_of" "digits_of" (defArgs s_digits_of) (defBody s_digits_of) (defScope s_digits_of) .none kV_digits_of dc_digits_of pm_digits_of an_digits_of cd_digits_of ct_digits_of), sl_digits_of⟩)
    (c_digits_of : PySem.W.codeIn K cd_digits_of "digits_of" = true)
    (k_digits_of : PySem.W.keepIn K (.ref f_digits_of) = true)
    (a_shortest_cell : PySem.W.nsIn K mainGlobals "shortest_cell" = some (some (.ref f_shortest_cell)))
    (l_shortest_cell : K.lookup f_shortest_cell = some ⟨oc_shortest_cell, od_shortest_cell, .func (PySem.W.fnOf "shortest_cell" "shortest_cell" (defArgs s_shortest_cell) (defBody s_shortest_cell) (defScope s_shortest_cell) .none kV_shortest_cell dc_shortest_cell pm_shortest_cell an_shortest_cell cd_shortest_cell ct_shortest_cell), sl_shortest_cell⟩)
    (c_shortest_cell : PySem.W.codeIn K cd_shortest_cell "shortest_cell" = true)
    (k_shortest_cell : PySem.W.keepIn K (.ref f_shortest_cell) = true)
    (a_Coding_interval : PySem.W.findIn K (.ref C_Coding) "interval" = some (some (.ref f_Coding_interval)))
    (i_Coding_interval : PySem.W.isFn K (.ref f_Coding_interval) = true)
    (l_Coding_interval : K.lookup f_Coding_interval = some ⟨oc_Coding_interval, od_Coding_interval, .func (PySem.W.fnOf "interval" "Coding.interval" (defArgs s_Coding_interval) (defBody s_Coding_interval) (defScope s_Coding_interval) .none kV_Coding_interval dc_Coding_interval pm_Coding_interval an_Coding_interval cd_Coding_interval ct_Coding_interval), sl_Coding_interval⟩)
    (c_Coding_interval : PySem.W.codeIn K cd_Coding_interval "Coding.interval" = true)
    (k_Coding_interval : PySem.W.keepIn K (.ref f_Coding_interval) = true)
    (a_context : PySem.W.nsIn K mainGlobals "context" = some (some (.ref f_context)))
    (l_context : K.lookup f_context = some ⟨oc_context, od_context, .func (PySem.W.fnOf "context" "context" (defArgs s_context) (defBody s_context) (defScope s_context) .none kV_context dc_context pm_context an_context cd_context ct_context), sl_context⟩)
    (c_context : PySem.W.codeIn K cd_context "context" = true)
    (k_context : PySem.W.keepIn K (.ref f_context) = true)
    (a_Coding_take : PySem.W.findIn K (.ref C_Coding) "take" = some (some (.ref f_Coding_take)))
    (i_Coding_take : PySem.W.isFn K (.ref f_Coding_take) = true)
    (l_Coding_take : K.lookup f_Coding_take = some ⟨oc_Coding_take, od_Coding_take, .func (PySem.W.fnOf "take" "Coding.take" (defArgs s_Coding_take) (defBody s_Coding_take) (defScope s_Coding_take) .none kV_Coding_take dc_Coding_take pm_Coding_take an_Coding_take cd_Coding_take ct_Coding_take), sl_Coding_take⟩)
    (c_Coding_take : PySem.W.codeIn K cd_Coding_take "Coding.take" = true)
    (k_Coding_take : PySem.W.keepIn K (.ref f_Coding_take) = true)
    (a_Coding___init__ : PySem.W.findIn K (.ref C_Coding) "__init__" = some (some (.ref f_Coding___init__)))
    (i_Coding___init__ : PySem.W.isFn K (.ref f_Coding___init__) = true)
    (l_Coding___init__ : K.lookup f_Coding___init__ = some ⟨oc_Coding___init__, od_Coding___init__, .func (PySem.W.fnOf "__init__" "Coding.__init__" (defArgs s_Coding___init__) (defBody s_Coding___init__) (defScope s_Coding___init__) .none kV_Coding___init__ dc_Coding___init__ pm_Coding___init__ an_Coding___init__ cd_Coding___init__ ct_Coding___init__), sl_Coding___init__⟩)
    (c_Coding___init__ : PySem.W.codeIn K cd_Coding___init__ "Coding.__init__" = true)
    (k_Coding___init__ : PySem.W.keepIn K (.ref f_Coding___init__) = true)
    (a_coding_of : PySem.W.nsIn K mainGlobals "coding_of" = some (some (.ref f_coding_of)))
    (l_coding_of : K.lookup f_coding_of = some ⟨oc_coding_of, od_coding_of, .func (PySem.W.fnOf "coding_of" "coding_of" (defArgs s_coding_of) (defBody s_coding_of) (defScope s_coding_of) .none kV_coding_of dc_coding_of pm_coding_of an_coding_of cd_coding_of ct_coding_of), sl_coding_of⟩)
    (c_coding_of : PySem.W.codeIn K cd_coding_of "coding_of" = true)
    (k_coding_of : PySem.W.keepIn K (.ref f_coding_of) = true)
    (a_interval : PySem.W.nsIn K mainGlobals "interval" = some (some (.ref f_interval)))
    (l_interval : K.lookup f_interval = some ⟨oc_interval, od_interval, .func (PySem.W.fnOf "interval" "interval" (defArgs s_interval) (defBody s_interval) (defScope s_interval) .none kV_interval dc_interval pm_interval an_interval cd_interval ct_interval), sl_interval⟩)
    (c_interval : PySem.W.codeIn K cd_interval "interval" = true)
    (k_interval : PySem.W.keepIn K (.ref f_interval) = true)
    (a_code_of : PySem.W.nsIn K mainGlobals "code_of" = some (some (.ref f_code_of)))
    (l_code_of : K.lookup f_code_of = some ⟨oc_code_of, od_code_of, .func (PySem.W.fnOf "code_of" "code_of" (defArgs s_code_of) (defBody s_code_of) (defScope s_code_of) .none kV_code_of dc_code_of pm_code_of an_code_of cd_code_of ct_code_of), sl_code_of⟩)
    (c_code_of : PySem.W.codeIn K cd_code_of "code_of" = true)
    (k_code_of : PySem.W.keepIn K (.ref f_code_of) = true)
    (a_opens : PySem.W.nsIn K mainGlobals "opens" = some (some (.ref f_opens)))
    (l_opens : K.lookup f_opens = some ⟨oc_opens, od_opens, .func (PySem.W.fnOf "opens" "opens" (defArgs s_opens) (defBody s_opens) (defScope s_opens) .none kV_opens dc_opens pm_opens an_opens cd_opens ct_opens), sl_opens⟩)
    (c_opens : PySem.W.codeIn K cd_opens "opens" = true)
    (k_opens : PySem.W.keepIn K (.ref f_opens) = true)
    (a_next_bits : PySem.W.nsIn K mainGlobals "next_bits" = some (some (.ref f_next_bits)))
    (l_next_bits : K.lookup f_next_bits = some ⟨oc_next_bits, od_next_bits, .func (PySem.W.fnOf "next_bits" "next_bits" (defArgs s_next_bits) (defBody s_next_bits) (defScope s_next_bits) .none kV_next_bits dc_next_bits pm_next_bits an_next_bits cd_next_bits ct_next_bits), sl_next_bits⟩)
    (c_next_bits : PySem.W.codeIn K cd_next_bits "next_bits" = true)
    (k_next_bits : PySem.W.keepIn K (.ref f_next_bits) = true)
    (a_Coding_shares : PySem.W.findIn K (.ref C_Coding) "shares" = some (some (.ref f_Coding_shares)))
    (i_Coding_shares : PySem.W.isFn K (.ref f_Coding_shares) = true)
    (l_Coding_shares : K.lookup f_Coding_shares = some ⟨oc_Coding_shares, od_Coding_shares, .func (PySem.W.fnOf "shares" "Coding.shares" (defArgs s_Coding_shares) (defBody s_Coding_shares) (defScope s_Coding_shares) .none kV_Coding_shares dc_Coding_shares pm_Coding_shares an_Coding_shares cd_Coding_shares ct_Coding_shares), sl_Coding_shares⟩)
    (c_Coding_shares : PySem.W.codeIn K cd_Coding_shares "Coding.shares" = true)
    (k_Coding_shares : PySem.W.keepIn K (.ref f_Coding_shares) = true)
    (a_Coding_border : PySem.W.findIn K (.ref C_Coding) "border" = some (some (.ref f_Coding_border)))
    (i_Coding_border : PySem.W.isFn K (.ref f_Coding_border) = true)
    (l_Coding_border : K.lookup f_Coding_border = some ⟨oc_Coding_border, od_Coding_border, .func (PySem.W.fnOf "border" "Coding.border" (defArgs s_Coding_border) (defBody s_Coding_border) (defScope s_Coding_border) .none kV_Coding_border dc_Coding_border pm_Coding_border an_Coding_border cd_Coding_border ct_Coding_border), sl_Coding_border⟩)
    (c_Coding_border : PySem.W.codeIn K cd_Coding_border "Coding.border" = true)
    (k_Coding_border : PySem.W.keepIn K (.ref f_Coding_border) = true)
    (a_bit_of_cell : PySem.W.nsIn K mainGlobals "bit_of_cell" = some (some (.ref f_bit_of_cell)))
    (l_bit_of_cell : K.lookup f_bit_of_cell = some ⟨oc_bit_of_cell, od_bit_of_cell, .func (PySem.W.fnOf "bit_of_cell" "bit_of_cell" (defArgs s_bit_of_cell) (defBody s_bit_of_cell) (defScope s_bit_of_cell) .none kV_bit_of_cell dc_bit_of_cell pm_bit_of_cell an_bit_of_cell cd_bit_of_cell ct_bit_of_cell), sl_bit_of_cell⟩)
    (c_bit_of_cell : PySem.W.codeIn K cd_bit_of_cell "bit_of_cell" = true)
    (k_bit_of_cell : PySem.W.keepIn K (.ref f_bit_of_cell) = true)
    (a_number_of : PySem.W.nsIn K mainGlobals "number_of" = some (some (.ref f_number_of)))
    (l_number_of : K.lookup f_number_of = some ⟨oc_number_of, od_number_of, .func (PySem.W.fnOf "number_of" "number_of" (defArgs s_number_of) (defBody s_number_of) (defScope s_number_of) .none kV_number_of dc_number_of pm_number_of an_number_of cd_number_of ct_number_of), sl_number_of⟩)
    (c_number_of : PySem.W.codeIn K cd_number_of "number_of" = true)
    (k_number_of : PySem.W.keepIn K (.ref f_number_of) = true)
    (a_prefix_of : PySem.W.nsIn K mainGlobals "prefix_of" = some (some (.ref f_prefix_of)))
    (l_prefix_of : K.lookup f_prefix_of = some ⟨oc_prefix_of, od_prefix_of, .func (PySem.W.fnOf "prefix_of" "prefix_of" (defArgs s_prefix_of) (defBody s_prefix_of) (defScope s_prefix_of) .none kV_prefix_of dc_prefix_of pm_prefix_of an_prefix_of cd_prefix_of ct_prefix_of), sl_prefix_of⟩)
    (c_prefix_of : PySem.W.codeIn K cd_prefix_of "prefix_of" = true)
    (k_prefix_of : PySem.W.keepIn K (.ref f_prefix_of) = true)
    (a_check_range : PySem.W.nsIn K mainGlobals "check_range" = some (some (.ref f_check_range)))
    (l_check_range : K.lookup f_check_range = some ⟨oc_check_range, od_check_range, .func (PySem.W.fnOf "check_range" "check_range" (defArgs s_check_range) (defBody s_check_range) (defScope s_check_range) .none kV_check_range dc_check_range pm_check_range an_check_range cd_check_range ct_check_range), sl_check_range⟩)
    (c_check_range : PySem.W.codeIn K cd_check_range "check_range" = true)
    (k_check_range : PySem.W.keepIn K (.ref f_check_range) = true)
    (a_check_code : PySem.W.nsIn K mainGlobals "check_code" = some (some (.ref f_check_code)))
    (l_check_code : K.lookup f_check_code = some ⟨oc_check_code, od_check_code, .func (PySem.W.fnOf "check_code" "check_code" (defArgs s_check_code) (defBody s_check_code) (defScope s_check_code) .none kV_check_code dc_check_code pm_check_code an_check_code cd_check_code ct_check_code), sl_check_code⟩)
    (c_check_code : PySem.W.codeIn K cd_check_code "check_code" = true)
    (k_check_code : PySem.W.keepIn K (.ref f_check_code) = true)
    (a_check_width : PySem.W.nsIn K mainGlobals "check_width" = some (some (.ref f_check_width)))
    (l_check_width : K.lookup f_check_width = some ⟨oc_check_width, od_check_width, .func (PySem.W.fnOf "check_width" "check_width" (defArgs s_check_width) (defBody s_check_width) (defScope s_check_width) .none kV_check_width dc_check_width pm_check_width an_check_width cd_check_width ct_check_width), sl_check_width⟩)
    (c_check_width : PySem.W.codeIn K cd_check_width "check_width" = true)
    (k_check_width : PySem.W.keepIn K (.ref f_check_width) = true)
    (a_check_prefix : PySem.W.nsIn K mainGlobals "check_prefix" = some (some (.ref f_check_prefix)))
    (l_check_prefix : K.lookup f_check_prefix = some ⟨oc_check_prefix, od_check_prefix, .func (PySem.W.fnOf "check_prefix" "check_prefix" (defArgs s_check_prefix) (defBody s_check_prefix) (defScope s_check_prefix) .none kV_check_prefix dc_check_prefix pm_check_prefix an_check_prefix cd_check_prefix ct_check_prefix), sl_check_prefix⟩)
    (c_check_prefix : PySem.W.codeIn K cd_check_prefix "check_prefix" = true)
    (k_check_prefix : PySem.W.keepIn K (.ref f_check_prefix) = true)
    (a_sample : PySem.W.nsIn K mainGlobals "sample" = some (some (.ref f_sample)))
    (l_sample : K.lookup f_sample = some ⟨oc_sample, od_sample, .func (PySem.W.fnOf "sample" "sample" (defArgs s_sample) (defBody s_sample) (defScope s_sample) .none kV_sample dc_sample pm_sample an_sample cd_sample ct_sample), sl_sample⟩)
    (c_sample : PySem.W.codeIn K cd_sample "sample" = true)
    (k_sample : PySem.W.keepIn K (.ref f_sample) = true)
    (a_possible_or_beside : PySem.W.nsIn K mainGlobals "possible_or_beside" = some (some (.ref f_possible_or_beside)))
    (l_possible_or_beside : K.lookup f_possible_or_beside = some ⟨oc_possible_or_beside, od_possible_or_beside, .func (PySem.W.fnOf "possible_or_beside" "possible_or_beside" (defArgs s_possible_or_beside) (defBody s_possible_or_beside) (defScope s_possible_or_beside) .none kV_possible_or_beside dc_possible_or_beside pm_possible_or_beside an_possible_or_beside cd_possible_or_beside ct_possible_or_beside), sl_possible_or_beside⟩)
    (c_possible_or_beside : PySem.W.codeIn K cd_possible_or_beside "possible_or_beside" = true)
    (k_possible_or_beside : PySem.W.keepIn K (.ref f_possible_or_beside) = true)
    (a_bits_at : PySem.W.nsIn K mainGlobals "bits_at" = some (some (.ref f_bits_at)))
    (l_bits_at : K.lookup f_bits_at = some ⟨oc_bits_at, od_bits_at, .func (PySem.W.fnOf "bits_at" "bits_at" (defArgs s_bits_at) (defBody s_bits_at) (defScope s_bits_at) .none kV_bits_at dc_bits_at pm_bits_at an_bits_at cd_bits_at ct_bits_at), sl_bits_at⟩)
    (c_bits_at : PySem.W.codeIn K cd_bits_at "bits_at" = true)
    (k_bits_at : PySem.W.keepIn K (.ref f_bits_at) = true)
    (a_first_bits : PySem.W.nsIn K mainGlobals "first_bits" = some (some (.ref f_first_bits)))
    (l_first_bits : K.lookup f_first_bits = some ⟨oc_first_bits, od_first_bits, .func (PySem.W.fnOf "first_bits" "first_bits" (defArgs s_first_bits) (defBody s_first_bits) (defScope s_first_bits) .none kV_first_bits dc_first_bits pm_first_bits an_first_bits cd_first_bits ct_first_bits), sl_first_bits⟩)
    (c_first_bits : PySem.W.codeIn K cd_first_bits "first_bits" = true)
    (k_first_bits : PySem.W.keepIn K (.ref f_first_bits) = true)
    (a_first_possible : PySem.W.nsIn K mainGlobals "first_possible" = some (some (.ref f_first_possible)))
    (l_first_possible : K.lookup f_first_possible = some ⟨oc_first_possible, od_first_possible, .func (PySem.W.fnOf "first_possible" "first_possible" (defArgs s_first_possible) (defBody s_first_possible) (defScope s_first_possible) .none kV_first_possible dc_first_possible pm_first_possible an_first_possible cd_first_possible ct_first_possible), sl_first_possible⟩)
    (c_first_possible : PySem.W.codeIn K cd_first_possible "first_possible" = true)
    (k_first_possible : PySem.W.keepIn K (.ref f_first_possible) = true)
    (a_last_bits : PySem.W.nsIn K mainGlobals "last_bits" = some (some (.ref f_last_bits)))
    (l_last_bits : K.lookup f_last_bits = some ⟨oc_last_bits, od_last_bits, .func (PySem.W.fnOf "last_bits" "last_bits" (defArgs s_last_bits) (defBody s_last_bits) (defScope s_last_bits) .none kV_last_bits dc_last_bits pm_last_bits an_last_bits cd_last_bits ct_last_bits), sl_last_bits⟩)
    (c_last_bits : PySem.W.codeIn K cd_last_bits "last_bits" = true)
    (k_last_bits : PySem.W.keepIn K (.ref f_last_bits) = true)
    (a_count_possible : PySem.W.nsIn K mainGlobals "count_possible" = some (some (.ref f_count_possible)))
    (l_count_possible : K.lookup f_count_possible = some ⟨oc_count_possible, od_count_possible, .func (PySem.W.fnOf "count_possible" "count_possible" (defArgs s_count_possible) (defBody s_count_possible) (defScope s_count_possible) .none kV_count_possible dc_count_possible pm_count_possible an_count_possible cd_count_possible ct_count_possible), sl_count_possible⟩)
    (c_count_possible : PySem.W.codeIn K cd_count_possible "count_possible" = true)
    (k_count_possible : PySem.W.keepIn K (.ref f_count_possible) = true)
    (a_marked : PySem.W.nsIn K mainGlobals "marked" = some (some (.ref f_marked)))
    (l_marked : K.lookup f_marked = some ⟨oc_marked, od_marked, .func (PySem.W.fnOf "marked" "marked" (defArgs s_marked) (defBody s_marked) (defScope s_marked) .none kV_marked dc_marked pm_marked an_marked cd_marked ct_marked), sl_marked⟩)
    (c_marked : PySem.W.codeIn K cd_marked "marked" = true)
    (k_marked : PySem.W.keepIn K (.ref f_marked) = true)
    (a_known_prefix : PySem.W.nsIn K mainGlobals "known_prefix" = some (some (.ref f_known_prefix)))
    (l_known_prefix : K.lookup f_known_prefix = some ⟨oc_known_prefix, od_known_prefix, .func (PySem.W.fnOf "known_prefix" "known_prefix" (defArgs s_known_prefix) (defBody s_known_prefix) (defScope s_known_prefix) .none kV_known_prefix dc_known_prefix pm_known_prefix an_known_prefix cd_known_prefix ct_known_prefix), sl_known_prefix⟩)
    (c_known_prefix : PySem.W.codeIn K cd_known_prefix "known_prefix" = true)
    (k_known_prefix : PySem.W.keepIn K (.ref f_known_prefix) = true)
    (a_known : PySem.W.nsIn K mainGlobals "known" = some (some (.ref f_known)))
    (l_known : K.lookup f_known = some ⟨oc_known, od_known, .func (PySem.W.fnOf "known" "known" (defArgs s_known) (defBody s_known) (defScope s_known) .none kV_known dc_known pm_known an_known cd_known ct_known), sl_known⟩)
    (c_known : PySem.W.codeIn K cd_known "known" = true)
    (k_known : PySem.W.keepIn K (.ref f_known) = true)
    (a_law_ask : PySem.W.nsIn K mainGlobals "_law_ask" = some (some (.ref f_law_ask)))
    (l_law_ask : K.lookup f_law_ask = some ⟨oc_law_ask, od_law_ask, .func (PySem.W.fnOf "_law_ask" "_law_ask" (defArgs s_law_ask) (defBody s_law_ask) (defScope s_law_ask) .none kV_law_ask dc_law_ask pm_law_ask an_law_ask cd_law_ask ct_law_ask), sl_law_ask⟩)
    (c_law_ask : PySem.W.codeIn K cd_law_ask "_law_ask" = true)
    (k_law_ask : PySem.W.keepIn K (.ref f_law_ask) = true)
    (a_law_refusal : PySem.W.nsIn K mainGlobals "_law_refusal" = some (some (.ref f_law_refusal)))
    (l_law_refusal : K.lookup f_law_refusal = some ⟨oc_law_refusal, od_law_refusal, .func (PySem.W.fnOf "_law_refusal" "_law_refusal" (defArgs s_law_refusal) (defBody s_law_refusal) (defScope s_law_refusal) .none kV_law_refusal dc_law_refusal pm_law_refusal an_law_refusal cd_law_refusal ct_law_refusal), sl_law_refusal⟩)
    (c_law_refusal : PySem.W.codeIn K cd_law_refusal "_law_refusal" = true)
    (k_law_refusal : PySem.W.keepIn K (.ref f_law_refusal) = true)
    (a_law_draw : PySem.W.nsIn K mainGlobals "_law_draw" = some (some (.ref f_law_draw)))
    (l_law_draw : K.lookup f_law_draw = some ⟨oc_law_draw, od_law_draw, .func (PySem.W.fnOf "_law_draw" "_law_draw" (defArgs s_law_draw) (defBody s_law_draw) (defScope s_law_draw) .none kV_law_draw dc_law_draw pm_law_draw an_law_draw cd_law_draw ct_law_draw), sl_law_draw⟩)
    (c_law_draw : PySem.W.codeIn K cd_law_draw "_law_draw" = true)
    (k_law_draw : PySem.W.keepIn K (.ref f_law_draw) = true)
    (a_law_bits : PySem.W.nsIn K mainGlobals "_law_bits" = some (some (.ref f_law_bits)))
    (l_law_bits : K.lookup f_law_bits = some ⟨oc_law_bits, od_law_bits, .func (PySem.W.fnOf "_law_bits" "_law_bits" (defArgs s_law_bits) (defBody s_law_bits) (defScope s_law_bits) .none kV_law_bits dc_law_bits pm_law_bits an_law_bits cd_law_bits ct_law_bits), sl_law_bits⟩)
    (c_law_bits : PySem.W.codeIn K cd_law_bits "_law_bits" = true)
    (k_law_bits : PySem.W.keepIn K (.ref f_law_bits) = true)
    (a_law_cell : PySem.W.nsIn K mainGlobals "_law_cell" = some (some (.ref f_law_cell)))
    (l_law_cell : K.lookup f_law_cell = some ⟨oc_law_cell, od_law_cell, .func (PySem.W.fnOf "_law_cell" "_law_cell" (defArgs s_law_cell) (defBody s_law_cell) (defScope s_law_cell) .none kV_law_cell dc_law_cell pm_law_cell an_law_cell cd_law_cell ct_law_cell), sl_law_cell⟩)
    (c_law_cell : PySem.W.codeIn K cd_law_cell "_law_cell" = true)
    (k_law_cell : PySem.W.keepIn K (.ref f_law_cell) = true)
    (a_law_digits : PySem.W.nsIn K mainGlobals "_law_digits" = some (some (.ref f_law_digits)))
    (l_law_digits : K.lookup f_law_digits = some ⟨oc_law_digits, od_law_digits, .func (PySem.W.fnOf "_law_digits" "_law_digits" (defArgs s_law_digits) (defBody s_law_digits) (defScope s_law_digits) .none kV_law_digits dc_law_digits pm_law_digits an_law_digits cd_law_digits ct_law_digits), sl_law_digits⟩)
    (c_law_digits : PySem.W.codeIn K cd_law_digits "_law_digits" = true)
    (k_law_digits : PySem.W.keepIn K (.ref f_law_digits) = true)
    (a_law : PySem.W.nsIn K mainGlobals "law" = some (some (.ref f_law)))
    (l_law : K.lookup f_law = some ⟨oc_law, od_law, .func (PySem.W.fnOf "law" "law" (defArgs s_law) (defBody s_law) (defScope s_law) .none kV_law dc_law pm_law an_law cd_law ct_law), sl_law⟩)
    (c_law : PySem.W.codeIn K cd_law "law" = true)
    (k_law : PySem.W.keepIn K (.ref f_law) = true)
    (n_ValueError : PySem.W.nsIn K mainGlobals "ValueError" = some none)
    (n_int : PySem.W.nsIn K mainGlobals "int" = some none)
    (n_isinstance : PySem.W.nsIn K mainGlobals "isinstance" = some none)
    (n_len : PySem.W.nsIn K mainGlobals "len" = some none)
    (n_range : PySem.W.nsIn K mainGlobals "range" = some none)
    (n_str : PySem.W.nsIn K mainGlobals "str" = some none)
    (c_BITS_MOST : PySem.W.nsIn K mainGlobals "BITS_MOST" = some (some (.int 256 t_BITS_MOST)))
    (c_CODE_MOST : PySem.W.nsIn K mainGlobals "CODE_MOST" = some (some (.int 400 t_CODE_MOST)))
    (c_CONTEXTS : PySem.W.nsIn K mainGlobals "CONTEXTS" = some (some (.int 16 t_CONTEXTS)))
    (c_WIDTH_MOST : PySem.W.nsIn K mainGlobals "WIDTH_MOST" = some (some (.int 16 t_WIDTH_MOST))) :
    ∃ fd : FuncData, (∀ (s : Shared) (v : Value), BindsTo s fd ⟨[v], []⟩ [("script", v)]) ∧ ∀ base : Heap, K.In base → base.Ns mainGlobals mg → FnOk l.prog w K mg base CX0 13 fa fd ["script"] (spLaw K) := by
  have e := hfa.symm.trans (PySem.W.mg_of X G a_law)
  cases e
  have F_first_with_one := fun_mk (st := s_first_with_one) l_first_with_one c_first_with_one k_first_with_one
  have F_last_with_zero := fun_mk (st := s_last_with_zero) l_last_with_zero c_last_with_zero k_last_with_zero
  have F_sample_of := fun_mk (st := s_sample_of) l_sample_of c_sample_of k_sample_of
  have F_digits_of := fun_mk (st := s_digits_of) l_digits_of c_digits_of k_digits_of
  have F_shortest_cell := fun_mk (st := s_shortest_cell) l_shortest_cell c_shortest_cell k_shortest_cell
  have F_Coding_interval := fun_mk (st := s_Coding_interval) l_Coding_interval c_Coding_interval k_Coding_interval
  have F_context := fun_mk (st := s_context) l_context c_context k_context
  have F_Coding_take := fun_mk (st := s_Coding_take) l_Coding_take c_Coding_take k_Coding_take
  have F_Coding___init__ := fun_mk (st := s_Coding___init__) l_Coding___init__ c_Coding___init__ k_Coding___init__
  have F_coding_of := fun_mk (st := s_coding_of) l_coding_of c_coding_of k_coding_of
  have F_interval := fun_mk (st := s_interval) l_interval c_interval k_interval
  have F_code_of := fun_mk (st := s_code_of) l_code_of c_code_of k_code_of
  have F_opens := fun_mk (st := s_opens) l_opens c_opens k_opens
  have F_next_bits := fun_mk (st := s_next_bits) l_next_bits c_next_bits k_next_bits
  have F_Coding_shares := fun_mk (st := s_Coding_shares) l_Coding_shares c_Coding_shares k_Coding_shares
  have F_Coding_border := fun_mk (st := s_Coding_border) l_Coding_border c_Coding_border k_Coding_border
  have F_bit_of_cell := fun_mk (st := s_bit_of_cell) l_bit_of_cell c_bit_of_cell k_bit_of_cell
  have F_number_of := fun_mk (st := s_number_of) l_number_of c_number_of k_number_of
  have F_prefix_of := fun_mk (st := s_prefix_of) l_prefix_of c_prefix_of k_prefix_of
  have F_check_range := fun_mk (st := s_check_range) l_check_range c_check_range k_check_range
  have F_check_code := fun_mk (st := s_check_code) l_check_code c_check_code k_check_code
  have F_check_width := fun_mk (st := s_check_width) l_check_width c_check_width k_check_width
  have F_check_prefix := fun_mk (st := s_check_prefix) l_check_prefix c_check_prefix k_check_prefix
  have F_sample := fun_mk (st := s_sample) l_sample c_sample k_sample
  have F_possible_or_beside := fun_mk (st := s_possible_or_beside) l_possible_or_beside c_possible_or_beside k_possible_or_beside
  have F_bits_at := fun_mk (st := s_bits_at) l_bits_at c_bits_at k_bits_at
  have F_first_bits := fun_mk (st := s_first_bits) l_first_bits c_first_bits k_first_bits
  have F_first_possible := fun_mk (st := s_first_possible) l_first_possible c_first_possible k_first_possible
  have F_last_bits := fun_mk (st := s_last_bits) l_last_bits c_last_bits k_last_bits
  have F_count_possible := fun_mk (st := s_count_possible) l_count_possible c_count_possible k_count_possible
  have F_marked := fun_mk (st := s_marked) l_marked c_marked k_marked
  have F_known_prefix := fun_mk (st := s_known_prefix) l_known_prefix c_known_prefix k_known_prefix
  have F_known := fun_mk (st := s_known) l_known c_known k_known
  have F_law_ask := fun_mk (st := s_law_ask) l_law_ask c_law_ask k_law_ask
  have F_law_refusal := fun_mk (st := s_law_refusal) l_law_refusal c_law_refusal k_law_refusal
  have F_law_draw := fun_mk (st := s_law_draw) l_law_draw c_law_draw k_law_draw
  have F_law_bits := fun_mk (st := s_law_bits) l_law_bits c_law_bits k_law_bits
  have F_law_cell := fun_mk (st := s_law_cell) l_law_cell c_law_cell k_law_cell
  have F_law_digits := fun_mk (st := s_law_digits) l_law_digits c_law_digits k_law_digits
  have F_law := fun_mk (st := s_law) l_law c_law k_law
  exact ⟨PySem.W.fnOf "law" "law" (defArgs s_law) (defBody s_law) (defScope s_law) .none kV_law dc_law pm_law an_law cd_law ct_law, fun s v => .of_eq rfl, fun base _ _ => ok_law (mg := mg) {
    a_Coding := C_Coding,
    cl_Coding := ⟨pg_Coding, hd_Coding, po_Coding, sa_Coding⟩,
    g_Coding := PySem.W.mg_of X G g_Coding,
    mk_Coding := mk_Coding,
    kp_Coding := kc_Coding,
    na_Coding_bits := na_Coding_bits,
    na_Coding__width := na_Coding__width,
    na_Coding__low := na_Coding__low,
    na_Coding__size := na_Coding__size,
    na_Coding__whole := na_Coding__whole,
    na_Coding__zeros := na_Coding__zeros,
    na_Coding__ones := na_Coding__ones,
    x_OutOfRange := ⟨C_OutOfRange, f_OutOfRange, _, PySem.W.mg_of X G g_OutOfRange, ⟨⟨nm_OutOfRange, q_OutOfRange, N_OutOfRange, bs_OutOfRange, bm_OutOfRange, sn_OutOfRange, sub_OutOfRange, ab_OutOfRange, col_OutOfRange, dd_OutOfRange, k0_OutOfRange, k1_OutOfRange, k2_OutOfRange, k3_OutOfRange, k5_OutOfRange, lC_OutOfRange, rv_OutOfRange⟩, sa_OutOfRange, bb_OutOfRange, ty_OutOfRange, kC_OutOfRange⟩,
      ⟨⟨_, _, _, _, _, _, _, _, _, _, rfl, lf_OutOfRange, cf_OutOfRange, ⟨_, _, _, _, _, _, lcd_OutOfRange, vs2_OutOfRange, fil_OutOfRange⟩, _, _, _, lcc_OutOfRange⟩, topS, PySem.W.mg_none_of X G nsS, su_OutOfRange, opS, sup_OutOfRange, isV_OutOfRange⟩, iC_OutOfRange, tI_OutOfRange, Binds.all fun us hl => (match us, hl with | [_, _], _ => rfl),
      ⟨ga_OutOfRange, gg_OutOfRange, bb_OutOfRange, hd_OutOfRange⟩, ⟨by unfold PySem.W.clsIn; rw [lC_OutOfRange] <;> rfl, ga_OutOfRange, gg_OutOfRange, bb_OutOfRange, ca_OutOfRange, spS, tkS, ob_OutOfRange⟩, PySem.W.exm_ref bb_OutOfRange hd_OutOfRange ty_OutOfRange ss_OutOfRange⟩,
    y_Contradiction := ⟨C_Contradiction, PySem.W.mg_of X G g_Contradiction, kC_Contradiction, ex_Contradiction, bb_Contradiction, ty_Contradiction, PySem.W.exm_ref bb_Contradiction hd_Contradiction ty_Contradiction ss_Contradiction⟩,
    y_OtherKind := ⟨C_OtherKind, PySem.W.mg_of X G g_OtherKind, kC_OtherKind, ex_OtherKind, bb_OtherKind, ty_OtherKind, PySem.W.exm_ref bb_OtherKind hd_OtherKind ty_OtherKind ss_OtherKind⟩,
    y_PictureError := ⟨C_PictureError, PySem.W.mg_of X G g_PictureError, kC_PictureError, ex_PictureError, bb_PictureError, ty_PictureError, PySem.W.exm_ref bb_PictureError hd_PictureError ty_PictureError ss_PictureError⟩,
    nf_OutOfRange_name := nf_OutOfRange_name,
    em_OutOfRange_PictureError := PySem.W.exm_ref bb_PictureError hd_PictureError ty_PictureError em_OutOfRange_PictureError,
    ki_OutOfRange_Contradiction := ki_OutOfRange_Contradiction,
    ki_OutOfRange_OtherKind := ki_OutOfRange_OtherKind,
    ki_OutOfRange_OutOfRange := ki_OutOfRange_OutOfRange,
    ki_OutOfRange_ValueError := ki_OutOfRange_ValueError,
    first_with_one := ⟨_, _, F_first_with_one, PySem.W.mg_of X G a_first_with_one, F_first_with_one.binds fun _ _ _ _ _ _ us hl => match us, hl with | [_, _], _ => rfl⟩,
    last_with_zero := ⟨_, _, F_last_with_zero, PySem.W.mg_of X G a_last_with_zero, F_last_with_zero.binds fun _ _ _ _ _ _ us hl => match us, hl with | [_, _], _ => rfl⟩,
    sample_of := ⟨_, _, F_sample_of, PySem.W.mg_of X G a_sample_of, F_sample_of.binds fun _ _ _ _ _ _ us hl => match us, hl with | [_, _, _, _], _ => rfl⟩,
    digits_of := ⟨_, _, F_digits_of, PySem.W.mg_of X G a_digits_of, F_digits_of.binds fun _ _ _ _ _ _ us hl => match us, hl with | [_, _], _ => rfl⟩,
    shortest_cell := ⟨_, _, F_shortest_cell, PySem.W.mg_of X G a_shortest_cell, F_shortest_cell.binds fun _ _ _ _ _ _ us hl => match us, hl with | [_, _, _], _ => rfl⟩,
    Coding_interval := ⟨_, _, F_Coding_interval, F_Coding_interval.binds fun _ _ _ _ _ _ us hl => match us, hl with | [_], _ => rfl, ⟨a_Coding_interval, i_Coding_interval, k_Coding_interval⟩⟩,
    context := ⟨_, _, F_context, PySem.W.mg_of X G a_context, F_context.binds fun _ _ _ _ _ _ us hl => match us, hl with | [_, _, _], _ => rfl⟩,
    Coding_take := ⟨_, _, F_Coding_take, F_Coding_take.binds fun _ _ _ _ _ _ us hl => match us, hl with | [_, _], _ => rfl, ⟨a_Coding_take, i_Coding_take, k_Coding_take⟩⟩,
    Coding___init__ := ⟨_, _, F_Coding___init__, F_Coding___init__.binds fun _ _ _ _ _ _ us hl => match us, hl with | [_, _], _ => rfl, ⟨a_Coding___init__, i_Coding___init__, k_Coding___init__⟩⟩,
    coding_of := ⟨_, _, F_coding_of, PySem.W.mg_of X G a_coding_of, F_coding_of.binds fun _ _ _ _ _ _ us hl => match us, hl with | [_, _], _ => rfl⟩,
    interval := ⟨_, _, F_interval, PySem.W.mg_of X G a_interval, F_interval.binds fun _ _ _ _ _ _ us hl => match us, hl with | [_, _], _ => rfl⟩,
    code_of := ⟨_, _, F_code_of, PySem.W.mg_of X G a_code_of, F_code_of.binds fun _ _ _ _ _ _ us hl => match us, hl with | [_, _], _ => rfl⟩,
    opens := ⟨_, _, F_opens, PySem.W.mg_of X G a_opens, F_opens.binds fun _ _ _ _ _ _ us hl => match us, hl with | [_, _, _], _ => rfl⟩,
    next_bits := ⟨_, _, F_next_bits, PySem.W.mg_of X G a_next_bits, F_next_bits.binds fun _ _ _ _ _ _ us hl => match us, hl with | [_, _, _, _], _ => rfl⟩,
    Coding_shares := ⟨_, _, F_Coding_shares, F_Coding_shares.binds fun _ _ _ _ _ _ us hl => match us, hl with | [_], _ => rfl, ⟨a_Coding_shares, i_Coding_shares, k_Coding_shares⟩⟩,
    Coding_border := ⟨_, _, F_Coding_border, F_Coding_border.binds fun _ _ _ _ _ _ us hl => match us, hl with | [_], _ => rfl, ⟨a_Coding_border, i_Coding_border, k_Coding_border⟩⟩,
    bit_of_cell := ⟨_, _, F_bit_of_cell, PySem.W.mg_of X G a_bit_of_cell, F_bit_of_cell.binds fun _ _ _ _ _ _ us hl => match us, hl with | [_, _, _], _ => rfl⟩,
    number_of := ⟨_, _, F_number_of, PySem.W.mg_of X G a_number_of, F_number_of.binds fun _ _ _ _ _ _ us hl => match us, hl with | [_], _ => rfl⟩,
    prefix_of := ⟨_, _, F_prefix_of, PySem.W.mg_of X G a_prefix_of, F_prefix_of.binds fun _ _ _ _ _ _ us hl => match us, hl with | [_, _, _], _ => rfl⟩,
    check_range := ⟨_, _, F_check_range, PySem.W.mg_of X G a_check_range, F_check_range.binds fun _ _ _ _ _ _ us hl => match us, hl with | [_, _, _, _], _ => rfl⟩,
    check_code := ⟨_, _, F_check_code, PySem.W.mg_of X G a_check_code, F_check_code.binds fun _ _ _ _ _ _ us hl => match us, hl with | [_], _ => rfl⟩,
    check_width := ⟨_, _, F_check_width, PySem.W.mg_of X G a_check_width, F_check_width.binds fun _ _ _ _ _ _ us hl => match us, hl with | [_], _ => rfl⟩,
    check_prefix := ⟨_, _, F_check_prefix, PySem.W.mg_of X G a_check_prefix, F_check_prefix.binds fun _ _ _ _ _ _ us hl => match us, hl with | [_, _, _], _ => rfl⟩,
    sample := ⟨_, _, F_sample, PySem.W.mg_of X G a_sample, F_sample.binds fun _ _ _ _ _ _ us hl => match us, hl with | [_, _, _, _, _], _ => rfl⟩,
    possible_or_beside := ⟨_, _, F_possible_or_beside, PySem.W.mg_of X G a_possible_or_beside, F_possible_or_beside.binds fun _ _ _ _ _ _ us hl => match us, hl with | [_, _, _, _], _ => rfl⟩,
    bits_at := ⟨_, _, F_bits_at, PySem.W.mg_of X G a_bits_at, F_bits_at.binds fun _ _ _ _ _ _ us hl => match us, hl with | [_, _, _, _], _ => rfl⟩,
    first_bits := ⟨_, _, F_first_bits, PySem.W.mg_of X G a_first_bits, F_first_bits.binds fun _ _ _ _ _ _ us hl => match us, hl with | [_, _, _], _ => rfl⟩,
    first_possible := ⟨_, _, F_first_possible, PySem.W.mg_of X G a_first_possible, F_first_possible.binds fun _ _ _ _ _ _ us hl => match us, hl with | [_, _, _], _ => rfl⟩,
    last_bits := ⟨_, _, F_last_bits, PySem.W.mg_of X G a_last_bits, F_last_bits.binds fun _ _ _ _ _ _ us hl => match us, hl with | [_, _, _], _ => rfl⟩,
    count_possible := ⟨_, _, F_count_possible, PySem.W.mg_of X G a_count_possible, F_count_possible.binds fun _ _ _ _ _ _ us hl => match us, hl with | [_, _, _], _ => rfl⟩,
    marked := ⟨_, _, F_marked, PySem.W.mg_of X G a_marked, F_marked.binds fun _ _ _ _ _ _ us hl => match us, hl with | [_, _], _ => rfl⟩,
    known_prefix := ⟨_, _, F_known_prefix, PySem.W.mg_of X G a_known_prefix, F_known_prefix.binds fun _ _ _ _ _ _ us hl => match us, hl with | [_, _, _], _ => rfl⟩,
    known := ⟨_, _, F_known, PySem.W.mg_of X G a_known, F_known.binds fun _ _ _ _ _ _ us hl => match us, hl with | [_, _, _], _ => rfl⟩,
    law_ask := ⟨_, _, F_law_ask, PySem.W.mg_of X G a_law_ask, F_law_ask.binds fun _ _ _ _ _ _ us hl => match us, hl with | [_, _, _, _, _, _], _ => rfl⟩,
    law_refusal := ⟨_, _, F_law_refusal, PySem.W.mg_of X G a_law_refusal, F_law_refusal.binds fun _ _ _ _ _ _ us hl => match us, hl with | [_, _, _, _, _, _], _ => rfl⟩,
    law_draw := ⟨_, _, F_law_draw, PySem.W.mg_of X G a_law_draw, F_law_draw.binds fun _ _ _ _ _ _ us hl => match us, hl with | [_, _], _ => rfl⟩,
    law_bits := ⟨_, _, F_law_bits, PySem.W.mg_of X G a_law_bits, F_law_bits.binds fun _ _ _ _ _ _ us hl => match us, hl with | [_, _], _ => rfl⟩,
    law_cell := ⟨_, _, F_law_cell, PySem.W.mg_of X G a_law_cell, F_law_cell.binds fun _ _ _ _ _ _ us hl => match us, hl with | [_, _], _ => rfl⟩,
    law_digits := ⟨_, _, F_law_digits, PySem.W.mg_of X G a_law_digits, F_law_digits.binds fun _ _ _ _ _ _ us hl => match us, hl with | [_, _, _], _ => rfl⟩,
    law := ⟨_, _, F_law, PySem.W.mg_of X G a_law, F_law.binds fun _ _ _ _ _ _ us hl => match us, hl with | [_], _ => rfl⟩,
    n_ValueError := PySem.W.mg_none_of X G n_ValueError,
    n_int := PySem.W.mg_none_of X G n_int,
    n_isinstance := PySem.W.mg_none_of X G n_isinstance,
    n_len := PySem.W.mg_none_of X G n_len,
    n_range := PySem.W.mg_none_of X G n_range,
    n_str := PySem.W.mg_none_of X G n_str,
    t_BITS_MOST := t_BITS_MOST,
    c_BITS_MOST := PySem.W.mg_of X G c_BITS_MOST,
    t_CODE_MOST := t_CODE_MOST,
    c_CODE_MOST := PySem.W.mg_of X G c_CODE_MOST,
    t_CONTEXTS := t_CONTEXTS,
    c_CONTEXTS := PySem.W.mg_of X G c_CONTEXTS,
    t_WIDTH_MOST := t_WIDTH_MOST,
    c_WIDTH_MOST := PySem.W.mg_of X G c_WIDTH_MOST }⟩
theorem walk {l : PySem.W.OpenLaw} {q : Program} {loose : List Str} {XP : (Str → Option Value) → Heap → Prop} {YP : World → Heap → Prop} {d : DefRec} {K : Params → PySem.W.Frag} (hn : l.most = some 63) (hdf : d.params.defaults = [])
    (hY : ∀ (w : World) (h : Heap), YP w h → (K w.params).In h)
    (F : ∀ (w : World) (mg : Str → Option Value) (fa : Addr) (h : Heap), (K w.params).In h → h.Ns mainGlobals mg → mg d.name = some (.ref fa) →
      ∃ fd : FuncData, (∀ (s : Shared) (u : Value), BindsTo s fd ⟨[u], []⟩ [("script", u)]) ∧ ∀ base : Heap, (K w.params).In base → base.Ns mainGlobals mg → FnOk l.prog w (K w.params) mg base CX0 13 fa fd ["script"] (spLaw (K w.params))) :
    PySem.W.WalkO q loose XP YP l.row.toRowW d [] (fun f vs => PySem.call f vs) :=
  L2.walk_ofB (n := 63) (k := 13) (x := "script") (CX := fun _ => CX0) (sp := fun w => spLaw (K w.params)) hn (by decide) hdf ⟨rfl, by decide, by decide⟩ hY F (fun _ _ a ns hl hb _ hS => ⟨a, ns, rfl, hS, hl, hb, fun _ => rfl⟩) fun _ _ _ _ _ z => z
end My
open PySem PySem.W PyProof.Rows
set_option maxRecDepth 100000 in
set_option maxHeartbeats 0 in
theorem PySem.Challenge.cw_packetpicture_k24_bounds_of_the_coder_holds : PySem.Challenge.rw_packetpicture_k24_bounds_of_the_coder.Holds := by
  w_on; o_law; k_head; (case hw => w_witness2)
  k_fill
  refine My.walk (l := PySem.Challenge.rw_packetpicture_k24_bounds_of_the_coder) rfl rfl (fun w h Y => PySem.W.kIn_of Y) ?F
  case F =>
    intro w mg fa h KX G hmg
    refine' My.all_mk KX G hmg ?g_Coding ?pg_Coding ?hd_Coding ?po_Coding ?sa_Coding ?mk_Coding ?kc_Coding ?na_Coding_bits ?na_Coding__width ?na_Coding__low ?na_Coding__size ?na_Coding__whole ?na_Coding__zeros ?na_Coding__ones ?topS ?nsS ?opS ?spS ?tkS ?g_OutOfRange ?lC_OutOfRange ?rv_OutOfRange ?sa_OutOfRange ?bb_OutOfRange ?ty_OutOfRange ?kC_OutOfRange ?iC_OutOfRange ?tI_OutOfRange ?lf_OutOfRange ?cf_OutOfRange ?lcd_OutOfRange ?vs2_OutOfRange ?fil_OutOfRange ?lcc_OutOfRange ?su_OutOfRange ?sup_OutOfRange ?isV_OutOfRange ?ga_OutOfRange ?gg_OutOfRange ?ca_OutOfRange ?ob_OutOfRange ?hd_OutOfRange ?ss_OutOfRange ?g_Contradiction ?kC_Contradiction ?ex_Contradiction ?bb_Contradiction ?ty_Contradiction ?hd_Contradiction ?ss_Contradiction ?g_OtherKind ?kC_OtherKind ?ex_OtherKind ?bb_OtherKind ?ty_OtherKind ?hd_OtherKind ?ss_OtherKind ?g_PictureError ?kC_PictureError ?ex_PictureError ?bb_PictureError ?ty_PictureError ?hd_PictureError ?ss_PictureError ?nf_OutOfRange_name ?em_OutOfRange_PictureError ?ki_OutOfRange_Contradiction ?ki_OutOfRange_OtherKind ?ki_OutOfRange_OutOfRange ?ki_OutOfRange_ValueError ?a_first_with_one ?l_first_with_one ?c_first_with_one ?k_first_with_one ?a_last_with_zero ?l_last_with_zero ?c_last_with_zero ?k_last_with_zero ?a_sample_of ?l_sample_of ?c_sample_of ?k_sample_of ?a_digits_of ?l_digits_of ?c_digits_of ?k_digits_of ?a_shortest_cell ?l_shortest_cell ?c_shortest_cell ?k_shortest_cell ?a_Coding_interval ?i_Coding_interval ?l_Coding_interval ?c_Coding_interval ?k_Coding_interval ?a_context ?l_context ?c_context ?k_context ?a_Coding_take ?i_Coding_take ?l_Coding_take ?c_Coding_take ?k_Coding_take ?a_Coding___init__ ?i_Coding___init__ ?l_Coding___init__ ?c_Coding___init__ ?k_Coding___init__ ?a_coding_of ?l_coding_of ?c_coding_of ?k_coding_of ?a_interval ?l_interval ?c_interval ?k_interval ?a_code_of ?l_code_of ?c_code_of ?k_code_of ?a_opens ?l_opens ?c_opens ?k_opens ?a_next_bits ?l_next_bits ?c_next_bits ?k_next_bits ?a_Coding_shares ?i_Coding_shares ?l_Coding_shares ?c_Coding_shares ?k_Coding_shares ?a_Coding_border ?i_Coding_border ?l_Coding_border ?c_Coding_border ?k_Coding_border ?a_bit_of_cell ?l_bit_of_cell ?c_bit_of_cell ?k_bit_of_cell ?a_number_of ?l_number_of ?c_number_of ?k_number_of ?a_prefix_of ?l_prefix_of ?c_prefix_of ?k_prefix_of ?a_check_range ?l_check_range ?c_check_range ?k_check_range ?a_check_code ?l_check_code ?c_check_code ?k_check_code ?a_check_width ?l_check_width ?c_check_width ?k_check_width ?a_check_prefix ?l_check_prefix ?c_check_prefix ?k_check_prefix ?a_sample ?l_sample ?c_sample ?k_sample ?a_possible_or_beside ?l_possible_or_beside ?c_possible_or_beside ?k_possible_or_beside ?a_bits_at ?l_bits_at ?c_bits_at ?k_bits_at ?a_first_bits ?l_first_bits ?c_first_bits ?k_first_bits ?a_first_possible ?l_first_possible ?c_first_possible ?k_first_possible ?a_last_bits ?l_last_bits ?c_last_bits ?k_last_bits ?a_count_possible ?l_count_possible ?c_count_possible ?k_count_possible ?a_marked ?l_marked ?c_marked ?k_marked ?a_known_prefix ?l_known_prefix ?c_known_prefix ?k_known_prefix ?a_known ?l_known ?c_known ?k_known ?a_law_ask ?l_law_ask ?c_law_ask ?k_law_ask ?a_law_refusal ?l_law_refusal ?c_law_refusal ?k_law_refusal ?a_law_draw ?l_law_draw ?c_law_draw ?k_law_draw ?a_law_bits ?l_law_bits ?c_law_bits ?k_law_bits ?a_law_cell ?l_law_cell ?c_law_cell ?k_law_cell ?a_law_digits ?l_law_digits ?c_law_digits ?k_law_digits ?a_law ?l_law ?c_law ?k_law ?n_ValueError ?n_int ?n_isinstance ?n_len ?n_range ?n_str ?c_BITS_MOST ?c_CODE_MOST ?c_CONTEXTS ?c_WIDTH_MOST
    (case g_Coding => k_is)
    (case pg_Coding => k_is)
    (case hd_Coding => k_is)
    (case po_Coding => k_is)
    (case sa_Coding => k_is)
    (case mk_Coding => k_is)
    (case kc_Coding => k_is)
    (case na_Coding_bits => k_is)
    (case na_Coding__width => k_is)
    (case na_Coding__low => k_is)
    (case na_Coding__size => k_is)
    (case na_Coding__whole => k_is)
    (case na_Coding__zeros => k_is)
    (case na_Coding__ones => k_is)
    (case topS => first | rfl | decide +kernel)
    (case nsS => k_is)
    (case opS => k_is)
    (case spS => k_is)
    (case tkS => k_is)
    (case g_OutOfRange => k_is)
    (case lC_OutOfRange => k_is)
    (case rv_OutOfRange => first | rfl | decide +kernel)
    (case sa_OutOfRange => k_is)
    (case bb_OutOfRange => k_is)
    (case ty_OutOfRange => k_is)
    (case kC_OutOfRange => k_is)
    (case iC_OutOfRange => k_is)
    (case tI_OutOfRange => k_is)
    (case lf_OutOfRange => k_is)
    (case cf_OutOfRange => k_is)
    (case lcd_OutOfRange => k_is)
    (case vs2_OutOfRange => first | rfl | decide +kernel)
    (case fil_OutOfRange => first | rfl | decide +kernel)
    (case lcc_OutOfRange => k_is)
    (case su_OutOfRange => k_is)
    (case sup_OutOfRange => ks_is)
    (case isV_OutOfRange => k_is)
    (case ga_OutOfRange => k_is)
    (case gg_OutOfRange => k_is)
    (case ca_OutOfRange => k_is)
    (case ob_OutOfRange => k_is)
    (case hd_OutOfRange => k_is)
    (case ss_OutOfRange => first | rfl | k_is)
    (case g_Contradiction => k_is)
    (case kC_Contradiction => k_is)
    (case ex_Contradiction => k_exc)
    (case bb_Contradiction => k_is)
    (case ty_Contradiction => k_is)
    (case hd_Contradiction => k_is)
    (case ss_Contradiction => first | rfl | k_is)
    (case g_OtherKind => k_is)
    (case kC_OtherKind => k_is)
    (case ex_OtherKind => k_exc)
    (case bb_OtherKind => k_is)
    (case ty_OtherKind => k_is)
    (case hd_OtherKind => k_is)
    (case ss_OtherKind => first | rfl | k_is)
    (case g_PictureError => k_is)
    (case kC_PictureError => k_is)
    (case ex_PictureError => k_exc)
    (case bb_PictureError => k_is)
    (case ty_PictureError => k_is)
    (case hd_PictureError => k_is)
    (case ss_PictureError => first | rfl | k_is)
    (case nf_OutOfRange_name => k_is)
    (case em_OutOfRange_PictureError => k_is)
    (case ki_OutOfRange_Contradiction => kit_is)
    (case ki_OutOfRange_OtherKind => kit_is)
    (case ki_OutOfRange_OutOfRange => kit_is)
    (case ki_OutOfRange_ValueError => kit_is)
    (case a_first_with_one => k_is)
    (case l_first_with_one => k_is)
    (case c_first_with_one => k_is)
    (case k_first_with_one => k_is)
    (case a_last_with_zero => k_is)
    (case l_last_with_zero => k_is)
    (case c_last_with_zero => k_is)
    (case k_last_with_zero => k_is)
    (case a_sample_of => k_is)
    (case l_sample_of => k_is)
    (case c_sample_of => k_is)
    (case k_sample_of => k_is)
    (case a_digits_of => k_is)
    (case l_digits_of => k_is)
    (case c_digits_of => k_is)
    (case k_digits_of => k_is)
    (case a_shortest_cell => k_is)
    (case l_shortest_cell => k_is)
    (case c_shortest_cell => k_is)
    (case k_shortest_cell => k_is)
    (case a_Coding_interval => k_is)
    (case i_Coding_interval => k_is)
    (case l_Coding_interval => k_is)
    (case c_Coding_interval => k_is)
    (case k_Coding_interval => k_is)
    (case a_context => k_is)
    (case l_context => k_is)
    (case c_context => k_is)
    (case k_context => k_is)
    (case a_Coding_take => k_is)
    (case i_Coding_take => k_is)
    (case l_Coding_take => k_is)
    (case c_Coding_take => k_is)
    (case k_Coding_take => k_is)
    (case a_Coding___init__ => k_is)
    (case i_Coding___init__ => k_is)
    (case l_Coding___init__ => k_is)
    (case c_Coding___init__ => k_is)
    (case k_Coding___init__ => k_is)
    (case a_coding_of => k_is)
    (case l_coding_of => k_is)
    (case c_coding_of => k_is)
    (case k_coding_of => k_is)
    (case a_interval => k_is)
    (case l_interval => k_is)
    (case c_interval => k_is)
    (case k_interval => k_is)
    (case a_code_of => k_is)
    (case l_code_of => k_is)
    (case c_code_of => k_is)
    (case k_code_of => k_is)
    (case a_opens => k_is)
    (case l_opens => k_is)
    (case c_opens => k_is)
    (case k_opens => k_is)
    (case a_next_bits => k_is)
    (case l_next_bits => k_is)
    (case c_next_bits => k_is)
    (case k_next_bits => k_is)
    (case a_Coding_shares => k_is)
    (case i_Coding_shares => k_is)
    (case l_Coding_shares => k_is)
    (case c_Coding_shares => k_is)
    (case k_Coding_shares => k_is)
    (case a_Coding_border => k_is)
    (case i_Coding_border => k_is)
    (case l_Coding_border => k_is)
    (case c_Coding_border => k_is)
    (case k_Coding_border => k_is)
    (case a_bit_of_cell => k_is)
    (case l_bit_of_cell => k_is)
    (case c_bit_of_cell => k_is)
    (case k_bit_of_cell => k_is)
    (case a_number_of => k_is)
    (case l_number_of => k_is)
    (case c_number_of => k_is)
    (case k_number_of => k_is)
    (case a_prefix_of => k_is)
    (case l_prefix_of => k_is)
    (case c_prefix_of => k_is)
    (case k_prefix_of => k_is)
    (case a_check_range => k_is)
    (case l_check_range => k_is)
    (case c_check_range => k_is)
    (case k_check_range => k_is)
    (case a_check_code => k_is)
    (case l_check_code => k_is)
    (case c_check_code => k_is)
    (case k_check_code => k_is)
    (case a_check_width => k_is)
    (case l_check_width => k_is)
    (case c_check_width => k_is)
    (case k_check_width => k_is)
    (case a_check_prefix => k_is)
    (case l_check_prefix => k_is)
    (case c_check_prefix => k_is)
    (case k_check_prefix => k_is)
    (case a_sample => k_is)
    (case l_sample => k_is)
    (case c_sample => k_is)
    (case k_sample => k_is)
    (case a_possible_or_beside => k_is)
    (case l_possible_or_beside => k_is)
    (case c_possible_or_beside => k_is)
    (case k_possible_or_beside => k_is)
    (case a_bits_at => k_is)
    (case l_bits_at => k_is)
    (case c_bits_at => k_is)
    (case k_bits_at => k_is)
    (case a_first_bits => k_is)
    (case l_first_bits => k_is)
    (case c_first_bits => k_is)
    (case k_first_bits => k_is)
    (case a_first_possible => k_is)
    (case l_first_possible => k_is)
    (case c_first_possible => k_is)
    (case k_first_possible => k_is)
    (case a_last_bits => k_is)
    (case l_last_bits => k_is)
    (case c_last_bits => k_is)
    (case k_last_bits => k_is)
    (case a_count_possible => k_is)
    (case l_count_possible => k_is)
    (case c_count_possible => k_is)
    (case k_count_possible => k_is)
    (case a_marked => k_is)
    (case l_marked => k_is)
    (case c_marked => k_is)
    (case k_marked => k_is)
    (case a_known_prefix => k_is)
    (case l_known_prefix => k_is)
    (case c_known_prefix => k_is)
    (case k_known_prefix => k_is)
    (case a_known => k_is)
    (case l_known => k_is)
    (case c_known => k_is)
    (case k_known => k_is)
    (case a_law_ask => k_is)
    (case l_law_ask => k_is)
    (case c_law_ask => k_is)
    (case k_law_ask => k_is)
    (case a_law_refusal => k_is)
    (case l_law_refusal => k_is)
    (case c_law_refusal => k_is)
    (case k_law_refusal => k_is)
    (case a_law_draw => k_is)
    (case l_law_draw => k_is)
    (case c_law_draw => k_is)
    (case k_law_draw => k_is)
    (case a_law_bits => k_is)
    (case l_law_bits => k_is)
    (case c_law_bits => k_is)
    (case k_law_bits => k_is)
    (case a_law_cell => k_is)
    (case l_law_cell => k_is)
    (case c_law_cell => k_is)
    (case k_law_cell => k_is)
    (case a_law_digits => k_is)
    (case l_law_digits => k_is)
    (case c_law_digits => k_is)
    (case k_law_digits => k_is)
    (case a_law => k_is)
    (case l_law => k_is)
    (case c_law => k_is)
    (case k_law => k_is)
    (case n_ValueError => k_is)
    (case n_int => k_is)
    (case n_isinstance => k_is)
    (case n_len => k_is)
    (case n_range => k_is)
    (case n_str => k_is)
    (case c_BITS_MOST => k_is)
    (case c_CODE_MOST => k_is)
    (case c_CONTEXTS => k_is)
    (case c_WIDTH_MOST => k_is)
