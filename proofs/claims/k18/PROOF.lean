import PyProof.Rows.All
import Wide.All
import OpenK.AllK
import Wide.FinOn
import HandS.ForMost
import HandS.EndBits
import HandS.IsInst
import HandS.Conv
import HandS.RevRange
import HandS.Walk
import HandS.Wide
import HandS.Codes
import HandS.FStr
import HandS.IntHex
import HandS.WideBits
import KE.DataFind
import KE.IntTextLaws
import KE.KIntText
import PySem.Challenge.RW_packetpicture_k18_intervals_by_counts
set_option Elab.async false
set_option linter.all false
set_option maxRecDepth 100000
set_option maxHeartbeats 4000000
set_option exponentiation.threshold 4000
/-! Steps of a reading, one lemma a construct; `walk_at "go"` tries them one after another. -/
namespace Gx
open PySem L2
section
variable {K : PySem.W.Frag} {σ : L2.St} {H : Hp} {Q : VK} {D : Ends} {ta tb te to ti tv : TE} {t u : TT} {tr : TA} {tu tw : TS} {x y z v : V} {i j : Int} {B : Bool → Hp → Prop} {A1 A2 : Prop} {b : Bool}
/-- a test's answer; a branch -/
def TB (x : V) (H : Hp) (Q : Bool → Hp → Prop) : Prop := ∃ k, x = .bl k ∧ Q k H
def IfP (c : Bool) (A B : Prop) : Prop := if c = true then A else B
theorem tB_ (q : TB (.bl b) H B ) : TB (.bl b) H B := q
theorem tb_go (q : B b H) : TB (.bl b) H B := ⟨b, rfl, q⟩
theorem if_t (q : A1) : IfP true A1 A2 := by unfold IfP; rw [if_pos rfl]; exact q
theorem if_f (q : A2) : IfP false A1 A2 := by unfold IfP; rw [if_neg Bool.false_ne_true]; exact q
theorem if_nt (q : A2) : IfP (!true) A1 A2 := if_f q
theorem if_nf (q : A1) : IfP (!false) A1 A2 := if_t q
theorem if_y {c : Bool} (h : c = true) (q : A1) : IfP c A1 A2 := by subst h; exact if_t q
theorem if_n {c : Bool} (h : c = false) (q : A2) : IfP c A1 A2 := by subst h; exact if_f q
theorem if_b {c : Bool} (q1 : c = true → A1) (q2 : c = false → A2) : IfP c A1 A2 := by
  cases c with
  | true => exact if_t (q1 rfl)
  | false => exact if_f (q2 rfl)
theorem if_d {p : Prop} [Decidable p] (q1 : p → A1) (q2 : ¬ p → A2) : IfP (decide p) A1 A2 := if_b (fun h => q1 (of_decide_eq_true h)) (fun h => q2 (of_decide_eq_false h))
theorem if_dn {p : Prop} [Decidable p] (q1 : ¬ p → A1) (q2 : p → A2) : IfP (!decide p) A1 A2 := by
  by_cases h : p
  · rw [decide_eq_true h]; exact if_f (q2 h)
  · rw [decide_eq_false h]; exact if_t (q1 h)
theorem if_andc {c d : Bool} {X : Prop} {B : Bool → Hp → Prop} {H : Hp} (h : B d H → X) (q : B (c && d) H) : IfP c X (B false H) := by
  cases c with
  | true => exact if_t (h q)
  | false => exact if_f q
theorem if_andf {c : Bool} (h : c = true → A2 → A1) (q : A2) : IfP c A1 A2 := by
  cases c with
  | true => exact if_t (h rfl q)
  | false => exact if_f q
theorem if_orc {c d : Bool} {X : Prop} {B : Bool → Hp → Prop} {H : Hp} (h : B d H → X) (q : B (c || d) H) : IfP c (B true H) X := by
  cases c with
  | true => exact if_t q
  | false => exact if_f (h q)
theorem if_dy {p : Prop} [Decidable p] (h : p) (q : A1) : IfP (decide p) A1 A2 := if_y (decide_eq_true h) q
theorem if_dno {p : Prop} [Decidable p] (h : ¬ p) (q : A2) : IfP (decide p) A1 A2 := if_n (decide_eq_false h) q
theorem if_two {c : Bool} {x y : Int} {σ : L2.St} {H : Hp} {Q' : VK} (q : ∀ n, (n = x ∨ n = y) → Q' (.int n) H) : IfP c (tC (.int x) σ H Q') (tC (.int y) σ H Q') := if_b (fun _ => q x (.inl rfl)) (fun _ => q y (.inr rfl))
/-- names, constants -/
theorem var {i : Nat} (h : σ[i]? = some (some v)) (q : Q v H) : tVar i σ H Q := ⟨v, h, q⟩
theorem cst (q : Q v H) : tC v σ H Q := q
/-- operators -/
theorem op {r : R2} (q : ta σ H fun x H1 => tb σ H1 fun y H2 => r x y H2 Q) : tOp r ta tb σ H Q := q
theorem un {r : V → Hp → VK → Prop} (q : ta σ H fun x H1 => r x H1 Q) : tUn r ta σ H Q := q
theorem i0 {g : Int → Int → V} (q : Q (g i j) H) : rI0 g (.int i) (.int j) H Q := ⟨i, j, rfl, rfl, q⟩
theorem ic {C : Int → Int → Prop} {g : Int → Int → V} (c : C i j) (q : Q (g i j) H) : rI C g (.int i) (.int j) H Q := ⟨i, j, rfl, rfl, c, q⟩
theorem uu {g : Int → V} (q : Q (g i) H) : rU g (.int i) H Q := ⟨i, rfl, q⟩
theorem eqv (q : Q (.bl (decide (x = y))) H) (h : scal x y = true := by rfl) : rEq x y H Q := ⟨h, q⟩
theorem nev (q : Q (.bl (!decide (x = y))) H) (h : scal x y = true := by rfl) : rNe x y H Q := ⟨h, q⟩
theorem eqI {p : Int} {q' : Int} : decide (V.int p = V.int q') = decide (p = q') := by simp
theorem eqS {p q' : Str} : decide (V.str p = V.str q') = decide (p = q') := by simp
theorem eqvI (q : Q (.bl (decide (i = j))) H) : rEq (.int i) (.int j) H Q := eqv (by rw [eqI]; exact q)
theorem nevI (q : Q (.bl (!decide (i = j))) H) : rNe (.int i) (.int j) H Q := nev (by rw [eqI]; exact q)
theorem eqvS {a b : Str} (q : Q (.bl (decide (a = b))) H) : rEq (.str a) (.str b) H Q := eqv (by rw [eqS]; exact q)
theorem nevS {a b : Str} (q : Q (.bl (!decide (a = b))) H) : rNe (.str a) (.str b) H Q := nev (by rw [eqS]; exact q)
/-- tests -/
theorem test (q : te σ H fun x H1 => TB x H1 B) : tTest te σ H B := q
theorem tB (q : te σ H fun x H1 => TB x H1 B) : L2.tB te σ H B := q
theorem and_ (q : t σ H fun c H1 => IfP c (u σ H1 B) (B false H1)) : tAnd t u σ H B := q
theorem or_ (q : t σ H fun c H1 => IfP c (B true H1) (u σ H1 B)) : tOr t u σ H B := q
theorem not_ (q : t σ H fun c H1 => B (!c) H1) : tNot t σ H B := q
theorem ifx (q : t σ H fun c H1 => IfP c (ta σ H1 Q) (tb σ H1 Q)) : tIf t ta tb σ H Q := q
/-- and, or, not as values -/
def BV (x : V) (H : Hp) (Q : Bool → Hp → Prop) : Prop := ∃ c, x = .bl c ∧ Q c H
theorem bv_go (q : B b H) : BV (.bl b) H B := ⟨b, rfl, q⟩
theorem andV (q : ta σ H fun x H1 => BV x H1 fun c H1 => IfP c (tb σ H1 Q) (Q (.bl false) H1)) : tAndV ta tb σ H Q := q
theorem orV (q : ta σ H fun x H1 => BV x H1 fun c H1 => IfP c (Q (.bl true) H1) (tb σ H1 Q)) : tOrV ta tb σ H Q := q
theorem notV (q : ta σ H fun x H1 => BV x H1 fun c H1 => Q (.bl (!c)) H1) : tNotV ta σ H Q := q
/-- or, and as values, both sides looked at without a change: one answer for what follows -/
def tOrW (ta tb : TE) : TE := tOrV ta tb
def tAndW (ta tb : TE) : TE := tAndV ta tb
theorem pe_orW {X : Cx} {e : Expr} (h : PE X e (tOrV ta tb)) : PE X e (tOrW ta tb) := h
theorem pe_andW {X : Cx} {e : Expr} (h : PE X e (tAndV ta tb)) : PE X e (tAndW ta tb) := h
def OrP (c : Bool) (tb : TE) (σ : L2.St) (H : Hp) (Q : VK) : Prop := if c = true then Q (.bl true) H else tb σ H Q
def AndP (c : Bool) (tb : TE) (σ : L2.St) (H : Hp) (Q : VK) : Prop := if c = true then tb σ H Q else Q (.bl false) H
theorem orW (q : ta σ H fun x H1 => BV x H1 fun c H1 => OrP c tb σ H1 Q) : tOrW ta tb σ H Q := q
theorem andW (q : ta σ H fun x H1 => BV x H1 fun c H1 => AndP c tb σ H1 Q) : tAndW ta tb σ H Q := q
theorem orp {c d : Bool} (h : ∀ R : VK, R (.bl d) H → tb σ H R) (q : Q (.bl (c || d)) H) : OrP c tb σ H Q := by
  cases c with
  | true => exact q
  | false => exact h _ q
theorem andp {c d : Bool} (h : ∀ R : VK, R (.bl d) H → tb σ H R) (q : Q (.bl (c && d)) H) : AndP c tb σ H Q := by
  cases c with
  | true => exact h _ q
  | false => exact q
/-- methods of texts -/
def M1P (te : TE) (r : V → List V → Hp → VK → Prop) (σ : L2.St) (x : V) (H : Hp) (Q : VK) : Prop := (∃ a, x = .str a) ∧ te σ H fun y H2 => r x [y] H2 Q
theorem m1 {r : V → List V → Hp → VK → Prop} (q : ta σ H fun x H1 => M1P te r σ x H1 Q) : tM1 r ta te σ H Q := q
theorem m1s {r : V → List V → Hp → VK → Prop} {z : Str} (q : te σ H fun y H2 => r (.str z) [y] H2 Q) : M1P te r σ (.str z) H Q := ⟨⟨z, rfl⟩, q⟩
/-- argument lists, displays -/
theorem nil {R : List V → Hp → Prop} (q : R [] H) : tNil σ H R := q
theorem cons {R : List V → Hp → Prop} (q : ta σ H fun x H1 => tr σ H1 fun xs H2 => R (x :: xs) H2) : tCons ta tr σ H R := q
/-- a new object -/
def NewP (H : Hp) (o : HO) (Q : VK) : Prop := ∀ p, H p = none → Q (.ref p) (upd H p o)
def LstP (xs : List V) (H : Hp) (Q : VK) : Prop := xs.length ≤ sizeLine ∧ NewP H (.lst xs) Q
def TupP (xs : List V) (H : Hp) (Q : VK) : Prop := xs.length ≤ sizeLine ∧ NewP H (.tup xs) Q
theorem lst (q : tr σ H fun xs H1 => LstP xs H1 Q) : tLst tr σ H Q := q
theorem tup (q : tr σ H fun xs H1 => TupP xs H1 Q) : tTup tr σ H Q := q
theorem lstP {xs : List V} (h : xs.length ≤ sizeLine) (q : ∀ p, H p = none → Q (.ref p) (upd H p (.lst xs))) : LstP xs H Q := ⟨h, q⟩
theorem tupP {xs : List V} (h : xs.length ≤ sizeLine) (q : ∀ p, H p = none → Q (.ref p) (upd H p (.tup xs))) : TupP xs H Q := ⟨h, q⟩
/-- calls -/
def CP (sp : Sp) (vs dvs : List V) (H : Hp) (Q : VK) (E : XK) : Prop := sp (vs ++ dvs) H Q E
theorem call {sp : Sp} {dvs : List V} {E : XK} (q : tr σ H fun vs H1 => CP sp vs dvs H1 Q E) : tCall sp dvs E tr σ H Q := q
theorem cb {r : List V → Hp → VK → Prop} (q : tr σ H fun vs H1 => r vs H1 Q) : tCB r tr σ H Q := q
/-- statements -/
theorem seq (q : tu { D with nx := tw D } σ H) : tSeq tu tw D σ H := q
theorem next (q : D.nx σ H) : tNext D σ H := q
theorem ret (q : te σ H D.rt) : tRet te D σ H := q
theorem retN (q : D.rt .non H) : tRetN D σ H := q
theorem drop (q : te σ H fun _ H1 => D.nx σ H1) : tDrop te D σ H := q
theorem asg {g : TG} (q : te σ H fun x H1 => g x σ H1 D.nx) : tAsg te g D σ H := q
theorem name {i : Nat} {R : L2.St → Hp → Prop} (q : R (σ.set i (some v)) H) : gName i v σ H R := q
theorem ifs {c : TT} (q : c σ H fun b H1 => IfP b (tu D σ H1) (tw D σ H1)) : tIfS c tu tw D σ H := q
theorem brk (q : D.bk σ H) : tBreak D σ H := q
theorem cnt (q : D.ct σ H) : tCont D σ H := q
def AugP (i : Nat) (x y : V) (ip : TIp) (D : Ends) (σ : L2.St) (H : Hp) : Prop := ip x y H fun z H2 => D.nx (σ.set i (some z)) H2
theorem aug {i : Nat} {tip : TIp} (h : σ[i]? = some (some x)) (q : te σ H fun y H1 => AugP i x y tip D σ H1) : tAug i te tip D σ H := ⟨x, h, q⟩
theorem augI {n : Nat} {f : Int → Int → Int} (q : D.nx (σ.set n (some (.int (f i j)))) H) : AugP n (.int i) (.int j) (ipI f) D σ H := ⟨i, j, rfl, rfl, q⟩
/-- loops: what walks (FW), for a range -/
def FW (J : It) (g : TG) (tb : TS) (D : Ends) (σ : L2.St) (H : Hp) : Prop := ∃ W : Nat → Nat → L2.St → Hp → Prop, (∃ m, W 0 m σ H) ∧ ∀ i m σ H, W i m σ H →
  (J.stop i H ∧ D.nx σ H) ∨ (J.go i H ∧ ∃ N : L2.St → Hp → Prop, (∀ σ' H', N σ' H' → ∃ m', m' < m ∧ W (i + 1) m' σ' H') ∧ ∀ x H', J.yld i H x H' → g x σ H' fun σ2 H2 => tb { D with nx := N, ct := N, bk := D.nx } σ2 H2)
theorem for_ {wi : TI} {g : TG} (q : wi σ H fun J H1 => FW J g tu D σ H1) : tFor wi g tu D σ H := q
def R1P (vs : List V) (H : Hp) (R : It → Hp → Prop) : Prop := ∃ j : Int, vs = [.int j] ∧ -(2 ^ 62) ≤ j ∧ j < 2 ^ 62 ∧ R (Itr 0 j.toNat) H
def R2P (vs : List V) (H : Hp) (R : It → Hp → Prop) : Prop := ∃ i j : Int, vs = [.int i, .int j] ∧ (-(2 ^ 62) ≤ i ∧ i < 2 ^ 62 ∧ -(2 ^ 62) ≤ j ∧ j < 2 ^ 62) ∧ R (Itr i (j - i).toNat) H
theorem rng1 {R : It → Hp → Prop} (q : tr σ H fun vs H1 => R1P vs H1 R) : iRng1 tr σ H R := q
theorem rng2 {R : It → Hp → Prop} (q : tr σ H fun vs H1 => R2P vs H1 R) : iRng2 tr σ H R := q
def R3P (vs : List V) (H : Hp) (R : It → Hp → Prop) : Prop := ∃ (i j c : Int) (n : Nat), vs = [.int i, .int j, .int c] ∧ RgC i j c n ∧ R (Itc i c n) H
theorem rng3 {R : It → Hp → Prop} (q : tr σ H fun vs H1 => R3P vs H1 R) : iRng3 tr σ H R := q
theorem r3 {R : It → Hp → Prop} {c : Int} {n : Nat} (h : RgC i j c n) (q : R (Itc i c n) H) : R3P [.int i, .int j, .int c] H R := ⟨i, j, c, n, rfl, h, q⟩
theorem r1 {R : It → Hp → Prop} (h1 : -(2 ^ 62) ≤ j) (h2 : j < 2 ^ 62) (q : R (Itr 0 j.toNat) H) : R1P [.int j] H R := ⟨j, rfl, h1, h2, q⟩
theorem r2 {R : It → Hp → Prop} (h1 : -(2 ^ 62) ≤ i ∧ i < 2 ^ 62 ∧ -(2 ^ 62) ≤ j ∧ j < 2 ^ 62) (q : R (Itr i (j - i).toNat) H) : R2P [.int i, .int j] H R := ⟨i, j, rfl, h1, q⟩
theorem fwR {lo : Int} {n : Nat} {g : TG} (Pv : Nat → L2.St → Hp → Prop) (h0 : Pv 0 σ H) (hs : ∀ i σ H, i < n → Pv i σ H → g (.int (lo + i)) σ H fun σ2 H2 => tu { D with nx := Pv (i + 1), ct := Pv (i + 1), bk := D.nx } σ2 H2) (hd : ∀ σ H, Pv n σ H → D.nx σ H) :
    FW (Itr lo n) g tu D σ H := for_range Pv h0 hs hd
def LP (K : PySem.W.Frag) (x : V) (H : Hp) (R : It → Hp → Prop) : Prop := ∃ a, x = .ref a ∧ (∃ xs, SqL K H a xs) ∧ R (Itl K a) H
theorem lwk {R : It → Hp → Prop} (q : te σ H fun x H1 => LP K x H1 R) : iList K te σ H R := q
theorem lp {a : Addr} {xs : List V} {R : It → Hp → Prop} (h : SqL K H a xs) (q : R (Itl K a) H) : LP K (.ref a) H R := ⟨a, rfl, ⟨xs, h⟩, q⟩
theorem fwL {a : Addr} {g : TG} (xs : List V) (Pv : Nat → L2.St → Hp → Prop) (h0 : Pv 0 σ H) (hl : ∀ i σ H, i ≤ xs.length → Pv i σ H → SqL K H a xs)
    (hs : ∀ i x σ H, xs[i]? = some x → Pv i σ H → g x σ H fun σ2 H2 => tu { D with nx := Pv (i + 1), ct := Pv (i + 1), bk := D.nx } σ2 H2) (hd : ∀ σ H, Pv xs.length σ H → D.nx σ H) : FW (Itl K a) g tu D σ H := for_list Pv h0 hl hs hd
/-- built-in functions, under names of their own -/
def rInt1 : List V → Hp → VK → Prop := fun xs H Q => (∃ i, xs = [.int i] ∧ Q (.int i) H) ∨ ∃ k, xs = [.bl k] ∧ Q (.int (if k then 1 else 0)) H
def rAbs : List V → Hp → VK → Prop := fun xs H Q => ∃ i, xs = [.int i] ∧ Q (.int (if i < 0 then -i else i)) H
def rStrI : List V → Hp → VK → Prop := fun xs H Q => ∃ i, xs = [.int i] ∧ i.natAbs.log2 < 1920 ∧ Q (.str (toString i)) H
def rLen (K : PySem.W.Frag) : List V → Hp → VK → Prop := fun xs H Q => ∃ x n, xs = [x] ∧ LenV K x H n ∧ Q (.int n) H
theorem int1 (q : Q (.int i) H) : rInt1 [.int i] H Q := .inl ⟨i, rfl, q⟩
theorem intB {k : Bool} (q : Q (.int (if k then 1 else 0)) H) : rInt1 [.bl k] H Q := .inr ⟨k, rfl, q⟩
theorem abs1 (q : Q (.int (if i < 0 then -i else i)) H) : rAbs [.int i] H Q := ⟨i, rfl, q⟩
theorem strI (h : i.natAbs.log2 < 1920) (q : Q (.str (toString i)) H) : rStrI [.int i] H Q := ⟨i, rfl, h, q⟩
theorem lenS {s : Str} (h : s.length ≤ sizeLine) (q : Q (.int (s.length : Nat)) H) : rLen K [.str s] H Q := ⟨_, _, rfl, ⟨h, rfl⟩, q⟩
theorem lenL {p : Addr} {xs : List V} (h : SqL K H p xs) (q : Q (.int (xs.length : Nat)) H) : rLen K [.ref p] H Q := ⟨_, _, rfl, .inl ⟨_, h, rfl⟩, q⟩
theorem lenT {p : Addr} {xs : List V} (h : SqT K H p xs) (q : Q (.int (xs.length : Nat)) H) : rLen K [.ref p] H Q := ⟨_, _, rfl, .inr ⟨_, h, rfl⟩, q⟩
/-- xs[i], s[i] -/
theorem ixL {p : Addr} {xs : List V} (h : SqL K H p xs) (ha : atI xs i = some v) (q : Q v H) : rIx K (.ref p) (.int i) H Q := .inl ⟨p, xs, i, v, rfl, rfl, h, ha, q⟩
theorem ixT {p : Addr} {xs : List V} (h : SqT K H p xs) (ha : atI xs i = some v) (q : Q v H) : rIx K (.ref p) (.int i) H Q := .inr (.inl ⟨p, xs, i, v, rfl, rfl, h, ha, q⟩)
theorem ixS {s : Str} {c : Nat} (h : s.length ≤ sizeLine) (ha : atI s.cps.toList i = some c) (q : Q (.str ⟨#[c]⟩) H) : rIx K (.str s) (.int i) H Q := .inr (.inr ⟨s, i, c, rfl, rfl, h, ha, q⟩)
/-- a, b = t -/
theorem gtup {n : Nat} {a : Addr} {xs : List V} {tg : TGs} {R : L2.St → Hp → Prop} (h : SqT K H a xs) (hl : xs.length = n) (q : tg xs σ H R) : gTup K n tg (.ref a) σ H R := ⟨a, xs, rfl, h, hl, q⟩
theorem gcons {g : TG} {tg : TGs} {xs : List V} {R : L2.St → Hp → Prop} (q : g v σ H fun σ' H' => tg xs σ' H' R) : gCons g tg (v :: xs) σ H R := ⟨v, xs, rfl, q⟩
theorem gnil {R : L2.St → Hp → Prop} (q : R σ H) : gNil [] σ H R := ⟨rfl, q⟩
/-- n.bit_length() -/
def BiP (x : V) (H : Hp) (Q : VK) : Prop := ∃ i, x = .int i ∧ Q (.int (Builtin.Int.intBits i : Nat)) H
/-- o.f, o.f = v, o.m(..), C(..) -/
def FP (K : PySem.W.Frag) (f : Str) (x : V) (H : Hp) (Q : VK) : Prop := ∃ a C dx fs v, x = .ref a ∧ H a = some (.ins C dx fs) ∧ Cls K C ∧ NoAttr K C f ∧ fs.lookup f = some v ∧ Q v H
theorem fld {f : Str} (q : ta σ H fun x H1 => FP K f x H1 Q) : tFld K ta f σ H Q := q
theorem fp {f : Str} {a C dx : Addr} {fs : List (Str × V)} (h : H a = some (.ins C dx fs)) (c : Cls K C) (n : NoAttr K C f) (l : fs.lookup f = some v) (q : Q v H) : FP K f (.ref a) H Q := ⟨a, C, dx, fs, v, rfl, h, c, n, l, q⟩
def SFP (K : PySem.W.Frag) (f : Str) (y x : V) (D : Ends) (σ : L2.St) (H : Hp) : Prop := ∃ a C dx fs, x = .ref a ∧ H a = some (.ins C dx fs) ∧ Cls K C ∧ NoAttr K C f ∧ fs.length < 1000 ∧ D.nx σ (upd H a (.ins C dx (putF f y fs)))
theorem sfld {f : Str} (q : tv σ H fun y H1 => ta σ H1 fun x H2 => SFP K f y x D σ H2) : sFld K ta tv f D σ H := q
theorem sfp {f : Str} {a C dx : Addr} {fs gs : List (Str × V)} (h : H a = some (.ins C dx fs)) (c : Cls K C) (n : NoAttr K C f) (l : fs.length < 1000) (e : putF f y fs = gs) (q : D.nx σ (upd H a (.ins C dx gs))) : SFP K f y (.ref a) D σ H := ⟨a, C, dx, fs, rfl, h, c, n, l, by rw [e]; exact q⟩
theorem few {f : Str} {v : V} : ∀ {fs : List (Str × V)} {k : Nat}, fs.length ≤ k → (putF f v fs).length ≤ k + 1
  | [], k, _ => Nat.succ_le_succ (Nat.zero_le k)
  | (g, u) :: r, k, h => by
    unfold putF
    split
    · exact Nat.le_succ_of_le h
    · cases k with
      | zero => cases h
      | succ k => exact Nat.succ_le_succ (few (Nat.le_of_succ_le_succ h))
def MP (C : Addr) (m : Str) (sp : Sp) (dvs : List V) (E : XK) (t : TA) (σ : L2.St) (x : V) (H : Hp) (Q : VK) : Prop := ∃ a dx fs, x = .ref a ∧ H a = some (.ins C dx fs) ∧ fs.lookup m = none ∧ t σ H fun vs H2 => sp (x :: (vs ++ dvs)) H2 Q E
theorem meth {C : Addr} {m : Str} {sp : Sp} {dvs : List V} {E : XK} (q : ta σ H fun x H1 => MP C m sp dvs E tr σ x H1 Q) : tMeth C m sp dvs E ta tr σ H Q := q
theorem mp {C a dx : Addr} {m : Str} {sp : Sp} {dvs : List V} {E : XK} {fs : List (Str × V)} (h : H a = some (.ins C dx fs)) (n : fs.lookup m = none) (q : tr σ H fun vs H2 => CP sp (.ref a :: vs) dvs H2 Q E) : MP C m sp dvs E tr σ (.ref a) H Q := ⟨a, dx, fs, rfl, h, n, q⟩
def MkP (C : Addr) (sp : Sp) (vs dvs : List V) (H : Hp) (Q : VK) (E : XK) : Prop := ∀ x dx, H x = none → H dx = none → dx ≠ x → CP sp (.ref x :: vs) dvs (upd (upd H dx (.own x)) x (.ins C dx [])) (fun v H2 => v = .non ∧ Q (.ref x) H2) E
theorem make {C : Addr} {sp : Sp} {dvs : List V} {E : XK} (q : tr σ H fun vs H1 => MkP C sp vs dvs H1 Q E) : tMake C sp dvs E tr σ H Q := q
/-- [v] * n -/
def rRepN : R2 := fun x y H Q => ∃ l k xs, x = .ref l ∧ y = .int k ∧ H l = some (.lst xs) ∧ -(2 ^ 63) ≤ k ∧ k < 2 ^ 63 ∧ xs.length * k.toNat ≤ sizeLine ∧ ∀ p, H p = none → Q (.ref p) (upd H p (.lst (List.replicate k.toNat xs).flatten))
theorem repN {l : Addr} {n : Nat} (h : H l = some (.lst [v])) (hn : n ≤ 100000) (q : ∀ p, H p = none → Q (.ref p) (upd H p (.lst (List.replicate n v)))) : rRepN (.ref l) (.int (n : Int)) H Q :=
  ⟨l, n, [v], rfl, rfl, h, by omega, by omega, by rw [Int.toNat_natCast, sizeLine_eq]; show 1 * n ≤ _; omega, fun p hp => by
    rw [Int.toNat_natCast, show (List.replicate n [v]).flatten = List.replicate n v by simp]; exact q p hp⟩
/-- xs[i] op= e -/
def rGetN (K : PySem.W.Frag) : V → V → Hp → VK → Prop := fun x y H Q => ∃ (p : Addr) (xs : List V) (i : Nat) (v : V), x = .ref p ∧ y = .int (i : Int) ∧ SqL K H p xs ∧ i < 1000000 ∧ xs[i]? = some v ∧ Q v H
def AgP (tip : TIp) (tset : TSet) (o i x y : V) (D : Ends) (σ : L2.St) (H : Hp) : Prop := tip x y H fun z H5 => tset o i z H5 fun H6 => D.nx σ H6
theorem augS {tget : V → V → Hp → VK → Prop} {tip : TIp} {tset : TSet} (q : to σ H fun o H1 => ti σ H1 fun i H2 => tget o i H2 fun x H3 => te σ H3 fun y H4 => AgP tip tset o i x y D σ H4) : tAugS to ti te tget tip tset D σ H := q
theorem getN {p : Addr} {xs : List V} {i : Nat} (h : SqL K H p xs) (hi : i < 1000000) (hx : xs[i]? = some v) (q : Q v H) : rGetN K (.ref p) (.int (i : Int)) H Q := ⟨p, xs, i, v, rfl, rfl, h, hi, hx, q⟩
theorem agL {l : Addr} {xs : List V} {k : Nat} {f : Int → Int → Int} (h : H l = some (.lst xs)) (hk : k < xs.length) (q : D.nx σ (upd H l (.lst (xs.set k (.int (f i j)))))) : AgP (ipI f) rSetL (.ref l) (.int (k : Int)) (.int i) (.int j) D σ H :=
  ⟨i, j, rfl, rfl, l, xs, k, k, rfl, rfl, h, by unfold ixN; rw [if_pos (by omega), if_pos (by omega)]; rfl, q⟩
/-- o[i] = v -/
def SbP (ti : TE) (t : TSet) (v : V) (σ : L2.St) (o : V) (H : Hp) (R : L2.St → Hp → Prop) : Prop := ti σ H fun i H2 => t o i v H2 fun H3 => R σ H3
theorem sub {ts : TSet} {R : L2.St → Hp → Prop} (q : to σ H fun o H1 => SbP ti ts v σ o H1 R) : gSub to ti ts v σ H R := q
theorem sbp {ts : TSet} {R : L2.St → Hp → Prop} (q : ti σ H fun i H2 => ts x i v H2 fun H3 => R σ H3) : SbP ti ts v σ x H R := q
theorem setL {l : Addr} {xs : List V} {k : Int} {j : Nat} {R : Hp → Prop} (h : H l = some (.lst xs)) (hk : ixN xs.length k = some j) (q : R (upd H l (.lst (xs.set j v)))) : rSetL (.ref l) (.int k) v H R := ⟨l, xs, k, j, rfl, rfl, h, hk, q⟩
/-- slices -/
def PtP (x : V) (H : Hp) (R : Option Int → Hp → Prop) : Prop := ∃ i, x = .int i ∧ R (some i) H
theorem slc {r : V → Option Int → Option Int → Hp → VK → Prop} {tl th : TO} (q : te σ H fun x H1 => tl σ H1 fun a H2 => th σ H2 fun b H3 => r x a b H3 Q) : tSl r te tl th σ H Q := q
theorem noP {R : Option Int → Hp → Prop} (q : R none H) : tNoPart σ H R := q
theorem part {R : Option Int → Hp → Prop} (q : te σ H fun x H1 => PtP x H1 R) : tPart te σ H R := q
theorem ptp {R : Option Int → Hp → Prop} (q : R (some i) H) : PtP (.int i) H R := ⟨i, rfl, q⟩
theorem slS {z : Str} {lo hi : Option Int} (h : z.length ≤ sizeLine) (q : Q (.str (cutS z lo hi)) H) : rSlS (.str z) lo hi H Q := ⟨z, rfl, h, q⟩
/-- texts put together -/
def rCatS : R2 := fun x y H Q => ∃ i j, x = .str i ∧ y = .str j ∧ i.length + j.length ≤ sizeLine ∧ Q (.str (i ++ j)) H
theorem addS {a b : Str} (h : a.length + b.length ≤ sizeLine) (q : Q (.str (a ++ b)) H) : rCatS (.str a) (.str b) H Q := ⟨a, b, rfl, rfl, h, q⟩
theorem at_map {ns : List Int} {k : Nat} (h : k < ns.length) : atI (ns.map V.int) (k : Int) = some (.int (ns.getD k 0)) := by
  refine atI_nat ?_
  rw [List.getElem?_map, List.getElem?_eq_getElem h]
  simp [List.getD_eq_getElem?_getD, List.getElem?_eq_getElem h]
/-- methods of built-in types -/
def BmP (K : PySem.W.Frag) (T : String) (r : V → List V → Hp → VK → Prop) (t : TA) (σ : L2.St) (x : V) (H : Hp) (Q : VK) : Prop := tyV K T x H ∧ t σ H fun xs H2 => r x xs H2 Q
theorem bm {T : String} {r : V → List V → Hp → VK → Prop} (q : to σ H fun x H1 => BmP K T r tr σ x H1 Q) : tBM K T r to tr σ H Q := q
theorem bmS {T : String} {r : V → List V → Hp → VK → Prop} (h : tyV K T x H) (q : tr σ H fun xs H2 => r x xs H2 Q) : BmP K T r tr σ x H Q := ⟨h, q⟩
theorem app {l : Addr} {xs : List V} (h : H l = some (.lst xs)) (hz : xs.length < sizeLine) (q : Q .non (upd H l (.lst (xs ++ [y])))) : rAppend (.ref l) [y] H Q := ⟨l, xs, y, rfl, rfl, h, hz, q⟩
theorem tyL {p : Addr} {xs : List V} (h : SqL K H p xs) : tyV K "list" (.ref p) H := .inl ⟨rfl, _, h⟩
/-- what follows is shown once, from the word between -/
theorem cut {tz : TS} (M : L2.St → Hp → Prop) (h : tu { D with nx := M } σ H) (k : ∀ σ' H', M σ' H' → tz D σ' H') : C8.tCut tu tz D σ H := ⟨M, h, k⟩
/-- while: a word that falls -/
def WhI (W : Nat → L2.St → Hp → Prop) (m : Nat) (tb : TS) (D : Ends) (σ : L2.St) (b : Bool) (H : Hp) : Prop :=
  if b = true then ∃ N : L2.St → Hp → Prop, (∀ σ' H', N σ' H' → ∃ m', m' < m ∧ W m' σ' H') ∧ tb { D with nx := N, ct := N, bk := D.nx } σ H else D.nx σ H
theorem whI_t {W : Nat → L2.St → Hp → Prop} {m : Nat} (q : tu { D with nx := fun σ' H' => ∃ m', m' < m ∧ W m' σ' H', ct := fun σ' H' => ∃ m', m' < m ∧ W m' σ' H', bk := D.nx } σ H) : WhI W m tu D σ true H := by
  unfold WhI; rw [if_pos rfl]; exact ⟨_, fun _ _ h => h, q⟩
theorem whI_f {W : Nat → L2.St → Hp → Prop} {m : Nat} (q : D.nx σ H) : WhI W m tu D σ false H := by
  unfold WhI; rw [if_neg Bool.false_ne_true]; exact q
theorem whI_d {W : Nat → L2.St → Hp → Prop} {m : Nat} {p : Prop} [Decidable p] (q1 : p → WhI W m tu D σ true H) (q2 : ¬ p → WhI W m tu D σ false H) : WhI W m tu D σ (decide p) H := by
  by_cases h : p
  · rw [decide_eq_true h]; exact q1 h
  · rw [decide_eq_false h]; exact q2 h
theorem whI_b {W : Nat → L2.St → Hp → Prop} {m : Nat} (q1 : b = true → WhI W m tu D σ true H) (q2 : b = false → WhI W m tu D σ false H) : WhI W m tu D σ b H := by
  cases b with
  | true => exact q1 rfl
  | false => exact q2 rfl
theorem whl (W : Nat → L2.St → Hp → Prop) (m0 : Nat) (h0 : W m0 σ H) (hs : ∀ m σ' H', W m σ' H' → t σ' H' fun b H1 => WhI W m tu D σ' b H1) : tWhile t tu D σ H := ⟨W, ⟨m0, h0⟩, hs⟩
/-- any walk -/
theorem fw {J : It} {n : Nat} {G : Hp → Prop} {Y : Nat → Hp → V → Hp → Prop} {g : TG} (w : Walk J n G Y) (Pv : Nat → L2.St → Hp → Prop) (h0 : Pv 0 σ H) (hG : ∀ i σ H, i ≤ n → Pv i σ H → G H)
    (hs : ∀ i x σ H H', i < n → Pv i σ H → Y i H x H' → g x σ H' fun σ2 H2 => tu { D with nx := Pv (i + 1), ct := Pv (i + 1), bk := D.nx } σ2 H2) (hd : ∀ σ H, Pv n σ H → D.nx σ H) : FW J g tu D σ H := for_it w Pv h0 hG hs hd
def StrP (x : V) (H : Hp) (R : It → Hp → Prop) : Prop := ∃ z, x = .str z ∧ R (Its z) H
theorem strw {R : It → Hp → Prop} (q : te σ H fun x H1 => StrP x H1 R) : iStr te σ H R := q
theorem strp {z : Str} {R : It → Hp → Prop} (q : R (Its z) H) : StrP (.str z) H R := ⟨z, rfl, q⟩
/-- comprehensions -/
def LcP (J : It) (g : TG) (tt : TT) (te : TE) (vs : List Nat) (σ : L2.St) (Q : VK) (H1 : Hp) : Prop := ∀ D, H1 D = none → ∃ W : Nat → Nat → Hp → Prop, (∃ m, W 0 m (upd H1 D (.lst []))) ∧ ∀ i m H, W i m H →
  (J.stop i H ∧ Q (.ref D) H) ∨ (J.go i H ∧ ∃ Nx : Hp → Prop, (∀ H', Nx H' → ∃ m', m' < m ∧ W (i + 1) m' H') ∧ ∀ x H', J.yld i H x H' → g x (wipe σ vs) H' fun σ2 H2 => wipe σ2 vs = wipe σ vs ∧ tt σ2 H2 fun b H3 =>
    if b = true then te σ2 H3 fun y H4 => ∃ acc, H4 D = some (.lst acc) ∧ acc.length < sizeLine ∧ Nx (upd H4 D (.lst (acc ++ [y]))) else Nx H3)
theorem lc {wi : TI} {g : TG} {vs : List Nat} (q : wi σ H fun J H1 => LcP J g t te vs σ Q H1) : tLc wi g t te vs σ H Q := q
def WP (A B : Prop) : Prop := A ∧ B
theorem wp (h : A1) (q : A2) : WP A1 A2 := ⟨h, q⟩
theorem yes (q : B true H) : tYes σ H B := q
theorem same_up {H H' : Hp} {p : Addr} {o : HO} (h : H p = none) (s : Same H H') : Same H (upd H' p o) := fun a u e => by rw [upd_ne (ne_of_none e h)]; exact s a u e
theorem same_new {H : Hp} {p : Addr} {o : HO} (h : H p = none) : Same H (upd H p o) := same_up h (Same.refl H)
theorem snoc {H : Hp} {p : Addr} {xs : List Int} {z : Int} : upd H p (.lst (xs.map V.int ++ [.int z])) p = some (.lst ((xs ++ [z]).map V.int)) := by rw [upd_same, List.map_append]; rfl
/-- a comprehension whose turns leave what stands: the list of the turns that are kept -/
theorem lcFil {J : It} {n : Nat} {G : Hp → Prop} {Y : Nat → Hp → V → Hp → Prop} {g : TG} {vs : List Nat} (w : Walk J n G Y) (hn : n < 16777216) (c : Nat → Bool) (f : Nat → V) (hG : ∀ H', Same H H' → G H') (hY : ∀ i H x H', Y i H x H' → Same H H')
    (hs : ∀ i x H1 H' (R : V → Hp → Prop) (R0 : Hp → Prop), i < n → Same H H1 → Y i H1 x H' → (c i = true → ∀ H4, Same H' H4 → R (f i) H4) → (c i = false → ∀ H4, Same H' H4 → R0 H4) →
      g x (wipe σ vs) H' fun σ2 H2 => WP (wipe σ2 vs = wipe σ vs) (t σ2 H2 fun b H3 => IfP b (te σ2 H3 R) (R0 H3)))
    (q : ∀ p H2, H p = none → Same H H2 → H2 p = some (.lst (((List.range n).filter c).map f)) → Q (.ref p) H2) : LcP J g t te vs σ Q H := fun p hp => by
  refine lc_it w (fun i H' => Same H H' ∧ H' p = some (.lst (((List.range i).filter c).map f))) ⟨same_new hp, upd_same⟩ (fun i H' _ h => hG H' h.1) (fun i x H1 H' hi h y => ?_) (fun H' h => q p H' hp h.1 h.2)
  obtain ⟨h1, h2⟩ := h
  have s1 := hY i H1 x H' y
  refine hs i x H1 H' _ _ hi h1 y (fun hc H4 s4 => ⟨_, s4 _ _ (s1 _ _ h2), ?_, same_up hp (h1.trans (s1.trans s4)), ?_⟩) (fun hc H4 s4 => ⟨h1.trans (s1.trans s4), ?_⟩)
  · rw [List.length_map]
    have := List.length_filter_le c (List.range i)
    rw [List.length_range] at this
    rw [sizeLine_eq]; omega
  · rw [upd_same, List.range_succ, List.filter_append, List.map_append, List.filter_cons, if_pos hc]; rfl
  · rw [List.range_succ, List.filter_append, List.map_append, List.filter_cons, if_neg (by rw [hc]; decide)]
    rw [s4 _ _ (s1 _ _ h2)]; simp
theorem lcMap {J : It} {n : Nat} {G : Hp → Prop} {Y : Nat → Hp → V → Hp → Prop} {g : TG} {vs : List Nat} (w : Walk J n G Y) (hn : n < 16777216) (f : Nat → V) (hG : ∀ H', Same H H' → G H') (hY : ∀ i H x H', Y i H x H' → Same H H')
    (hs : ∀ i x H1 H' (R : V → Hp → Prop) (R0 : Hp → Prop), i < n → Same H H1 → Y i H1 x H' → (∀ H4, Same H' H4 → R (f i) H4) →
      g x (wipe σ vs) H' fun σ2 H2 => WP (wipe σ2 vs = wipe σ vs) (t σ2 H2 fun b H3 => IfP b (te σ2 H3 R) (R0 H3)))
    (q : ∀ p H2, H p = none → Same H H2 → H2 p = some (.lst ((List.range n).map f)) → Q (.ref p) H2) : LcP J g t te vs σ Q H := by
  refine lcFil w hn (fun _ => true) f hG hY (fun i x H1 H' R R0 hi h1 y hr _ => hs i x H1 H' R R0 hi h1 y (hr rfl)) ?_
  rw [List.filter_eq_self.mpr (fun _ _ => rfl)]
  exact q
theorem sameFn {f : Nat → V} : ∀ i H x H', YFn f i H x H' → Same H H' := fun _ _ _ _ y => y.1 ▸ Same.refl _
theorem sameAt {xs : List V} : ∀ i H x H', YAt xs i H x H' → Same H H' := fun _ _ _ _ y => y.1 ▸ Same.refl _
/-- reversed ranges -/
def RrP (a b : Int) (H : Hp) (R : It → Hp → Prop) : Prop := -(2 ^ 62) ≤ a ∧ a < 2 ^ 62 ∧ -(2 ^ 62) ≤ b ∧ b < 2 ^ 62 ∧ R (Itc (a + (((b - a).toNat : Nat) : Int) - 1) (-1) (b - a).toNat) H
def Rg1P (x : V) (H : Hp) (R : Int → Int → Hp → Prop) : Prop := ∃ j, x = .int j ∧ R 0 j H
theorem rrv {tr : L2.St → Hp → (Int → Int → Hp → Prop) → Prop} {R : It → Hp → Prop} (q : tr σ H fun a b H1 => RrP a b H1 R) : iRevR tr σ H R := q
theorem rr {a b : Int} {R : It → Hp → Prop} (h : -(2 ^ 62) ≤ a ∧ a < 2 ^ 62 ∧ -(2 ^ 62) ≤ b ∧ b < 2 ^ 62) (q : R (Itc (a + (((b - a).toNat : Nat) : Int) - 1) (-1) (b - a).toNat) H) : RrP a b H R := ⟨h.1, h.2.1, h.2.2.1, h.2.2.2, q⟩
theorem rg1 {R : Int → Int → Hp → Prop} (q : ta σ H fun x H1 => Rg1P x H1 R) : tRg1 ta σ H R := q
theorem rg1p {R : Int → Int → Hp → Prop} (q : R 0 j H) : Rg1P (.int j) H R := ⟨j, rfl, q⟩
/-- isinstance with a built-in class -/
theorem isi {n : String} {tv : Value} (ty : TyX K H x tv) (q : Q (.bl b) H) (e : PySem.W.kitOne K tv (.type n) = some b) : rIsi K [x, .ty n] H Q := ⟨x, .ty n, tv, .type n, b, rfl, .ty n, ty, e, q⟩
theorem isiI {n : String} (q : Q (.bl b) H) (e : kitB "int" n = some b) : rIsi K [.int i, .ty n] H Q := isi (.base (.int i)) q (kit_ty e)
theorem isiS {n : String} {z : Str} (q : Q (.bl b) H) (e : kitB "str" n = some b) : rIsi K [.str z, .ty n] H Q := isi (.base (.str z)) q (kit_ty e)
theorem isiB {n : String} {k : Bool} (q : Q (.bl b) H) (e : kitB "bool" n = some b) : rIsi K [.bl k, .ty n] H Q := isi (.base (.bl k)) q (kit_ty e)
theorem isiN {n : String} (q : Q (.bl b) H) (e : kitB "NoneType" n = some b) : rIsi K [.non, .ty n] H Q := isi (.base .non) q (kit_ty e)
/-- int of a text, order of texts -/
def rIntS : List V → Hp → VK → Prop := fun xs H Q => ∃ a n, xs = [.str a] ∧ PySem.intText? a = some n ∧ a.length ≤ 640 ∧ Q (.int n) H
theorem intS {a : Str} {n : Int} (h : PySem.intText? a = some n) (hl : a.length ≤ 640) (q : Q (.int n) H) : rIntS [.str a] H Q := ⟨a, n, rfl, h, hl, q⟩
def rLtS : R2 := fun x y H Q => ∃ i j, x = .str i ∧ y = .str j ∧ Q (.bl (decide (i.cps.toList < j.cps.toList))) H
theorem ltS {a b : Str} (q : Q (.bl (decide (a.cps.toList < b.cps.toList))) H) : rLtS (.str a) (.str b) H Q := ⟨a, b, rfl, rfl, q⟩
theorem eqB {p q' : Bool} : decide (V.bl p = V.bl q') = decide (p = q') := by simp
theorem eqvB {a b : Bool} (q : Q (.bl (decide (a = b))) H) : rEq (.bl a) (.bl b) H Q := eqv (by rw [eqB]; exact q)
def rMin2 : List V → Hp → VK → Prop := fun xs H Q => ∃ i j, xs = [.int i, .int j] ∧ Q (.int (if j < i then j else i)) H
def rMax2 : List V → Hp → VK → Prop := fun xs H Q => ∃ i j, xs = [.int i, .int j] ∧ Q (.int (if j > i then j else i)) H
theorem min2 (q : Q (.int (if j < i then j else i)) H) : rMin2 [.int i, .int j] H Q := ⟨i, j, rfl, q⟩
theorem max2 (q : Q (.int (if j > i then j else i)) H) : rMax2 [.int i, .int j] H Q := ⟨i, j, rfl, q⟩
/-- x in (..), of ints -/
theorem inL {p : Addr} {xs : List V} {neg : Bool} (h : SqL K H p xs) (f : xs.all flatV = true) (q : Q (.bl (if neg then !inV (.int i) xs else inV (.int i) xs)) H) : rIn K neg (.int i) (.ref p) H Q := ⟨p, xs, rfl, .inl h, rfl, f, q⟩
theorem flat_ints : ∀ xs : List Int, (xs.map V.int).all flatV = true
  | [] => rfl
  | _ :: xs => by rw [List.map_cons, List.all_cons, flat_ints xs]; rfl
theorem notin_ints {z : Int} : ∀ xs : List Int, (∀ y ∈ xs, y ≠ z) → inV (.int z) (xs.map V.int) = false
  | [], _ => rfl
  | y :: xs, h => by
    have ih := notin_ints xs fun u hu => h u (List.mem_cons_of_mem _ hu)
    unfold inV at *
    rw [List.map_cons, List.any_cons, ih, Bool.or_false]
    show (y == z) = false
    exact beq_eq_false_iff_ne.mpr (h y List.mem_cons_self)
theorem inT {p : Addr} {xs : List V} {neg : Bool} (h : SqT K H p xs) (f : xs.all flatV = true) (q : Q (.bl (if neg then !inV (.int i) xs else inV (.int i) xs)) H) : rIn K neg (.int i) (.ref p) H Q := ⟨p, xs, rfl, .inr h, rfl, f, q⟩
/-- x in (..), of texts -/
theorem inLS {p : Addr} {xs : List Str} {z : Str} {neg : Bool} (h : SqL K H p (xs.map V.str)) (q : Q (.bl (if neg then !decide (z ∈ xs) else decide (z ∈ xs))) H) : rIn K neg (.str z) (.ref p) H Q := by
  have fl : ∀ xs : List Str, (xs.map V.str).all flatV = true := fun xs => by simp [flatV]
  have e : ∀ xs : List Str, inV (.str z) (xs.map V.str) = decide (z ∈ xs) := fun xs => by
    rw [Bool.eq_iff_iff, decide_eq_true_iff]
    unfold inV
    rw [List.any_map, List.any_eq_true]
    constructor
    · rintro ⟨y, hy, e⟩
      have : y = z := by simpa [eqV] using e
      rw [← this]; exact hy
    · intro hz
      exact ⟨z, hz, by simp [eqV]⟩
  exact ⟨p, _, rfl, .inl h, rfl, fl xs, by rw [e]; exact q⟩
theorem inTS {p : Addr} {xs : List Str} {z : Str} {neg : Bool} (h : SqT K H p (xs.map V.str)) (q : Q (.bl (if neg then !decide (z ∈ xs) else decide (z ∈ xs))) H) : rIn K neg (.str z) (.ref p) H Q := by
  have fl : ∀ xs : List Str, (xs.map V.str).all flatV = true := fun xs => by simp [flatV]
  have e : ∀ xs : List Str, inV (.str z) (xs.map V.str) = decide (z ∈ xs) := fun xs => by
    rw [Bool.eq_iff_iff, decide_eq_true_iff]
    unfold inV
    rw [List.any_map, List.any_eq_true]
    constructor
    · rintro ⟨y, hy, e⟩
      have : y = z := by simpa [eqV] using e
      rw [← this]; exact hy
    · intro hz
      exact ⟨z, hz, by simp [eqV]⟩
  exact ⟨p, _, rfl, .inr h, rfl, fl xs, by rw [e]; exact q⟩
/-- == of lists of ints -/
theorem eqvAll_int : ∀ xs ys : List Int, PyData.eqvAll (xs.map .int) (ys.map .int) = decide (xs = ys)
  | [], [] => by simp [PyData.eqvAll]
  | [], _ :: _ => by simp [PyData.eqvAll]
  | _ :: _, [] => by simp [PyData.eqvAll]
  | x :: xs, y :: ys => by
    simp only [List.map_cons, PyData.eqvAll, PyData.eqv, eqvAll_int xs ys]
    by_cases h : x = y
    · subst h; simp
    · simp [h]
theorem canLay_ints : ∀ xs : List Int, PyData.canLayAll0 (xs.map .int) = true
  | [] => rfl
  | _ :: xs => by simp [PyData.canLayAll0, PyData.canLay0, canLay_ints xs]
theorem depth_ints : ∀ xs : List Int, PyData.depthAll (xs.map .int) = 0
  | [] => rfl
  | _ :: xs => by simp [PyData.depthAll, PyData.depth, depth_ints xs]
theorem shaped_ints (xs : List Int) : SeqAt.shaped (.list (xs.map .int)) = true := by
  simp [SeqAt.shaped, PyData.canLay0, PyData.depth, canLay_ints, depth_ints]
theorem shaped_tints (xs : List Int) : SeqAt.shaped (.tuple (xs.map .int)) = true := by
  simp [SeqAt.shaped, PyData.canLay0, PyData.depth, canLay_ints, depth_ints]
theorem dpAll_int : ∀ xs : List Int, DpAll K H (xs.map V.int) (xs.map PyData.int)
  | [] => .nil
  | x :: xs => .cons (.int x) (dpAll_int xs)
theorem eqDI {p q' : Addr} {xs ys : List Int} (h1 : SqL K H p (xs.map V.int)) (h2 : SqL K H q' (ys.map V.int)) (q : Q (.bl (decide (xs = ys))) H) : rEqD K (.ref p) (.ref q') H Q :=
  ⟨_, _, .lst h1 (dpAll_int xs), .lst h2 (dpAll_int ys), shaped_ints xs, shaped_ints ys, by rw [show PyData.eqv (.list (xs.map .int)) (.list (ys.map .int)) = decide (xs = ys) from eqvAll_int xs ys]; exact q⟩
theorem neDI {p q' : Addr} {xs ys : List Int} (h1 : SqL K H p (xs.map V.int)) (h2 : SqL K H q' (ys.map V.int)) (q : Q (.bl (!decide (xs = ys))) H) : rNeD K (.ref p) (.ref q') H Q :=
  ⟨_, _, .lst h1 (dpAll_int xs), .lst h2 (dpAll_int ys), shaped_ints xs, shaped_ints ys, by rw [show PyData.eqv (.list (xs.map .int)) (.list (ys.map .int)) = decide (xs = ys) from eqvAll_int xs ys]; exact q⟩
theorem eqDT {p q' : Addr} {xs ys : List Int} (h1 : SqT K H p (xs.map V.int)) (h2 : SqT K H q' (ys.map V.int)) (q : Q (.bl (decide (xs = ys))) H) : rEqD K (.ref p) (.ref q') H Q :=
  ⟨_, _, .tup h1 (dpAll_int xs), .tup h2 (dpAll_int ys), shaped_tints xs, shaped_tints ys, by rw [show PyData.eqv (.tuple (xs.map .int)) (.tuple (ys.map .int)) = decide (xs = ys) from eqvAll_int xs ys]; exact q⟩
theorem neDT {p q' : Addr} {xs ys : List Int} (h1 : SqT K H p (xs.map V.int)) (h2 : SqT K H q' (ys.map V.int)) (q : Q (.bl (!decide (xs = ys))) H) : rNeD K (.ref p) (.ref q') H Q :=
  ⟨_, _, .tup h1 (dpAll_int xs), .tup h2 (dpAll_int ys), shaped_tints xs, shaped_tints ys, by rw [show PyData.eqv (.tuple (xs.map .int)) (.tuple (ys.map .int)) = decide (xs = ys) from eqvAll_int xs ys]; exact q⟩
/-- all, any, sum, list(..) of a list -/
theorem allP {p : Addr} {bs : List Bool} (h : SqL K H p (bs.map V.bl)) (q : Q (.bl (bs.all id)) H) : L2.rAll K [.ref p] H Q := ⟨p, bs, rfl, h, q⟩
theorem anyP {p : Addr} {bs : List Bool} (h : SqL K H p (bs.map V.bl)) (q : Q (.bl (bs.any id)) H) : L2.rAny K [.ref p] H Q := ⟨p, bs, rfl, h, q⟩
theorem sumP {p : Addr} {ns : List Int} (h : SqL K H p (ns.map V.int)) (q : Q (.int ns.sum) H) : L2.rSum K [.ref p] H Q := ⟨p, ns, rfl, h, q⟩
def rList (K : PySem.W.Frag) : List V → Hp → VK → Prop := fun xs H Q => ∃ p ys, xs = [.ref p] ∧ (SqL K H p ys ∨ SqT K H p ys) ∧ ∀ l, H l = none → Q (.ref l) (upd H l (.lst ys))
theorem listL {p : Addr} {xs : List V} (h : SqL K H p xs) (q : ∀ l, H l = none → Q (.ref l) (upd H l (.lst xs))) : rList K [.ref p] H Q := ⟨p, xs, rfl, .inl h, q⟩
theorem listT {p : Addr} {xs : List V} (h : SqT K H p xs) (q : ∀ l, H l = none → Q (.ref l) (upd H l (.lst xs))) : rList K [.ref p] H Q := ⟨p, xs, rfl, .inr h, q⟩
def rDivmod : List V → Hp → VK → Prop := fun xs H Q => ∃ i j, xs = [.int i, .int j] ∧ CDiv i j ∧ ∀ p, H p = none → Q (.ref p) (upd H p (.tup [.int (i / j), .int (i % j)]))
theorem dvm (c : CDiv i j) (q : ∀ p, H p = none → Q (.ref p) (upd H p (.tup [.int (i / j), .int (i % j)]))) : rDivmod [.int i, .int j] H Q := ⟨i, j, rfl, c, q⟩
theorem cat {l b : Addr} {xs zs : List V} (h1 : H l = some (.lst xs)) (h2 : H b = some (.lst zs)) (hz : xs.length + zs.length ≤ sizeLine) (q : ∀ p, H p = none → Q (.ref p) (upd H p (.lst (xs ++ zs)))) : rCat (.ref l) (.ref b) H Q := ⟨l, b, xs, zs, rfl, rfl, h1, h2, hz, q⟩
def TwP (K : PySem.W.Frag) (x : V) (H : Hp) (R : It → Hp → Prop) : Prop := ∃ a, x = .ref a ∧ (∃ xs, SqT K H a xs) ∧ R (Itt K a) H
theorem twk {R : It → Hp → Prop} (q : te σ H fun x H1 => TwP K x H1 R) : iTup K te σ H R := q
theorem twp {a : Addr} {xs : List V} {R : It → Hp → Prop} (h : SqT K H a xs) (q : R (Itt K a) H) : TwP K (.ref a) H R := ⟨a, rfl, ⟨xs, h⟩, q⟩
/-- a list of tuples of ints -/
def TL (H : Hp) (l : Addr) (n : Nat) (f : Nat → List Int) : Prop := ∃ ps : List Addr, H l = some (.lst (ps.map V.ref)) ∧ ps.length = n ∧ ∀ j a, ps[j]? = some a → H a = some (.tup ((f j).map V.int))
theorem TL.keep {H' : Hp} {l : Addr} {n : Nat} {f : Nat → List Int} (t : TL H l n f) (s : Same H H') : TL H' l n f := by
  obtain ⟨ps, h1, h2, h3⟩ := t
  exact ⟨ps, s _ _ h1, h2, fun j a e => s _ _ (h3 j a e)⟩
theorem TL.nil {l : Addr} {f : Nat → List Int} (h : H l = some (.lst [])) : TL H l 0 f := ⟨[], h, rfl, fun j a e => by cases e⟩
theorem TL.snoc {l t : Addr} {n : Nat} {f : Nat → List Int} (x : TL H l n f) (h : H t = some (.tup ((f n).map V.int))) : ∃ xs, H l = some (.lst xs) ∧ xs.length = n ∧ TL (upd H l (.lst (xs ++ [.ref t]))) l (n + 1) f := by
  obtain ⟨ps, h1, h2, h3⟩ := x
  have ne : ∀ {a : Addr} {ys : List V}, H a = some (.tup ys) → a ≠ l := fun e => ne_of e h1 (by intro z; cases z)
  refine ⟨_, h1, by rw [List.length_map]; exact h2, ps ++ [t], by rw [upd_same, List.map_append]; rfl, by rw [List.length_append, h2]; rfl, fun j a e => ?_⟩
  by_cases hj : j < ps.length
  · rw [List.getElem?_append_left hj] at e
    rw [upd_ne (ne (h3 j a e))]; exact h3 j a e
  · rw [List.getElem?_append_right (by omega)] at e
    have hj2 : j - ps.length = 0 := by
      rcases Nat.eq_zero_or_pos (j - ps.length) with z | z
      · exact z
      · rw [List.getElem?_eq_none (by show 1 ≤ _; omega)] at e; cases e
    rw [hj2] at e
    have e2 : t = a := Option.some.inj e
    subst e2
    rw [upd_ne (ne h), show j = n by omega]; exact h
theorem TL.len {l : Addr} {n : Nat} {f : Nat → List Int} (x : TL H l n f) : ∃ xs, H l = some (.lst xs) ∧ xs.length = n := by
  obtain ⟨ps, h1, h2, h3⟩ := x
  exact ⟨_, h1, by rw [List.length_map]; exact h2⟩
theorem TL.get {l : Addr} {n j : Nat} {f : Nat → List Int} (x : TL H l n f) (hj : j < n) : ∃ xs a, H l = some (.lst xs) ∧ atI xs (j : Int) = some (.ref a) ∧ H a = some (.tup ((f j).map V.int)) := by
  obtain ⟨ps, h1, h2, h3⟩ := x
  have hj2 : j < ps.length := by omega
  refine ⟨_, ps[j], h1, atI_nat ?_, h3 j _ (List.getElem?_eq_getElem hj2)⟩
  rw [List.getElem?_map, List.getElem?_eq_getElem hj2]; rfl
theorem dp_tups : ∀ (ps : List Addr) (g : Nat → List Int), (∀ j a, ps[j]? = some a → H a = some (.tup ((g j).map V.int))) → DpAll K H (ps.map V.ref) ((List.range ps.length).map fun j => PyData.tuple ((g j).map PyData.int))
  | [], _, _ => .nil
  | a :: ps, g, h => by
    rw [List.length_cons, List.range_succ_eq_map, List.map_cons, List.map_cons, List.map_map]
    exact .cons (.tup (SqT.of (h 0 a rfl)) (dpAll_int _)) (dp_tups ps (fun j => g (j + 1)) fun j b e => h (j + 1) b (by simpa using e))
theorem lay_tups : ∀ rows : List (List Int), PyData.canLayAll0 (rows.map fun r => PyData.tuple (r.map PyData.int)) = true ∧ PyData.depthAll (rows.map fun r => PyData.tuple (r.map PyData.int)) ≤ 1 ∧ PyData.eqvAll (rows.map fun r => PyData.tuple (r.map PyData.int)) (rows.map fun r => PyData.tuple (r.map PyData.int)) = true
  | [] => ⟨rfl, by simp [PyData.depthAll], by simp [PyData.eqvAll]⟩
  | r :: rows => by
    obtain ⟨h1, h2, h3⟩ := lay_tups rows
    refine ⟨by simp [PyData.canLayAll0, PyData.canLay0, canLay_ints, h1], ?_, ?_⟩
    · simp only [List.map_cons, PyData.depthAll, PyData.depth, depth_ints]; omega
    · simp [PyData.eqvAll, PyData.eqv, eqvAll_int, h3]
theorem TL.dp {l : Addr} {n : Nat} {f : Nat → List Int} (x : TL H l n f) : Dp K H (.ref l) (.list (((List.range n).map f).map fun r => PyData.tuple (r.map PyData.int))) := by
  obtain ⟨ps, h1, h2, h3⟩ := x
  have := dp_tups (K := K) ps f h3
  rw [h2] at this
  rw [List.map_map]
  exact .lst (SqL.of h1) this
theorem shaped_tups (rows : List (List Int)) : SeqAt.shaped (.list (rows.map fun r => PyData.tuple (r.map PyData.int))) = true := by
  obtain ⟨h1, h2, _⟩ := lay_tups rows
  unfold SeqAt.shaped
  simp only [PyData.canLay0, PyData.depth, h1, Bool.true_and]
  exact decide_eq_true (by omega)
theorem eqTL {l m : Addr} {n : Nat} {f : Nat → List Int} (x : TL H l n f) (y : TL H m n f) (q : Q (.bl true) H) : rEqD K (.ref l) (.ref m) H Q :=
  ⟨_, _, x.dp, y.dp, shaped_tups _, shaped_tups _, by rw [show PyData.eqv (.list (((List.range n).map f).map fun r => PyData.tuple (r.map PyData.int))) (.list (((List.range n).map f).map fun r => PyData.tuple (r.map PyData.int))) = true from (lay_tups _).2.2]; exact q⟩
theorem neTL {l m : Addr} {n : Nat} {f : Nat → List Int} (x : TL H l n f) (y : TL H m n f) (q : Q (.bl false) H) : rNeD K (.ref l) (.ref m) H Q :=
  ⟨_, _, x.dp, y.dp, shaped_tups _, shaped_tups _, by rw [show PyData.eqv (.list (((List.range n).map f).map fun r => PyData.tuple (r.map PyData.int))) (.list (((List.range n).map f).map fun r => PyData.tuple (r.map PyData.int))) = true from (lay_tups _).2.2]; exact q⟩
/-- a comprehension whose turns make a tuple each -/
theorem lcTup {J : It} {n : Nat} {G : Hp → Prop} {Y : Nat → Hp → V → Hp → Prop} {g : TG} {vs : List Nat} (w : Walk J n G Y) (hn : n < 16777216) (f : Nat → List Int) (hG : ∀ H', Same H H' → G H') (hY : ∀ i H x H', Y i H x H' → Same H H')
    (hs : ∀ i x H1 H' (R : V → Hp → Prop) (R0 : Hp → Prop), i < n → Same H H1 → Y i H1 x H' → (∀ p H4, Same H' H4 → H4 p = some (.tup ((f i).map V.int)) → R (.ref p) H4) →
      g x (wipe σ vs) H' fun σ2 H2 => WP (wipe σ2 vs = wipe σ vs) (t σ2 H2 fun b H3 => IfP b (te σ2 H3 R) (R0 H3)))
    (q : ∀ p H2, H p = none → Same H H2 → TL H2 p n f → Q (.ref p) H2) : LcP J g t te vs σ Q H := fun p hp => by
  refine lc_it w (fun i H' => Same H H' ∧ TL H' p i f) ⟨same_new hp, TL.nil upd_same⟩ (fun i H' _ h => hG H' h.1) (fun i x H1 H' hi h y => ?_) (fun H' h => q p H' hp h.1 h.2)
  obtain ⟨h1, h2⟩ := h
  have s1 := hY i H1 x H' y
  refine hs i x H1 H' _ _ hi h1 y (fun a H4 s4 ha => ?_)
  obtain ⟨xs, e1, e2, e3⟩ := (h2.keep (s1.trans s4)).snoc ha
  exact ⟨xs, e1, by rw [sizeLine_eq]; omega, same_up hp (h1.trans (s1.trans s4)), e3⟩
/-- a list of lists of ints -/
def LL (H : Hp) (l : Addr) (n : Nat) (f : Nat → List Int) : Prop := ∃ ps : List Addr, H l = some (.lst (ps.map V.ref)) ∧ ps.length = n ∧ ∀ j a, ps[j]? = some a → H a = some (.lst ((f j).map V.int))
theorem LL.keep {H' : Hp} {l : Addr} {n : Nat} {f : Nat → List Int} (t : LL H l n f) (s : Same H H') : LL H' l n f := by
  obtain ⟨ps, h1, h2, h3⟩ := t
  exact ⟨ps, s _ _ h1, h2, fun j a e => s _ _ (h3 j a e)⟩
theorem LL.nil {l : Addr} {f : Nat → List Int} (h : H l = some (.lst [])) : LL H l 0 f := ⟨[], h, rfl, fun j a e => by cases e⟩
theorem LL.snoc {l t : Addr} {n : Nat} {f : Nat → List Int} (x : LL H l n f) (h : H t = some (.lst ((f n).map V.int))) (ne : t ≠ l) : ∃ xs, H l = some (.lst xs) ∧ xs.length = n ∧ LL (upd H l (.lst (xs ++ [.ref t]))) l (n + 1) f := by
  obtain ⟨ps, h1, h2, h3⟩ := x
  have nl : ∀ {j : Nat} {a : Addr}, ps[j]? = some a → a ≠ l := fun {j a} e z => by
    have e2 := h3 j a e
    rw [z, h1] at e2
    have e3 : ps.map V.ref = (f j).map V.int := by injection e2 with e2; injection e2
    cases hp : ps with
    | nil => rw [hp] at e; cases e
    | cons b r =>
      rw [hp] at e3
      cases hf : f j with
      | nil => rw [hf] at e3; cases e3
      | cons z zs => rw [hf] at e3; injection e3 with e4; cases e4
  refine ⟨_, h1, by rw [List.length_map]; exact h2, ps ++ [t], by rw [upd_same, List.map_append]; rfl, by rw [List.length_append, h2]; rfl, fun j a e => ?_⟩
  by_cases hj : j < ps.length
  · rw [List.getElem?_append_left hj] at e
    rw [upd_ne (nl e)]; exact h3 j a e
  · rw [List.getElem?_append_right (by omega)] at e
    have hj2 : j - ps.length = 0 := by
      rcases Nat.eq_zero_or_pos (j - ps.length) with z | z
      · exact z
      · rw [List.getElem?_eq_none (by show 1 ≤ _; omega)] at e; cases e
    rw [hj2] at e
    have e2 : t = a := Option.some.inj e
    subst e2
    rw [upd_ne ne, show j = n by omega]; exact h
theorem LL.len {l : Addr} {n : Nat} {f : Nat → List Int} (x : LL H l n f) : ∃ xs, H l = some (.lst xs) ∧ xs.length = n := by
  obtain ⟨ps, h1, h2, h3⟩ := x
  exact ⟨_, h1, by rw [List.length_map]; exact h2⟩
theorem LL.all {l : Addr} {n : Nat} {f : Nat → List Int} (x : LL H l n f) : ∃ xs, H l = some (.lst xs) ∧ xs.length = n ∧ ∀ j v, xs[j]? = some v → ∃ a, v = .ref a ∧ H a = some (.lst ((f j).map V.int)) := by
  obtain ⟨ps, h1, h2, h3⟩ := x
  refine ⟨_, h1, by rw [List.length_map]; exact h2, fun j v e => ?_⟩
  rw [List.getElem?_map] at e
  cases ea : ps[j]? with
  | none => rw [ea] at e; cases e
  | some a => rw [ea] at e; exact ⟨a, (Option.some.inj e).symm, h3 j a ea⟩
theorem LL.get {l : Addr} {n j : Nat} {f : Nat → List Int} (x : LL H l n f) (hj : j < n) : ∃ xs a, H l = some (.lst xs) ∧ atI xs (j : Int) = some (.ref a) ∧ H a = some (.lst ((f j).map V.int)) := by
  obtain ⟨ps, h1, h2, h3⟩ := x
  have hj2 : j < ps.length := by omega
  refine ⟨_, ps[j], h1, atI_nat ?_, h3 j _ (List.getElem?_eq_getElem hj2)⟩
  rw [List.getElem?_map, List.getElem?_eq_getElem hj2]; rfl
theorem LL.congr {l : Addr} {n : Nat} {f g : Nat → List Int} (x : LL H l n f) (h : ∀ j, j < n → f j = g j) : LL H l n g := by
  obtain ⟨ps, h1, h2, h3⟩ := x
  refine ⟨ps, h1, h2, fun j a e => ?_⟩
  have hj : j < ps.length := by
    rcases Nat.lt_or_ge j ps.length with z | z
    · exact z
    · rw [List.getElem?_eq_none z] at e; cases e
  rw [← h j (by omega)]; exact h3 j a e
theorem dp_lists : ∀ (ps : List Addr) (g : Nat → List Int), (∀ j a, ps[j]? = some a → H a = some (.lst ((g j).map V.int))) → DpAll K H (ps.map V.ref) ((List.range ps.length).map fun j => PyData.list ((g j).map PyData.int))
  | [], _, _ => .nil
  | a :: ps, g, h => by
    rw [List.length_cons, List.range_succ_eq_map, List.map_cons, List.map_cons, List.map_map]
    exact .cons (.lst (SqL.of (h 0 a rfl)) (dpAll_int _)) (dp_lists ps (fun j => g (j + 1)) fun j b e => h (j + 1) b (by simpa using e))
theorem lay_lists : ∀ rows : List (List Int), PyData.canLayAll0 (rows.map fun r => PyData.list (r.map PyData.int)) = true ∧ PyData.depthAll (rows.map fun r => PyData.list (r.map PyData.int)) ≤ 1 ∧ PyData.eqvAll (rows.map fun r => PyData.list (r.map PyData.int)) (rows.map fun r => PyData.list (r.map PyData.int)) = true
  | [] => ⟨rfl, by simp [PyData.depthAll], by simp [PyData.eqvAll]⟩
  | r :: rows => by
    obtain ⟨h1, h2, h3⟩ := lay_lists rows
    refine ⟨by simp [PyData.canLayAll0, PyData.canLay0, canLay_ints, h1], ?_, ?_⟩
    · simp only [List.map_cons, PyData.depthAll, PyData.depth, depth_ints]; omega
    · simp [PyData.eqvAll, PyData.eqv, eqvAll_int, h3]
theorem LL.dp {l : Addr} {n : Nat} {f : Nat → List Int} (x : LL H l n f) : Dp K H (.ref l) (.list (((List.range n).map f).map fun r => PyData.list (r.map PyData.int))) := by
  obtain ⟨ps, h1, h2, h3⟩ := x
  have := dp_lists (K := K) ps f h3
  rw [h2] at this
  rw [List.map_map]
  exact .lst (SqL.of h1) this
theorem shaped_lists (rows : List (List Int)) : SeqAt.shaped (.list (rows.map fun r => PyData.list (r.map PyData.int))) = true := by
  obtain ⟨h1, h2, _⟩ := lay_lists rows
  unfold SeqAt.shaped
  simp only [PyData.canLay0, PyData.depth, h1, Bool.true_and]
  exact decide_eq_true (by omega)
theorem eqLL {l m : Addr} {n : Nat} {f : Nat → List Int} (x : LL H l n f) (y : LL H m n f) (q : Q (.bl true) H) : rEqD K (.ref l) (.ref m) H Q :=
  ⟨_, _, x.dp, y.dp, shaped_lists _, shaped_lists _, by rw [show PyData.eqv (.list (((List.range n).map f).map fun r => PyData.list (r.map PyData.int))) (.list (((List.range n).map f).map fun r => PyData.list (r.map PyData.int))) = true from (lay_lists _).2.2]; exact q⟩
/-- a comprehension whose turns make a list each -/
theorem lcLst {J : It} {n : Nat} {G : Hp → Prop} {Y : Nat → Hp → V → Hp → Prop} {g : TG} {vs : List Nat} (w : Walk J n G Y) (hn : n < 16777216) (f : Nat → List Int) (hG : ∀ H', Same H H' → G H') (hY : ∀ i H x H', Y i H x H' → Same H H')
    (hs : ∀ i x H1 H' (R : V → Hp → Prop) (R0 : Hp → Prop), i < n → Same H H1 → Y i H1 x H' → (∀ p H4, H' p = none → Same H' H4 → H4 p = some (.lst ((f i).map V.int)) → R (.ref p) H4) →
      g x (wipe σ vs) H' fun σ2 H2 => WP (wipe σ2 vs = wipe σ vs) (t σ2 H2 fun b H3 => IfP b (te σ2 H3 R) (R0 H3)))
    (q : ∀ p H2, H p = none → Same H H2 → LL H2 p n f → Q (.ref p) H2) : LcP J g t te vs σ Q H := fun p hp => by
  refine lc_it w (fun i H' => Same H H' ∧ LL H' p i f) ⟨same_new hp, LL.nil upd_same⟩ (fun i H' _ h => hG H' h.1) (fun i x H1 H' hi h y => ?_) (fun H' h => q p H' hp h.1 h.2)
  obtain ⟨h1, h2⟩ := h
  have s1 := hY i H1 x H' y
  refine hs i x H1 H' _ _ hi h1 y (fun a H4 hf s4 ha => ?_)
  obtain ⟨ys, hy, _⟩ := h2.len
  obtain ⟨xs, e1, e2, e3⟩ := (h2.keep (s1.trans s4)).snoc ha (ne_of_none (s1 _ _ hy) hf).symm
  exact ⟨xs, e1, by rw [sizeLine_eq]; omega, same_up hp (h1.trans (s1.trans s4)), e3⟩
theorem cutV_ints (xs : List Int) {b n : Nat} (h : b + n ≤ xs.length) : cutV (xs.map V.int) (some (b : Int)) (some ((b + n : Nat) : Int)) = ((xs.drop b).take n).map V.int := by
  unfold cutV
  rw [HT.sIx_nat, HT.sIx_nat, List.length_map, Nat.min_eq_left h, Nat.min_eq_left (show b ≤ xs.length by omega), Nat.add_sub_cancel_left, List.map_take, List.map_drop]
/-- a comprehension whose turns give ints that are told by a property alone -/
theorem lcInt {J : It} {n : Nat} {G : Hp → Prop} {Y : Nat → Hp → V → Hp → Prop} {g : TG} {vs : List Nat} (w : Walk J n G Y) (hn : n < 16777216) (P : Nat → Int → Prop) (hG : ∀ H', Same H H' → G H') (hY : ∀ i H x H', Y i H x H' → Same H H')
    (hs : ∀ i x H1 H' (R : V → Hp → Prop) (R0 : Hp → Prop), i < n → Same H H1 → Y i H1 x H' → (∀ z H4, P i z → Same H' H4 → R (.int z) H4) →
      g x (wipe σ vs) H' fun σ2 H2 => WP (wipe σ2 vs = wipe σ vs) (t σ2 H2 fun b H3 => IfP b (te σ2 H3 R) (R0 H3)))
    (q : ∀ (xs : List Int) (p : Addr) H2, xs.length = n → (∀ j z, xs[j]? = some z → P j z) → H p = none → Same H H2 → H2 p = some (.lst (xs.map V.int)) → Q (.ref p) H2) : LcP J g t te vs σ Q H := fun p hp => by
  refine lc_it w (fun i H' => Same H H' ∧ ∃ xs : List Int, xs.length = i ∧ (∀ j z, xs[j]? = some z → P j z) ∧ H' p = some (.lst (xs.map V.int))) ⟨same_new hp, [], rfl, (fun j z e => nomatch e), upd_same⟩ (fun i H' _ h => hG H' h.1) (fun i x H1 H' hi h y => ?_) (fun H' h => ?_)
  · obtain ⟨h1, xs, hl, hP, h2⟩ := h
    have s1 := hY i H1 x H' y
    refine hs i x H1 H' _ _ hi h1 y (fun z H4 hz s4 => ⟨_, s4 _ _ (s1 _ _ h2), by rw [List.length_map, hl, sizeLine_eq]; omega, same_up hp (h1.trans (s1.trans s4)), xs ++ [z], by rw [List.length_append, hl]; rfl, fun j u e => ?_, by rw [upd_same, List.map_append]; rfl⟩)
    by_cases hj : j < xs.length
    · rw [List.getElem?_append_left hj] at e; exact hP j u e
    · rw [List.getElem?_append_right (by omega)] at e
      have hj2 : j - xs.length = 0 := by
        rcases Nat.eq_zero_or_pos (j - xs.length) with c | c
        · exact c
        · rw [List.getElem?_eq_none (by show 1 ≤ _; omega)] at e; cases e
      rw [hj2] at e
      cases e
      rw [show j = i by omega]; exact hz
  · obtain ⟨h1, xs, hl, hP, h2⟩ := h
    exact q xs p H' hl hP hp h1 h2
/-- a comprehension over two ranges -/
def Lc2In (J1 : It) (g1 : TG) (tt1 : TT) (te : TE) (vs1 : List Nat) (D : Addr) (Nx : Hp → Prop) (σ2 : L2.St) (H4 : Hp) : Prop := ∃ W1 : Nat → Nat → Hp → Prop, (∃ m, W1 0 m H4) ∧ ∀ j k H, W1 j k H →
      (J1.stop j H ∧ Nx H) ∨ (J1.go j H ∧ ∃ Nx1 : Hp → Prop, (∀ H', Nx1 H' → ∃ k', k' < k ∧ W1 (j + 1) k' H') ∧ ∀ x H', J1.yld j H x H' → g1 x (wipe σ2 vs1) H' fun σ3 H5 => wipe σ3 vs1 = wipe σ2 vs1 ∧ tt1 σ3 H5 fun b H6 =>
        if b = true then te σ3 H6 fun y H7 => ∃ acc, H7 D = some (.lst acc) ∧ acc.length < sizeLine ∧ Nx1 (upd H7 D (.lst (acc ++ [y]))) else Nx1 H6)
def Lc2P (J : It) (g : TG) (tt : TT) (wi1 : TI) (g1 : TG) (tt1 : TT) (te : TE) (vs vs1 : List Nat) (σ : L2.St) (Q : VK) (H1 : Hp) : Prop := ∀ D, H1 D = none → ∃ W : Nat → Nat → Hp → Prop, (∃ m, W 0 m (upd H1 D (.lst []))) ∧ ∀ i m H, W i m H →
  (J.stop i H ∧ Q (.ref D) H) ∨ (J.go i H ∧ ∃ Nx : Hp → Prop, (∀ H', Nx H' → ∃ m', m' < m ∧ W (i + 1) m' H') ∧ ∀ x H', J.yld i H x H' → g x (wipe σ vs) H' fun σ2 H2 => wipe σ2 vs = wipe σ vs ∧ tt σ2 H2 fun b H3 =>
    if b = true then wi1 σ2 H3 fun J1 H4 => Lc2In J1 g1 tt1 te vs1 D Nx σ2 H4 else Nx H3)
theorem lc2 {wi wi1 : TI} {g g1 : TG} {tt tt1 : TT} {vs vs1 : List Nat} (q : wi σ H fun J H1 => Lc2P J g tt wi1 g1 tt1 te vs vs1 σ Q H1) : tLc2 wi g tt wi1 g1 tt1 te vs vs1 σ H Q := q
/-- what is made after i whole turns of the outer walk -/
def made (m : Nat) (f : Nat → Nat → V) (i : Nat) : List V := (List.range i).flatMap fun i => (List.range m).map (f i)
theorem made_len (m : Nat) (f : Nat → Nat → V) : ∀ i, (made m f i).length = i * m
  | 0 => by simp [made]
  | i + 1 => by
    have := made_len m f i
    unfold made at *
    rw [List.range_succ, List.flatMap_append, List.length_append, this, Nat.succ_mul]; simp
theorem made_succ (m : Nat) (f : Nat → Nat → V) (i : Nat) : made m f (i + 1) = made m f i ++ (List.range m).map (f i) := by
  unfold made
  rw [List.range_succ, List.flatMap_append]; simp
theorem lc2O {J : It} {n : Nat} {wi1 : TI} {g g1 : TG} {tt tt1 : TT} {vs vs1 : List Nat} {G : Hp → Prop} {Y : Nat → Hp → V → Hp → Prop} (w : Walk J n G Y) (Pv : Addr → Nat → Hp → Prop) (h0 : ∀ D, H D = none → Pv D 0 (upd H D (.lst []))) (hG : ∀ D i H', i ≤ n → Pv D i H' → G H')
    (hs : ∀ D i x H1 H', i < n → Pv D i H1 → Y i H1 x H' → g x (wipe σ vs) H' fun σ2 H2 => WP (wipe σ2 vs = wipe σ vs) (tt σ2 H2 fun b H3 => IfP b (wi1 σ2 H3 fun J1 H4 => Lc2In J1 g1 tt1 te vs1 D (Pv D (i + 1)) σ2 H4) (Pv D (i + 1) H3)))
    (hd : ∀ D H', H D = none → Pv D n H' → Q (.ref D) H') : Lc2P J g tt wi1 g1 tt1 te vs vs1 σ Q H := fun D hD => by
  refine ⟨fun i m H => m = n - i ∧ i ≤ n ∧ Pv D i H, ⟨n, by simp, Nat.zero_le _, h0 D hD⟩, ?_⟩
  rintro i m H' ⟨rfl, hi, p⟩
  have q := hG D i H' hi p
  by_cases hlt : i < n
  · refine .inr ⟨w.goes i H' hlt q, Pv D (i + 1), fun H' p' => ⟨n - (i + 1), by omega, rfl, hlt, p'⟩, fun x H2 y => hs D i x H' H2 hlt p (w.yields i H' x H2 hlt q y)⟩
  · have e : i = n := by omega
    subst e
    exact .inl ⟨w.stops H' q, hd D H' hD p⟩
theorem lc2I {J1 : It} {n : Nat} {g1 : TG} {tt1 : TT} {vs1 : List Nat} {D : Addr} {Nx : Hp → Prop} {G : Hp → Prop} {Y : Nat → Hp → V → Hp → Prop} (w : Walk J1 n G Y) (Pv : Nat → Hp → Prop) (h0 : Pv 0 H) (hG : ∀ i H', i ≤ n → Pv i H' → G H')
    (hs : ∀ i x H1 H', i < n → Pv i H1 → Y i H1 x H' → g1 x (wipe σ vs1) H' fun σ3 H5 => WP (wipe σ3 vs1 = wipe σ vs1) (tt1 σ3 H5 fun b H6 => IfP b (te σ3 H6 fun y H7 => ∃ acc, H7 D = some (.lst acc) ∧ acc.length < sizeLine ∧ Pv (i + 1) (upd H7 D (.lst (acc ++ [y])))) (Pv (i + 1) H6)))
    (hd : ∀ H', Pv n H' → Nx H') : Lc2In J1 g1 tt1 te vs1 D Nx σ H := by
  refine ⟨fun i m H => m = n - i ∧ i ≤ n ∧ Pv i H, ⟨n, by simp, Nat.zero_le _, h0⟩, ?_⟩
  rintro i m H' ⟨rfl, hi, p⟩
  have q := hG i H' hi p
  by_cases hlt : i < n
  · refine .inr ⟨w.goes i H' hlt q, Pv (i + 1), fun H' p' => ⟨n - (i + 1), by omega, rfl, hlt, p'⟩, fun x H2 y => hs i x H' H2 hlt p (w.yields i H' x H2 hlt q y)⟩
  · have e : i = n := by omega
    subst e
    exact .inl ⟨w.stops H' q, hd H' p⟩
theorem slL {a : Addr} {xs : List V} {lo hi : Option Int} (h : SqL K H a xs) (q : ∀ p, H p = none → Q (.ref p) (upd H p (.lst (cutV xs lo hi)))) : rSlL K (.ref a) lo hi H Q := ⟨a, xs, rfl, h, q⟩
theorem up_seq {p l : Addr} {xs : List V} {o : HO} (h : SqL K H p xs) (hl : H l = none) : SqL K (upd H l o) p xs := (same_new hl).seq h
end
section
variable {X : Cx}
theorem o_rep : OpR X (binaryOp .Mult) rRepN := op_rep
theorem pget_list : PGet X (rGetN X.K) := by
  intro pins s σ H o i ov iv Q I ro ri h
  obtain ⟨p, xs, k, v, rfl, rfl, hq, hk, hx, q⟩ := h
  cases ro
  obtain ⟨t, rfl⟩ := ri
  obtain ⟨its, r, pl, hz⟩ := I.list hq
  obtain ⟨w, ew, rw'⟩ := r.get hx
  exact wpAny_getItem_list pl.isList (by omega) (by omega) (by rw [Int.toNat_natCast]; simpa using ew) ⟨v, H, I, rw', q⟩
theorem o_addS : OpR X (binaryOp .Add) rCatS := op_add_str
theorem o_ltS : OpR X (compareOp .Lt) rLtS := op_lt_str
theorem c_intS : CallR X (.type "int") rIntS := call_int_str
theorem c_min2 (hc : X.calm = true) : CallR X (.builtin "min") rMin2 := call_min2 hc
theorem c_max2 (hc : X.calm = true) : CallR X (.builtin "max") rMax2 := call_max2 hc
theorem c_divmod : CallR X (.builtin "divmod") rDivmod := call_divmod
theorem c_list : CallR X (.type "list") (rList X.K) := call_list_of
theorem c_listK {K : PySem.W.Frag} (h : X.K = K) : CallR X (.type "list") (rList K) := by subst h; exact call_list_of
theorem c_isiK {K : PySem.W.Frag} (h : X.K = K) : CallR X (.builtin "isinstance") (rIsi K) := by subst h; exact call_isi
theorem c_lenK {K : PySem.W.Frag} (h : X.K = K) : CallR X (.builtin "len") (rLen K) := by subst h; exact call_len
theorem ix_seqK {K : PySem.W.Frag} (h : X.K = K) : IxR X (rIx K) := by subst h; exact ix_seq
theorem sl_listK {K : PySem.W.Frag} (h : X.K = K) : SlR X (rSlL K) := by subst h; exact sl_list
theorem pe_fldK {K : PySem.W.Frag} {e : Expr} {ta : TE} {f : Str} {pos : Pos} (h : X.K = K) (he : PE X e ta) (hb : attributeBase e f X.env (eval e X.env) = eval e X.env) : PE X (.Attribute e f pos) (tFld K ta f) := by subst h; exact pe_fld he hb
theorem c_int : CallR X (.type "int") rInt1 := call_int1
theorem c_abs : CallR X (.builtin "abs") rAbs := call_abs
theorem c_strI : CallR X (.type "str") rStrI := call_str_int
theorem c_len : CallR X (.builtin "len") (rLen X.K) := call_len
end
end Gx
local macro_rules | `(tactic| walk_at "few") => `(tactic| (refine Nat.lt_of_le_of_lt (m := 30) ?_ (by decide); repeat (first | exact Nat.zero_le _ | refine Gx.few ?_)))
local macro_rules | `(tactic| walk_at "side") => `(tactic| ((try dsimp only [L2.CMul, L2.CDiv, L2.CPow, L2.CDivN]); first | omega | decide | assumption))
local macro_rules | `(tactic| walk_at "go1") => `(tactic| (first
  | with_reducible refine Gx.seq ?_
  | with_reducible refine Gx.asg ?_
  | with_reducible refine Gx.op ?_
  | ((with_reducible refine' Gx.var ?h0 ?_); (case h0 => rfl))
  | with_reducible refine Gx.cst ?_
  | with_reducible refine Gx.i0 ?_
  | with_reducible refine Gx.name ?_
  | with_reducible refine Gx.cons ?_
  | with_reducible refine Gx.nil ?_
  | with_reducible refine Gx.call ?_
  | with_reducible refine Gx.cb ?_
  | with_reducible refine Gx.int1 ?_
  | with_reducible refine Gx.intB ?_
  | with_reducible refine Gx.abs1 ?_
  | with_reducible refine Gx.un ?_
  | with_reducible refine Gx.uu ?_
  | with_reducible refine Gx.ifs ?_
  | with_reducible refine Gx.ifx ?_
  | with_reducible refine Gx.test ?_
  | with_reducible refine Gx.tB ?_
  | with_reducible refine Gx.tb_go ?_
  | with_reducible refine Gx.bv_go ?_
  | with_reducible refine Gx.and_ ?_
  | with_reducible refine Gx.or_ ?_
  | with_reducible refine Gx.not_ ?_
  | with_reducible refine Gx.andV ?_
  | with_reducible refine Gx.m1 ?_
  | with_reducible refine Gx.m1s ?_
  | with_reducible refine Gx.orW ?_
  | with_reducible refine Gx.andW ?_
  | with_reducible refine Gx.orV ?_
  | with_reducible refine Gx.notV ?_
  | with_reducible refine Gx.eqvI ?_
  | with_reducible refine Gx.nevI ?_
  | with_reducible refine Gx.eqvS ?_
  | with_reducible refine Gx.eqvB ?_
  | with_reducible refine Gx.ltS ?_
  | with_reducible refine Gx.nevS ?_
  | with_reducible refine Gx.ret ?_
  | with_reducible refine Gx.retN ?_
  | with_reducible refine Gx.drop ?_
  | with_reducible refine Gx.next ?_
  | with_reducible refine Gx.brk ?_
  | with_reducible refine Gx.cnt ?_
  | with_reducible refine Gx.if_t ?_
  | with_reducible refine Gx.if_f ?_
  | with_reducible refine Gx.if_nt ?_
  | with_reducible refine Gx.whI_t ?_
  | with_reducible refine Gx.whI_f ?_
  | with_reducible refine Gx.if_nf ?_
  | with_reducible refine Gx.for_ ?_
  | with_reducible refine Gx.rng1 ?_
  | with_reducible refine Gx.rng2 ?_
  | with_reducible refine Gx.rng3 ?_
  | with_reducible refine Gx.lwk ?_
  | with_reducible refine Gx.twk ?_
  | with_reducible refine Gx.lst ?_
  | with_reducible refine Gx.tup ?_
  | with_reducible refine Gx.bm ?_
  | with_reducible refine Gx.lc ?_
  | with_reducible refine Gx.lc2 ?_
  | with_reducible refine Gx.gcons ?_
  | with_reducible refine Gx.gnil ?_
  | with_reducible refine Gx.strw ?_
  | with_reducible refine Gx.strp ?_
  | with_reducible refine Gx.fld ?_
  | with_reducible refine Gx.sfld ?_
  | with_reducible refine Gx.meth ?_
  | with_reducible refine Gx.make ?_
  | with_reducible refine Gx.augS ?_
  | with_reducible refine Gx.sub ?_
  | with_reducible refine Gx.slc ?_
  | with_reducible refine Gx.noP ?_
  | with_reducible refine Gx.part ?_
  | with_reducible refine Gx.ptp ?_
  | with_reducible refine Gx.sbp ?_
  | ((with_reducible refine' Gx.wp ?h0 ?_); (case h0 => rfl))
  | with_reducible refine Gx.yes ?_
  | with_reducible refine Gx.rrv ?_
  | with_reducible refine Gx.rg1 ?_
  | with_reducible refine Gx.rg1p ?_
  | ((with_reducible refine' Gx.aug ?h0 ?_); (case h0 => rfl))
  | with_reducible refine Gx.augI ?_))
local macro_rules | `(tactic| walk_at "go") => `(tactic| repeat walk_at "go1")

namespace Bs
open PySem L2
/-- a bit string as a text of the signs 0 and 1 -/
def cd (b : Bool) : Nat := if b then 49 else 48
def S (bs : List Bool) : Str := ⟨(bs.map cd).toArray⟩
theorem cd_inj {a b : Bool} (h : cd a = cd b) : a = b := by cases a <;> cases b <;> first | rfl | (exact absurd h (by decide))
theorem len (bs : List Bool) : (S bs).length = bs.length := by simp [S, Str.length]
theorem cat (a b : List Bool) : S a ++ S b = S (a ++ b) := by
  show Str.mk ((a.map cd).toArray ++ (b.map cd).toArray) = Str.mk ((a ++ b).map cd).toArray
  rw [List.map_append]; simp
theorem inj {a b : List Bool} : S a = S b ↔ a = b := by
  constructor
  · intro h
    have h2 : a.map cd = b.map cd := congrArg (fun x : Str => x.cps.toList) h
    exact List.map_inj_right (f := cd) (fun _ _ => cd_inj) |>.mp h2
  · intro h; rw [h]
theorem lit0 : Str.ofString "0" = S [false] := by decide +kernel
theorem lit1 : Str.ofString "1" = S [true] := by decide +kernel
theorem lit11 : Str.ofString "11" = S [true, true] := by decide +kernel
theorem lit_ : Str.ofString "" = S [] := by decide +kernel
theorem eq1 (b : Bool) : decide (S [b] = Str.ofString "1") = b := by
  rw [lit1]; cases b
  · exact decide_eq_false (fun h => absurd (inj.mp h) (by decide))
  · exact decide_eq_true rfl
theorem eq0 (b : Bool) : decide (S [b] = Str.ofString "0") = !b := by
  rw [lit0]; cases b
  · exact decide_eq_true rfl
  · exact decide_eq_false (fun h => absurd (inj.mp h) (by decide))
theorem at_ {bs : List Bool} {i : Nat} (h : i < bs.length) : atI (S bs).cps.toList (i : Int) = some (cd (bs.getD i false)) := by
  refine atI_nat ?_
  show (bs.map cd)[i]? = _
  rw [List.getElem?_map, List.getElem?_eq_getElem h]
  simp [List.getD_eq_getElem?_getD, List.getElem?_eq_getElem h]
theorem get_ {bs : List Bool} {i : Nat} (h : i < bs.length) : (S bs).cps[i]? = some (cd (bs.getD i false)) := by
  show ((bs.map cd).toArray)[i]? = _
  rw [List.getElem?_toArray, List.getElem?_map, List.getElem?_eq_getElem h]
  simp [List.getD_eq_getElem?_getD, List.getElem?_eq_getElem h]
section
variable {K : PySem.W.Frag} {H : Hp} {Q : VK}
theorem ix {bs : List Bool} {i : Int} (h0 : 0 ≤ i) (h1 : i < bs.length) (hz : bs.length ≤ 16777216) (q : Q (.str (S [bs.getD i.toNat false])) H) : rIx K (.str (S bs)) (.int i) H Q := by
  have e : i = (i.toNat : Int) := by omega
  rw [e]
  refine Gx.ixS (by rw [len, sizeLine_eq]; exact hz) (at_ (by omega)) ?_
  exact q
theorem lenB {bs : List Bool} (hz : bs.length ≤ 16777216) (q : Q (.int (bs.length : Nat)) H) : Gx.rLen K [.str (S bs)] H Q := by
  refine Gx.lenS (by rw [len, sizeLine_eq]; exact hz) ?_
  rw [len]; exact q
theorem strbit {r : Int} (h : r = 0 ∨ r = 1) (q : ∀ c : Bool, c = decide (r = 1) → Q (.str (S [c])) H) : Gx.rStrI [.int r] H Q := by
  rcases h with h | h
  · subst h
    refine Gx.strI (by decide) ?_
    rw [show (toString (0 : Int) : Str) = S [false] by decide +kernel]
    exact q _ rfl
  · subst h
    refine Gx.strI (by decide) ?_
    rw [show (toString (1 : Int) : Str) = S [true] by decide +kernel]
    exact q _ rfl
end
/-- a bit string, bit by bit -/
theorem walk {bs : List Bool} : Walk (Its (S bs)) bs.length (fun _ => True) (fun i H v H' => H' = H ∧ v = .str (S [bs.getD i false])) := by
  have e : (S bs).cps.size = bs.length := len bs
  refine ⟨fun i H hi _ => ?_, fun H _ => ?_, fun i H v H' hi _ y => ?_⟩
  · show i < (S bs).cps.size; omega
  · show (S bs).cps.size ≤ bs.length; omega
  · obtain ⟨h1, c, hc, rfl⟩ := y
    refine ⟨h1, ?_⟩
    have h := get_ hi
    rw [hc] at h
    rw [Option.some.inj h]; rfl
theorem cut_hi (bs : List Bool) (n : Nat) : cutS (S bs) none (some (n : Int)) = S (bs.take n) := by
  unfold cutS
  have e1 : HT.sIx (S bs).length 0 none = 0 := rfl
  have e2 : HT.sIx (S bs).length (S bs).length (some (n : Int)) = min n bs.length := by
    rw [len]; unfold HT.sIx
    first
      | omega
      | (simp only []; split <;> omega)
      | (split <;> omega)
  rw [e1, e2]
  show Str.mk (List.take (min n bs.length - 0) ((bs.map cd).drop 0)).toArray = Str.mk ((bs.take n).map cd).toArray
  rw [List.drop_zero, Nat.sub_zero, ← List.map_take]
  congr 3
  rw [← List.take_take, List.take_length]
theorem cut_lo (bs : List Bool) (n : Nat) : cutS (S bs) (some (n : Int)) none = S (bs.drop n) := by
  unfold cutS
  have e1 : HT.sIx (S bs).length 0 (some (n : Int)) = min n bs.length := by
    rw [len]; unfold HT.sIx
    first
      | omega
      | (simp only []; split <;> omega)
      | (split <;> omega)
  have e2 : HT.sIx (S bs).length (S bs).length none = bs.length := by rw [len]; rfl
  rw [e1, e2]
  show Str.mk (List.take (bs.length - min n bs.length) ((bs.map cd).drop (min n bs.length))).toArray = Str.mk ((bs.drop n).map cd).toArray
  rw [← List.map_drop, ← List.map_take]
  congr 3
  by_cases h : n ≤ bs.length
  · rw [Nat.min_eq_left h, List.take_of_length_le (by rw [List.length_drop]; omega)]
  · rw [Nat.min_eq_right (by omega), List.drop_eq_nil_of_le (Nat.le_refl _), List.drop_eq_nil_of_le (by omega), List.take_nil]
end Bs

namespace Cx_
open PySem L2
def bt (bs : List Bool) (i : Int) : Bool := bs.getD i.toNat false
/-- the context of a place (the document's four neighbours) -/
def ctx (w : Nat) (bs : List Bool) (n : Nat) : Nat :=
  (if n % w ≠ 0 ∧ bs.getD (n - 1) false = true then 1 else 0) + (if w ≤ n then (if n % w ≠ 0 ∧ bs.getD (n - w - 1) false = true then 2 else 0) + (if bs.getD (n - w) false = true then 4 else 0) + (if n % w < w - 1 ∧ bs.getD (n - w + 1) false = true then 8 else 0) else 0)
theorem ctx_lt (w : Nat) (bs : List Bool) (n : Nat) : ctx w bs n < 16 := by
  unfold ctx
  split <;> split <;> (try split) <;> (try split) <;> (try split) <;> omega
/-- it hangs on the bits before the place alone -/
theorem ctx_same {w n : Nat} {bs cs : List Bool} (hw : 0 < w) (h : ∀ i, i < n → bs.getD i false = cs.getD i false) : ctx w bs n = ctx w cs n := by
  unfold ctx
  by_cases h0 : n = 0
  · subst h0
    simp [Nat.zero_mod, show ¬ w = 0 by omega]
  rw [h (n - 1) (by omega)]
  by_cases hwn : w ≤ n
  · rw [if_pos hwn, if_pos hwn, h (n - w - 1) (by omega), h (n - w) (by omega)]
    by_cases hc : n % w < w - 1
    · rw [h (n - w + 1) (by omega)]
    · rw [if_neg (c := n % w < w - 1 ∧ bs.getD (n - w + 1) false = true) (fun z => hc z.1), if_neg (c := n % w < w - 1 ∧ cs.getD (n - w + 1) false = true) (fun z => hc z.1)]
  · rw [if_neg hwn, if_neg hwn]
theorem getD_take {bs : List Bool} {n i : Nat} (h : i < n) : (bs.take n).getD i false = bs.getD i false := by
  rw [List.getD_eq_getElem?_getD, List.getD_eq_getElem?_getD, List.getElem?_take_of_lt h]
theorem ctx_take {w n : Nat} {bs : List Bool} (hw : 0 < w) (hn : n ≤ bs.length) : ctx w (bs.take n) n = ctx w bs n := ctx_same hw fun i h => getD_take h
theorem ctx_more {w n : Nat} {bs cs : List Bool} (hw : 0 < w) (hn : n ≤ bs.length) : ctx w (bs.take n ++ cs) n = ctx w bs n := ctx_same hw fun i h => by
  rw [List.getD_eq_getElem?_getD, List.getElem?_append_left (by rw [List.length_take]; omega), ← List.getD_eq_getElem?_getD, getD_take h]
end Cx_

namespace Iv
open PySem L2 Cx_
/-- how often the bit b came in the context c before place n -/
def cnt (w : Nat) (bs : List Bool) (b : Bool) : Nat → Nat → Nat
  | 0, _ => 0
  | n + 1, c => cnt w bs b n c + if ctx w bs n = c ∧ bs.getD n false = b then 1 else 0
/-- the interval of the first n bits: low, size, whole -/
def iv (w : Nat) (bs : List Bool) : Nat → Nat × Nat × Nat
  | 0 => (0, 1, 1)
  | n + 1 =>
    let l := (iv w bs n).1
    let s := (iv w bs n).2.1
    let h := (iv w bs n).2.2
    let z := 1 + cnt w bs false n (ctx w bs n)
    let o := 1 + cnt w bs true n (ctx w bs n)
    if bs.getD n false = true then (l * (z + o) + s * z, s * o, h * (z + o)) else (l * (z + o), s * z, h * (z + o))
theorem cnt_le (w : Nat) (bs : List Bool) (b : Bool) : ∀ n c, cnt w bs b n c ≤ n
  | 0, _ => Nat.le_refl _
  | n + 1, c => by
    have h := cnt_le w bs b n c
    unfold cnt
    split <;> omega
theorem cnt_same {w : Nat} {bs cs : List Bool} {b : Bool} (hw : 0 < w) : ∀ n c, (∀ i, i < n → bs.getD i false = cs.getD i false) → cnt w bs b n c = cnt w cs b n c
  | 0, _, _ => rfl
  | n + 1, c, h => by
    unfold cnt
    rw [cnt_same hw n c fun i hi => h i (by omega), ctx_same hw fun i hi => h i (by omega), h n (by omega)]
theorem iv_same {w : Nat} {bs cs : List Bool} (hw : 0 < w) : ∀ n, (∀ i, i < n → bs.getD i false = cs.getD i false) → iv w bs n = iv w cs n
  | 0, _ => rfl
  | n + 1, h => by
    unfold iv
    rw [iv_same hw n fun i hi => h i (by omega), cnt_same hw n _ fun i hi => h i (by omega), cnt_same hw n _ fun i hi => h i (by omega), ctx_same hw fun i hi => h i (by omega), h n (by omega)]
theorem getD_app {bs cs : List Bool} {i : Nat} (h : i < bs.length) : (bs ++ cs).getD i false = bs.getD i false := by
  rw [List.getD_eq_getElem?_getD, List.getElem?_append_left h, ← List.getD_eq_getElem?_getD]
theorem getD_len {bs cs : List Bool} {b : Bool} : (bs ++ b :: cs).getD bs.length false = b := by
  rw [List.getD_eq_getElem?_getD, List.getElem?_append_right (Nat.le_refl _), Nat.sub_self]; rfl
/-- the counts of one context after all of some bits -/
def zs (w : Nat) (bs : List Bool) (c : Nat) : Nat := 1 + cnt w bs false bs.length c
def os (w : Nat) (bs : List Bool) (c : Nat) : Nat := 1 + cnt w bs true bs.length c
def lo (w : Nat) (bs : List Bool) : Nat := (iv w bs bs.length).1
def sz (w : Nat) (bs : List Bool) : Nat := (iv w bs bs.length).2.1
def wh (w : Nat) (bs : List Bool) : Nat := (iv w bs bs.length).2.2
/-- the context of the next bit -/
def nx (w : Nat) (bs : List Bool) : Nat := ctx w bs bs.length
def both (w : Nat) (bs : List Bool) : Nat := zs w bs (nx w bs) + os w bs (nx w bs)
section
variable {w : Nat} {bs : List Bool} {b : Bool} (hw : 0 < w)
include hw
theorem app_same (cs : List Bool) : ∀ i, i < bs.length → (bs ++ cs).getD i false = bs.getD i false := fun i hi => getD_app hi
theorem cnt_app (c : Nat) (b' : Bool) : cnt w (bs ++ [b]) b' (bs ++ [b]).length c = cnt w bs b' bs.length c + if nx w bs = c ∧ b = b' then 1 else 0 := by
  rw [List.length_append, List.length_singleton]
  show cnt w (bs ++ [b]) b' bs.length c + (if ctx w (bs ++ [b]) bs.length = c ∧ (bs ++ [b]).getD bs.length false = b' then 1 else 0) = _
  rw [cnt_same hw _ c (app_same hw [b]), ctx_same hw (app_same hw [b]), getD_len]; rfl
theorem zs_app (c : Nat) : zs w (bs ++ [b]) c = zs w bs c + if nx w bs = c ∧ b = false then 1 else 0 := by
  unfold zs; rw [cnt_app hw]; omega
theorem os_app (c : Nat) : os w (bs ++ [b]) c = os w bs c + if nx w bs = c ∧ b = true then 1 else 0 := by
  unfold os; rw [cnt_app hw]; omega
theorem iv_app : iv w (bs ++ [b]) (bs ++ [b]).length = if b = true then (lo w bs * both w bs + sz w bs * zs w bs (nx w bs), sz w bs * os w bs (nx w bs), wh w bs * both w bs) else (lo w bs * both w bs, sz w bs * zs w bs (nx w bs), wh w bs * both w bs) := by
  rw [List.length_append, List.length_singleton]
  rw [iv, iv_same hw bs.length (app_same hw [b]), cnt_same hw _ _ (app_same hw [b]), cnt_same hw _ _ (app_same hw [b]), ctx_same hw (app_same hw [b]), getD_len]
  rfl
theorem lo_app : lo w (bs ++ [b]) = lo w bs * both w bs + if b = true then sz w bs * zs w bs (nx w bs) else 0 := by
  unfold lo; rw [iv_app hw]; cases b <;> simp [lo]
theorem sz_app : sz w (bs ++ [b]) = if b = true then sz w bs * os w bs (nx w bs) else sz w bs * zs w bs (nx w bs) := by
  unfold sz; rw [iv_app hw]; cases b <;> simp [sz]
theorem wh_app : wh w (bs ++ [b]) = wh w bs * both w bs := by
  unfold wh; rw [iv_app hw]; cases b <;> simp [wh]
end
/-- the lists of counts as they stand -/
def zl (w : Nat) (bs : List Bool) : List V := (List.range 16).map fun c => .int (zs w bs c : Nat)
def ol (w : Nat) (bs : List Bool) : List V := (List.range 16).map fun c => .int (os w bs c : Nat)
theorem zl_get {w : Nat} {bs : List Bool} {c : Nat} (h : c < 16) : (zl w bs)[c]? = some (.int (zs w bs c : Nat)) := by
  unfold zl; rw [List.getElem?_map, List.getElem?_range h]; rfl
theorem ol_get {w : Nat} {bs : List Bool} {c : Nat} (h : c < 16) : (ol w bs)[c]? = some (.int (os w bs c : Nat)) := by
  unfold ol; rw [List.getElem?_map, List.getElem?_range h]; rfl
theorem set_map {f g : Nat → V} {n k : Nat} {v : V} (hk : g k = v) (h : ∀ c, c ≠ k → g c = f c) : ((List.range n).map f).set k v = (List.range n).map g := by
  apply List.ext_getElem?
  intro i
  rw [List.getElem?_set, List.getElem?_map, List.getElem?_map, List.length_map, List.length_range]
  by_cases hi : k = i
  · subst hi
    rw [if_pos rfl]
    by_cases hn : k < n
    · rw [if_pos hn, List.getElem?_range hn]; rw [← hk]; rfl
    · rw [if_neg hn, List.getElem?_eq_none (by rw [List.length_range]; omega)]; rfl
  · rw [if_neg hi]
    by_cases hn : i < n
    · rw [List.getElem?_range hn]; simp only [Option.map_some]; rw [h i (Ne.symm hi)]
    · rw [List.getElem?_eq_none (by rw [List.length_range]; omega)]; rfl
theorem zl_app0 {w : Nat} {bs : List Bool} (hw : 0 < w) : (zl w bs).set (nx w bs) (.int ((zs w bs (nx w bs) : Nat) + 1)) = zl w (bs ++ [false]) :=
  set_map (by rw [zs_app hw, if_pos ⟨rfl, rfl⟩]; rfl) fun c hc => by rw [zs_app hw, if_neg (fun z => hc z.1.symm)]; rfl
theorem zl_app1 {w : Nat} {bs : List Bool} (hw : 0 < w) : zl w bs = zl w (bs ++ [true]) :=
  List.map_congr_left fun c _ => by rw [zs_app hw, if_neg (fun z => absurd z.2 (by decide))]; rfl
theorem ol_app1 {w : Nat} {bs : List Bool} (hw : 0 < w) : (ol w bs).set (nx w bs) (.int ((os w bs (nx w bs) : Nat) + 1)) = ol w (bs ++ [true]) :=
  set_map (by rw [os_app hw, if_pos ⟨rfl, rfl⟩]; rfl) fun c hc => by rw [os_app hw, if_neg (fun z => hc z.1.symm)]; rfl
theorem ol_app0 {w : Nat} {bs : List Bool} (hw : 0 < w) : ol w bs = ol w (bs ++ [false]) :=
  List.map_congr_left fun c _ => by rw [os_app hw, if_neg (fun z => absurd z.2 (by decide))]; rfl
theorem nil_zl (w : Nat) : List.replicate 16 (V.int 1) = zl w [] := rfl
theorem nil_ol (w : Nat) : List.replicate 16 (V.int 1) = ol w [] := rfl
theorem zs_le (w : Nat) (bs : List Bool) (c : Nat) : 1 ≤ zs w bs c ∧ zs w bs c ≤ bs.length + 1 := by
  have := cnt_le w bs false bs.length c
  unfold zs; omega
theorem os_le (w : Nat) (bs : List Bool) (c : Nat) : 1 ≤ os w bs c ∧ os w bs c ≤ bs.length + 1 := by
  have := cnt_le w bs true bs.length c
  unfold os; omega
section
variable {w n : Nat} {bs : List Bool}
theorem take_same (i : Nat) (h : i < n) : (bs.take n).getD i false = bs.getD i false := getD_take h
theorem nx_take (hw : 0 < w) (hn : n ≤ bs.length) : nx w (bs.take n) = ctx w bs n := by
  unfold nx; rw [List.length_take, Nat.min_eq_left hn]; exact ctx_take hw hn
theorem zs_take (hw : 0 < w) (hn : n ≤ bs.length) (c : Nat) : zs w (bs.take n) c = 1 + cnt w bs false n c := by
  unfold zs; rw [List.length_take, Nat.min_eq_left hn, cnt_same hw n c fun i hi => take_same i hi]
theorem os_take (hw : 0 < w) (hn : n ≤ bs.length) (c : Nat) : os w (bs.take n) c = 1 + cnt w bs true n c := by
  unfold os; rw [List.length_take, Nat.min_eq_left hn, cnt_same hw n c fun i hi => take_same i hi]
/-- counts from 0, as a list -/
def cl (w : Nat) (bs : List Bool) (b : Bool) (n : Nat) : List V := (List.range 16).map fun c => .int (cnt w bs b n c : Nat)
theorem cl_at {w : Nat} {bs : List Bool} {b : Bool} {n c : Nat} (h : c < 16) : atI (cl w bs b n) (c : Int) = some (.int (cnt w bs b n c : Nat)) := by
  refine atI_nat ?_
  unfold cl; rw [List.getElem?_map, List.getElem?_range h]; rfl
theorem cl_set {b : Bool} (hb : bs.getD n false = b) : (cl w bs b n).set (ctx w bs n) (.int ((cnt w bs b n (ctx w bs n) : Nat) + 1)) = cl w bs b (n + 1) :=
  set_map (by show V.int ((cnt w bs b n (ctx w bs n) + if ctx w bs n = ctx w bs n ∧ bs.getD n false = b then 1 else 0 : Nat) : Int) = _; rw [if_pos ⟨rfl, hb⟩]; rfl)
    fun c hc => by show V.int ((cnt w bs b n c + if ctx w bs n = c ∧ bs.getD n false = b then 1 else 0 : Nat) : Int) = _; rw [if_neg (fun z => hc z.1.symm)]; rfl
theorem cl_keep {b : Bool} (hb : ¬ bs.getD n false = b) : cl w bs b n = cl w bs b (n + 1) :=
  List.map_congr_left fun c _ => by show _ = V.int ((cnt w bs b n c + if ctx w bs n = c ∧ bs.getD n false = b then 1 else 0 : Nat) : Int); rw [if_neg (fun z => hb z.2)]; rfl
theorem ixN_nat {n j : Nat} (hj : j < n) : ixN n (j : Int) = some j := by
  unfold ixN
  rw [if_pos (by omega), if_pos (by omega)]
  simp
theorem cl_len {b : Bool} : (cl w bs b n).length = 16 := by unfold cl; rw [List.length_map, List.length_range]
end
theorem iv_one {w n : Nat} {bs : List Bool} (h : bs.getD n false = true) :
    (((iv w bs (n + 1)).1 : Nat) : Int) = ((iv w bs n).1 : Nat) * (((cnt w bs false n (ctx w bs n) : Nat) : Int) + (cnt w bs true n (ctx w bs n) : Nat) + 2) + ((iv w bs n).2.1 : Nat) * (((cnt w bs false n (ctx w bs n) : Nat) : Int) + 1) ∧
    (((iv w bs (n + 1)).2.1 : Nat) : Int) = ((iv w bs n).2.1 : Nat) * (((cnt w bs true n (ctx w bs n) : Nat) : Int) + 1) ∧
    (((iv w bs (n + 1)).2.2 : Nat) : Int) = ((iv w bs n).2.2 : Nat) * (((cnt w bs false n (ctx w bs n) : Nat) : Int) + (cnt w bs true n (ctx w bs n) : Nat) + 2) := by
  have e : ∀ a b : Nat, (((1 + a + (1 + b) : Nat)) : Int) = (a : Int) + (b : Int) + 2 := fun a b => by omega
  have e1 : ∀ a : Nat, (((1 + a : Nat)) : Int) = (a : Int) + 1 := fun a => by omega
  rw [iv, if_pos h]
  simp only []
  rw [Int.natCast_add, Int.natCast_mul, Int.natCast_mul, Int.natCast_mul, Int.natCast_mul, e, e1, e1]
  exact ⟨rfl, rfl, rfl⟩
theorem iv_zero {w n : Nat} {bs : List Bool} (h : ¬ bs.getD n false = true) :
    (((iv w bs (n + 1)).1 : Nat) : Int) = ((iv w bs n).1 : Nat) * (((cnt w bs false n (ctx w bs n) : Nat) : Int) + (cnt w bs true n (ctx w bs n) : Nat) + 2) ∧
    (((iv w bs (n + 1)).2.1 : Nat) : Int) = ((iv w bs n).2.1 : Nat) * (((cnt w bs false n (ctx w bs n) : Nat) : Int) + 1) ∧
    (((iv w bs (n + 1)).2.2 : Nat) : Int) = ((iv w bs n).2.2 : Nat) * (((cnt w bs false n (ctx w bs n) : Nat) : Int) + (cnt w bs true n (ctx w bs n) : Nat) + 2) := by
  have e : ∀ a b : Nat, (((1 + a + (1 + b) : Nat)) : Int) = (a : Int) + (b : Int) + 2 := fun a b => by omega
  have e1 : ∀ a : Nat, (((1 + a : Nat)) : Int) = (a : Int) + 1 := fun a => by omega
  rw [iv, if_neg h]
  simp only []
  rw [Int.natCast_mul, Int.natCast_mul, Int.natCast_mul, e, e1]
  exact ⟨rfl, rfl, rfl⟩
end Iv

namespace Fb
open PySem PySem.W PySem.Builtin PyProof.Rows PySem.Calls
/-! a number's binary digits by its format, as the model lays them -/
def ds (n : Int) : List Nat := (Nat.toDigits 2 n.natAbs).map fun c => (if (98 : Nat) == 88 then c.toUpper else c).toNat
def sg (n : Int) : List Nat := if decide (n < 0) = true then [45] else []
def dd (n : Int) : List Nat := if (ds n).isEmpty then [] else List.replicate (Int.toNat 0 - (ds n).length) 48 ++ ds n
def pad (n : Int) : Nat := ((-1 : Int) - (((sg n).length : Int) + (([] : List Nat).length : Int) + (([] : List Nat).length : Int)) - ((dd n).length : Int)).toNat
def X (n : Int) : Str := ⟨(List.replicate (pad n) 32 ++ sg n ++ [] ++ List.replicate 0 32 ++ dd n ++ [] ++ List.replicate 0 32).toArray⟩
theorem fmt_eq (n : Int) (t u : Tok) : «int.__format__» ⟨[.int n t, .str (Str.ofString "b") u], []⟩ = retStr (X n) := by kernel_rfl
theorem ds_nat (n : Nat) : ds (n : Int) = (Nat.toDigits 2 n).map Char.toNat := by
  unfold ds; rw [Int.natAbs_natCast]; rfl
/-- the k lowest binary digits of r, the highest first -/
def bin : Nat → Nat → List Bool
  | 0, _ => []
  | k + 1, r => bin k (r / 2) ++ [decide (r % 2 = 1)]
theorem bin_len : ∀ k r, (bin k r).length = k
  | 0, _ => rfl
  | k + 1, r => by unfold bin; rw [List.length_append, bin_len k]; rfl
theorem dig01 (r : Nat) : [(r % 2).digitChar].map Char.toNat = [decide (r % 2 = 1)].map Bs.cd := by
  have h : r % 2 = 0 ∨ r % 2 = 1 := by omega
  rcases h with h | h <;> rw [h] <;> decide
theorem ds_led : ∀ (k r : Nat), r < 2 ^ k → (Nat.toDigits 2 (2 ^ k + r)).map Char.toNat = (true :: bin k r).map Bs.cd
  | 0, r, h => by
    have e : r = 0 := by simpa using h
    subst e
    decide
  | k + 1, r, h => by
    have hp := Nat.two_pow_pos k
    have e2 : 2 ^ (k + 1) = 2 * 2 ^ k := by rw [Nat.pow_succ, Nat.mul_comm]
    rw [Nat.toDigits_of_base_le (by decide) (by omega), List.map_append]
    have e3 : (2 ^ (k + 1) + r) / 2 = 2 ^ k + r / 2 := by omega
    have e4 : (2 ^ (k + 1) + r) % 2 = r % 2 := by omega
    rw [e3, e4, ds_led k (r / 2) (by omega), dig01]
    show _ = (true :: (bin k (r / 2) ++ [decide (r % 2 = 1)])).map Bs.cd
    rw [← List.map_append]; rfl
theorem X_led {k r : Nat} (h : r < 2 ^ k) : X (((2 ^ k + r : Nat)) : Int) = Bs.S (true :: bin k r) := by
  have e : ds (((2 ^ k + r : Nat)) : Int) = (true :: bin k r).map Bs.cd := by rw [ds_nat, ds_led k r h]
  have e1 : sg (((2 ^ k + r : Nat)) : Int) = [] := by unfold sg; rw [decide_eq_false (by omega)]; rfl
  have e2 : dd (((2 ^ k + r : Nat)) : Int) = (true :: bin k r).map Bs.cd := by
    unfold dd; rw [e, show Int.toNat 0 = 0 from rfl, Nat.zero_sub]; rfl
  have e3 : pad (((2 ^ k + r : Nat)) : Int) = 0 := by unfold pad; rw [e1, e2]; simp only [List.length_nil]; omega
  unfold X
  rw [e1, e2, e3]
  simp [Bs.S]
theorem gives_b (n : Int) (t u : Tok) : Gives («int.__format__» ⟨[.int n t, .str (Str.ofString "b") u], []⟩) (.str (X n)) := by
  rw [fmt_eq]
  exact .of_eq rfl
section
variable {Y : L2.Cx}
/-- {x:b} -/
def tFmtB (te : L2.TE) : L2.TE := fun σ H Q => te σ H fun x H1 => ∃ n : Int, x = .int n ∧ (X n).length ≤ sizeLine ∧ Q (.str (X n)) H1
theorem pe_fmtB {e : Expr} {te : L2.TE} {pos p1 p2 : Pos} {j : Nat} (he : L2.PE Y e te) : L2.PE Y (.FormattedValue e (-1) (some (.JoinedStr [.Constant (.str "b") j p1] p2)) pos) (tFmtB te) := by
  refine ⟨fun pins s σ H Q I h => wpAny_FormattedValue_spec (L2.thn (he.run pins s σ H _ I h) fun v s1 hv => ?_)⟩
  obtain ⟨x, H1, I1, r1, n, rfl, hz, q⟩ := hv
  obtain ⟨t, rfl⟩ := r1
  refine wpAny_JoinedStr_one (Calls.Constant_str ⟨_, _, rfl, ?_⟩)
  exact wpAny_formatField_spec (by decide) (fun s' => typeIs_int s' n t) F.slot_int_format F.entry_int_format F.args_int_format_2 (fun u => gives_b n t u) ⟨.str (X n), H1, ((I1.tok _).tok _).tok _, ⟨_, rfl⟩, q⟩ (by decide) hz
end
end Fb

namespace I2
open PySem PySem.NumText PySem.Calls PyProof.Rows L2
/-! a number read from binary digits -/
def dv (b : Bool) : Nat := if b then 1 else 0
/-- the value of bits, the highest first -/
def val (bs : List Bool) : Nat := bs.foldl (fun a b => a * 2 + dv b) 0
theorem cd_ne (b : Bool) : Bs.cd b ≠ 95 ∧ Bs.cd b ≠ 45 ∧ Bs.cd b ≠ 43 ∧ Bs.cd b ≠ 98 ∧ Bs.cd b ≠ 66 ∧ Bs.cd b ≠ 120 ∧ Bs.cd b ≠ 88 ∧ Bs.cd b ≠ 111 ∧ Bs.cd b ≠ 79 ∧ Bs.cd b ≠ 0 := by cases b <;> decide
theorem blank_cd (b : Bool) : NumText.blank (Bs.cd b) = false := by cases b <;> rfl
theorem digit_cd (b : Bool) : NumText.digit? (Bs.cd b) = some (dv b) := by cases b <;> rfl
theorem turn2 (a : Array Nat) (k : Bool) (b : Bool) : NumText.step 2 (a, k) (Bs.cd b) = some (a.push (dv b), true) := by cases b <;> rfl
theorem turns2 : ∀ (bs : List Bool) (a : Array Nat), (bs.map Bs.cd).foldlM (NumText.step 2) (a, true) = some (bs.foldl (fun x b => x.push (dv b)) a, true)
  | [], _ => rfl
  | b :: bs, a => by
    rw [List.map_cons, List.foldlM_cons, turn2]
    exact turns2 bs (a.push (dv b))
theorem digs2 (b : Bool) (bs : List Bool) : NumText.digits? 2 ((b :: bs).map Bs.cd) = some ((b :: bs).foldl (fun x b => x.push (dv b)) #[]) := by
  unfold NumText.digits?
  rw [List.map_cons, List.foldlM_cons, turn2]
  show (List.foldlM (NumText.step 2) ((#[] : Array Nat).push (dv b), true) (bs.map Bs.cd)).bind _ = _
  rw [turns2]
  rfl
theorem worth : ∀ (bs : List Bool) (a : Array Nat), (bs.foldl (fun x b => x.push (dv b)) a).foldl (fun acc d => acc * 2 + d) 0 = bs.foldl (fun x b => x * 2 + dv b) (a.foldl (fun acc d => acc * 2 + d) 0)
  | [], _ => rfl
  | b :: bs, a => by
    rw [List.foldl_cons, worth bs (a.push (dv b)), List.foldl_cons]
    congr 1
    simp
theorem nodrop (bs : List Bool) : (bs.map Bs.cd).dropWhile NumText.blank = bs.map Bs.cd := by
  cases bs with
  | nil => rfl
  | cons b bs => rw [List.map_cons, List.dropWhile_cons, blank_cd]; rfl
theorem nosign (bs : List Bool) : NumText.sign (bs.map Bs.cd) = (false, bs.map Bs.cd) := by
  cases bs with
  | nil => rfl
  | cons b bs => cases b <;> rfl
theorem nopre (bs : List Bool) : NumText.prefix? (bs.map Bs.cd) = none := by
  match bs with
  | [] => rfl
  | [b] => cases b <;> rfl
  | b :: c :: r => cases b <;> cases c <;> rfl
theorem nobase (bs : List Bool) : NumText.based 2 (bs.map Bs.cd) = (2, false, bs.map Bs.cd) := by
  unfold NumText.based
  rw [nopre]; rfl
theorem read2 (b : Bool) (bs : List Bool) : (int_private% "readNumeral") 0 2 ((b :: bs).map Bs.cd) = (int_private% "Numeral.value") ((val (b :: bs) : Nat) : Int) := by
  rw [readNumeral_eq, nodrop, nosign]
  show judge 0 false (based 2 ((b :: bs).map Bs.cd)).1 (based 2 ((b :: bs).map Bs.cd)).2.1 (digits? (based 2 ((b :: bs).map Bs.cd)).1 (((based 2 ((b :: bs).map Bs.cd)).2.2.reverse.dropWhile blank).reverse)) = _
  rw [nobase]
  show judge 0 false 2 false (digits? 2 ((((b :: bs).map Bs.cd).reverse.dropWhile blank).reverse)) = _
  rw [← List.map_reverse, nodrop, List.map_reverse, List.reverse_reverse, digs2]
  show (int_private% "Numeral.value") ((((b :: bs).foldl (fun x b => x.push (dv b)) (#[] : Array Nat)).foldl (fun acc d => acc * 2 + d) 0 : Nat) : Int) = _
  rw [worth]; rfl
theorem seen2 (bs : List Bool) : numTextOf (Bs.S bs) = bs.map Bs.cd ∧ numSeenOf (Bs.S bs) = bs.map Bs.cd := by
  have e1 : numTextOf (Bs.S bs) = bs.map Bs.cd := by
    refine if_pos ?_
    rw [← Array.all_toList, List.all_eq_true]
    intro c hc
    obtain ⟨b, _, rfl⟩ := List.mem_map.mp (show c ∈ bs.map Bs.cd from hc)
    cases b <;> decide
  refine ⟨e1, ?_⟩
  show (numTextOf (Bs.S bs)).takeWhile _ = _
  rw [e1]
  exact NumText.takeWhile_all fun c hc => by
    obtain ⟨b, _, rfl⟩ := List.mem_map.mp hc
    exact bne_iff_ne.mpr (cd_ne b).2.2.2.2.2.2.2.2.2
structure Kept (p : Prop) : Prop where
  out : p
set_option maxHeartbeats 4000000 in
theorem gives2 {bs : List Bool} {b : Bool} {u t : Tok} (hl : (b :: bs).length ≤ 640) : Gives (Builtin.«int.__new__» ⟨[.type "int", .str (Bs.S (b :: bs)) u, .int 2 t], []⟩) (.int ((val (b :: bs) : Nat) : Int)) :=
  .of_wp fun M A E s Q hQ => by
    obtain ⟨hp, g, d, tk, os⟩ := s
    have f1 := F.conv_sub_int
    have f2 := F.madeHere_int
    have f6 : typeOf (.str (Bs.S (b :: bs)) u) = pure (.type "str") := rfl
    obtain ⟨e1, e2⟩ := seen2 (b :: bs)
    have hk := Kept.mk (And.intro (show (numSeenOf (Bs.S (b :: bs))).length ≤ 640 by rw [e2, List.length_map]; exact hl)
      (And.intro (show (int_private% "readNumeral") 0 2 (numSeenOf (Bs.S (b :: bs))) = (int_private% "Numeral.value") ((val (b :: bs) : Nat) : Int) by rw [e2]; exact read2 b bs) (show ((numSeenOf (Bs.S (b :: bs))).length == (numTextOf (Bs.S (b :: bs))).length) = true by rw [e1, e2]; exact beq_self_eq_true _)))
    clear e1 e2 hl
    repeat (any_goals (first | assumption | ((with_reducible show wpAny _ _ ((int_private% "intFromText") _ _ _) _ _ _); refine Hx.wp_textB hk.out.1 hk.out.2.1 hk.out.2.2 ?_) | wp_step))
    all_goals first | exact ⟨_, rfl, hQ⟩ | skip
theorem call2 {prog : Program} {w : World} {A : Around} {E : Value → Shared → Prop} {s : Shared} {Q : Value → Shared → Prop} {bs : List Bool} {b : Bool} {u t : Tok} (hl : (b :: bs).length ≤ 640)
    (hQ : Q (.int ((val (b :: bs) : Nat) : Int) s.toks) { s with toks := s.toks + 1 }) : wpAny (model prog w) A (call (.type "int") [.str (Bs.S (b :: bs)) u, .int 2 t]) Q E s :=
  callType_new F.called_int F.newNe_int (Hx.typeCall_int_2 _ _) (Hx.newCall_int_2 _ _) (fun obj => F.initArgs_range_2 obj _ _) F.entry_int_new (gives2 hl).meets (show (Made.int ((val (b :: bs) : Nat) : Int)).post _ s from ⟨rfl, hQ⟩)
/-- int(t, 2) -/
def rInt2 : List V → Hp → VK → Prop := fun xs H Q => ∃ (b : Bool) (bs : List Bool), xs = [.str (Bs.S (b :: bs)), .int 2] ∧ (b :: bs).length ≤ 640 ∧ Q (.int ((val (b :: bs) : Nat) : Int)) H
theorem c_int2 {X : Cx} : CallR X (.type "int") rInt2 := by
  intro pins s σ H xs us Q I r h
  obtain ⟨b, bs, rfl, hl, q⟩ := h
  obtain ⟨u, w', rfl, r1, r2⟩ := vals2 r
  obtain ⟨t1, rfl⟩ := r1
  obtain ⟨t2, rfl⟩ := r2
  exact call2 hl ⟨.int ((val (b :: bs) : Nat) : Int), H, I.tok _, ⟨_, rfl⟩, q⟩
end I2

namespace Fb
open I2
theorem val_app (bs : List Bool) (b : Bool) : val (bs ++ [b]) = val bs * 2 + dv b := by unfold val; rw [List.foldl_append]; rfl
theorem val_zero (bs : List Bool) : val (false :: bs) = val bs := rfl
theorem dv_of (r : Nat) : dv (decide (r % 2 = 1)) = r % 2 := by
  have h : r % 2 = 0 ∨ r % 2 = 1 := by omega
  rcases h with h | h <;> rw [h] <;> rfl
theorem val_bin : ∀ k v, val (bin k v) = v % 2 ^ k
  | 0, v => by simp [bin, val, Nat.mod_one]
  | k + 1, v => by
    unfold bin
    rw [val_app, val_bin k (v / 2), dv_of, Nat.pow_succ, Nat.mul_comm (2 ^ k) 2, Nat.mod_mul]
    omega
theorem val_lt (bs : List Bool) : val bs < 2 ^ bs.length := by
  suffices h : ∀ (n : Nat) (bs : List Bool), bs.length = n → val bs < 2 ^ n from h _ bs rfl
  intro n
  induction n with
  | zero => intro bs h; rw [List.length_eq_zero_iff.mp h]; decide
  | succ n ih =>
    intro bs h
    rcases List.eq_nil_or_concat bs with e | ⟨cs, b, e⟩
    · rw [e] at h; cases h
    · rw [List.concat_eq_append] at e
      subst e
      rw [List.length_append, List.length_singleton] at h
      have := ih cs (by omega)
      rw [val_app, Nat.pow_succ]
      have hb : dv b ≤ 1 := by cases b <;> decide
      omega
theorem bin_val (bs : List Bool) : bin bs.length (val bs) = bs := by
  suffices h : ∀ (n : Nat) (bs : List Bool), bs.length = n → bin n (val bs) = bs from h _ bs rfl
  intro n
  induction n with
  | zero => intro bs h; rw [List.length_eq_zero_iff.mp h]; rfl
  | succ n ih =>
    intro bs h
    rcases List.eq_nil_or_concat bs with e | ⟨cs, b, e⟩
    · rw [e] at h; cases h
    · rw [List.concat_eq_append] at e
      subst e
      rw [List.length_append, List.length_singleton] at h
      unfold bin
      rw [val_app, show (val cs * 2 + dv b) / 2 = val cs by cases b <;> (unfold dv; simp) <;> omega, ih cs (by omega)]
      congr 2
      cases b <;> (unfold dv; simp) <;> omega
theorem bin_mod : ∀ k v, bin k (v % 2 ^ k) = bin k v
  | 0, _ => rfl
  | k + 1, v => by
    unfold bin
    have e1 : v % 2 ^ (k + 1) / 2 = v / 2 % 2 ^ k := by
      rw [Nat.pow_succ, Nat.mul_comm, Nat.mod_mul]; omega
    have e2 : v % 2 ^ (k + 1) % 2 = v % 2 := by
      rw [Nat.pow_succ, Nat.mul_comm, Nat.mod_mul]; omega
    rw [e1, e2, bin_mod k (v / 2)]
theorem bin_cons : ∀ k v, bin (k + 1) v = decide (v / 2 ^ k % 2 = 1) :: bin k v
  | 0, v => by simp [bin]
  | k + 1, v => by
    rw [bin, bin_cons k (v / 2), Nat.div_div_eq_div_mul, ← Nat.pow_succ']; rfl
theorem bin_eq {k a b : Nat} (ha : a < 2 ^ k) (hb : b < 2 ^ k) (h : bin k a = bin k b) : a = b := by
  have := congrArg val h
  rw [val_bin, val_bin, Nat.mod_eq_of_lt ha, Nat.mod_eq_of_lt hb] at this
  exact this
section
open PySem L2
variable {σ : L2.St} {H : Hp} {Q : VK} {te : TE}
def FbP (x : V) (H : Hp) (Q : VK) : Prop := ∃ n : Int, x = .int n ∧ (X n).length ≤ sizeLine ∧ Q (.str (X n)) H
theorem fmt (q : te σ H fun x H1 => FbP x H1 Q) : tFmtB te σ H Q := q
theorem fbp {k r : Nat} {n : Int} (e : n = ((2 ^ k + r : Nat) : Int)) (h : r < 2 ^ k) (hk : k ≤ 100000) (q : Q (.str (Bs.S (true :: bin k r))) H) : FbP (.int n) H Q :=
  ⟨n, rfl, by rw [e, X_led h, Bs.len, List.length_cons, bin_len, sizeLine_eq]; omega, by rw [e, X_led h]; exact q⟩
theorem int2 {bs : List Bool} (h : bs ≠ []) (hl : bs.length ≤ 640) (q : Q (.int (val bs : Nat)) H) : rInt2 [.str (Bs.S bs), .int 2] H Q := by
  cases bs with
  | nil => exact absurd rfl h
  | cons b bs => exact ⟨b, bs, rfl, hl, q⟩
end
end Fb

namespace Gx
open PySem L2
theorem bits {σ : L2.St} {H : Hp} {Q : VK} {te : TE} (q : te σ H fun x H1 => BiP x H1 Q) : tBits te σ H Q := q
theorem bip {H : Hp} {Q : VK} {i : Int} (q : Q (.int (Builtin.Int.intBits i : Nat)) H) : BiP (.int i) H Q := ⟨i, rfl, q⟩
end Gx
namespace Iv
open Cx_
/-! the interval lies in the whole -/
theorem sz_pos' {w : Nat} {bs : List Bool} : ∀ n, 0 < (iv w bs n).2.1 ∧ 0 < (iv w bs n).2.2
  | 0 => ⟨Nat.one_pos, Nat.one_pos⟩
  | n + 1 => by
    obtain ⟨h1, h2⟩ := sz_pos' (w := w) (bs := bs) n
    rw [iv]
    split
    · exact ⟨Nat.mul_pos h1 (by omega), Nat.mul_pos h2 (by omega)⟩
    · exact ⟨Nat.mul_pos h1 (by omega), Nat.mul_pos h2 (by omega)⟩
theorem in_whole {w : Nat} {bs : List Bool} : ∀ n, (iv w bs n).1 + (iv w bs n).2.1 ≤ (iv w bs n).2.2
  | 0 => Nat.le_refl _
  | n + 1 => by
    have h := in_whole (w := w) (bs := bs) n
    rw [iv]
    generalize (iv w bs n).1 = l at *
    generalize (iv w bs n).2.1 = s at *
    generalize (iv w bs n).2.2 = m at *
    generalize 1 + cnt w bs false n (ctx w bs n) = z
    generalize 1 + cnt w bs true n (ctx w bs n) = o
    have h2 := Nat.mul_le_mul_right (z + o) h
    rw [Nat.add_mul, Nat.mul_add s] at h2
    split
    · simp only []; omega
    · simp only []; omega
theorem wh_le {w : Nat} {bs : List Bool} : ∀ n, n ≤ 300 → (iv w bs n).2.2 ≤ 2 ^ (10 * n)
  | 0, _ => Nat.le_refl _
  | n + 1, hn => by
    have h := wh_le (w := w) (bs := bs) n (by omega)
    have c1 := cnt_le w bs false n (ctx w bs n)
    have c2 := cnt_le w bs true n (ctx w bs n)
    have e : (iv w bs (n + 1)).2.2 = (iv w bs n).2.2 * (1 + cnt w bs false n (ctx w bs n) + (1 + cnt w bs true n (ctx w bs n))) := by
      rw [iv]; split <;> rfl
    rw [e, show 10 * (n + 1) = 10 * n + 10 by omega, Nat.pow_add]
    exact Nat.mul_le_mul h (Nat.le_trans (show _ ≤ 602 by omega) (by decide))
theorem sz_pos (w : Nat) (bs : List Bool) : 0 < sz w bs := (sz_pos' _).1
theorem wh_pos (w : Nat) (bs : List Bool) : 0 < wh w bs := (sz_pos' _).2
theorem lo_sz (w : Nat) (bs : List Bool) : lo w bs + sz w bs ≤ wh w bs := in_whole _
end Iv
namespace Cd
/-- the first place of p from n on, within f places -/
def first (p : Nat → Bool) : Nat → Nat → Nat
  | n, 0 => n
  | n, f + 1 => if p n = true then n else first p (n + 1) f
theorem first_spec (p : Nat → Bool) : ∀ (f n j : Nat), n ≤ j → j ≤ n + f → p j = true → p (first p n f) = true ∧ n ≤ first p n f ∧ first p n f ≤ j ∧ ∀ i, n ≤ i → i < first p n f → p i = false
  | 0, n, j, h1, h2, h3 => by
    have e : j = n := by omega
    subst e
    exact ⟨h3, Nat.le_refl _, Nat.le_refl _, fun i a b => absurd a (by unfold first at b; omega)⟩
  | f + 1, n, j, h1, h2, h3 => by
    unfold first
    by_cases h : p n = true
    · rw [if_pos h]; exact ⟨h, Nat.le_refl _, h1, fun i a b => absurd a (by omega)⟩
    · rw [if_neg h]
      have hj : n + 1 ≤ j := by
        rcases Nat.lt_or_ge n j with q | q
        · exact q
        · exact absurd (show p n = true by rw [show n = j by omega]; exact h3) h
      obtain ⟨a, b, c, d⟩ := first_spec p f (n + 1) j hj (by omega) h3
      refine ⟨a, by omega, c, fun i x y => ?_⟩
      by_cases e : i = n
      · subst e; simpa using h
      · exact d i (by omega) y
/-- the least a with a / 2^k from low / whole on -/
def ceil (l h k : Nat) : Nat := (l * 2 ^ k + h - 1) / h
/-- its cell lies in the interval -/
def fit (l s h k : Nat) : Bool := decide ((ceil l h k + 1) * h ≤ (l + s) * 2 ^ k)
/-- the number of digits of the shortest cell -/
def klen (l s h : Nat) : Nat := first (fit l s h) 0 (h + 2)
theorem ceil_ge {l h k : Nat} (hh : 0 < h) : l * 2 ^ k ≤ ceil l h k * h := by
  unfold ceil
  have e := Nat.div_add_mod (l * 2 ^ k + h - 1) h
  have m := Nat.mod_lt (l * 2 ^ k + h - 1) hh
  rw [Nat.mul_comm] at e
  omega
theorem ceil_lt {l h k : Nat} (hh : 0 < h) : ceil l h k * h < l * 2 ^ k + h := by
  unfold ceil
  have e := Nat.div_mul_le_self (l * 2 ^ k + h - 1) h
  omega
theorem fit_of {l s h k : Nat} (hh : 0 < h) (g : 2 * h ≤ s * 2 ^ k) : fit l s h k = true := by
  refine decide_eq_true ?_
  have c := ceil_lt (l := l) (k := k) hh
  rw [Nat.add_mul, Nat.add_mul, Nat.one_mul]
  omega
theorem le_of_fit {l s h k : Nat} (hh : 0 < h) (g : fit l s h k = true) : h ≤ s * 2 ^ k := by
  have g2 := of_decide_eq_true g
  have c := ceil_ge (l := l) (k := k) hh
  rw [Nat.add_mul, Nat.add_mul, Nat.one_mul] at g2
  omega
theorem klen_spec {l s h : Nat} (hs : 0 < s) (hh : 0 < h) : fit l s h (klen l s h) = true ∧ ∀ i, i < klen l s h → fit l s h i = false := by
  have g : fit l s h (h + 2) = true := fit_of hh (by
    have := Nat.lt_two_pow_self (n := h)
    have e : 2 ^ (h + 2) = 4 * 2 ^ h := by rw [Nat.pow_add, Nat.mul_comm]
    have := Nat.mul_le_mul hs (Nat.le_refl (2 ^ (h + 2)))
    omega)
  obtain ⟨a, b, c, d⟩ := first_spec (fit l s h) (h + 2) 0 (h + 2) (Nat.zero_le _) (by omega) g
  exact ⟨a, fun i hi => d i (Nat.zero_le _) hi⟩
theorem klen_eq {l s h k : Nat} (hs : 0 < s) (hh : 0 < h) (g : fit l s h k = true) (m : ∀ i, i < k → fit l s h i = false) : k = klen l s h := by
  obtain ⟨a, b⟩ := klen_spec (l := l) hs hh
  rcases Nat.lt_trichotomy k (klen l s h) with q | q | q
  · have z := b k q; rw [g] at z; cases z
  · exact q
  · have z := m _ q; rw [a] at z; cases z
theorem klen_lt {l s h : Nat} (hs : 0 < s) (hh : 0 < h) (hl : l + s ≤ h) : s * 2 ^ klen l s h < 4 * h := by
  obtain ⟨a, b⟩ := klen_spec (l := l) hs hh
  cases e : klen l s h with
  | zero => rw [Nat.pow_zero, Nat.mul_one]; omega
  | succ k =>
    have z := b k (by omega)
    have n : ¬ 2 * h ≤ s * 2 ^ k := fun q => by rw [fit_of hh q] at z; cases z
    rw [Nat.pow_succ, ← Nat.mul_assoc]; omega
theorem ceil_small {l s h : Nat} (hs : 0 < s) (hh : 0 < h) (hl : l + s ≤ h) : ceil l h (klen l s h) < 2 ^ klen l s h := by
  have a := of_decide_eq_true (klen_spec (l := l) hs hh).1
  have b := Nat.mul_le_mul_right (2 ^ klen l s h) hl
  have c : (ceil l h (klen l s h) + 1) * h ≤ 2 ^ klen l s h * h := by rw [Nat.mul_comm (2 ^ _)]; exact Nat.le_trans a b
  exact Nat.le_of_mul_le_mul_right c hh
theorem klen_small {l s h b : Nat} (hs : 0 < s) (hh : 0 < h) (hl : l + s ≤ h) (hb : h ≤ 2 ^ b) : klen l s h < b + 2 := by
  have a := klen_lt (l := l) hs hh hl
  have c : 2 ^ klen l s h ≤ s * 2 ^ klen l s h := Nat.le_mul_of_pos_left _ hs
  have d : 2 ^ klen l s h < 2 ^ (b + 2) := by rw [Nat.pow_add]; omega
  exact (Nat.pow_lt_pow_iff_right (by decide)).mp d
/-- no shorter cell fits than the number of binary digits says -/
theorem bits_below {l s h i : Nat} (hs : 0 < s) (hh : 0 < h) (hi : i < PySem.Builtin.Int.intBits (((h - 1) / s : Nat) : Int)) : fit l s h i = false := by
  have e : 2 ^ i ≤ (h - 1) / s := by
    unfold PySem.Builtin.Int.intBits at hi
    generalize (h - 1) / s = x at *
    by_cases hx : x = 0
    · subst hx; simp at hi
    · have hx2 : ((x : Int) == 0) = false := by simp; omega
      rw [hx2] at hi
      simp only [Bool.false_eq_true, if_false, Int.natAbs_natCast] at hi
      exact Nat.le_trans (Nat.pow_le_pow_right (by decide) (by omega)) (Nat.log2_self_le hx)
  cases q : fit l s h i with
  | false => rfl
  | true =>
    have a := le_of_fit hh q
    have b := (Nat.le_div_iff_mul_le hs).mp e
    rw [Nat.mul_comm] at b
    omega
end Cd
namespace Iv
/-- the code of bits: so many digits, of this value -/
def kl (w : Nat) (bs : List Bool) : Nat := Cd.klen (lo w bs) (sz w bs) (wh w bs)
def av (w : Nat) (bs : List Bool) : Nat := Cd.ceil (lo w bs) (wh w bs) (kl w bs)
def code (w : Nat) (bs : List Bool) : List Bool := Fb.bin (kl w bs) (av w bs)
theorem code_len (w : Nat) (bs : List Bool) : (code w bs).length = kl w bs := Fb.bin_len _ _
theorem av_lt (w : Nat) (bs : List Bool) : av w bs < 2 ^ kl w bs := Cd.ceil_small (sz_pos w bs) (wh_pos w bs) (lo_sz w bs)
theorem code_val (w : Nat) (bs : List Bool) : I2.val (code w bs) = av w bs := by
  unfold code; rw [Fb.val_bin, Nat.mod_eq_of_lt (av_lt w bs)]
theorem wh_pow {w : Nat} {bs : List Bool} (h : bs.length ≤ 300) : wh w bs ≤ 2 ^ 3000 := Nat.le_trans (wh_le _ h) (Nat.pow_le_pow_right (by decide) (by omega))
theorem kl_le {w : Nat} {bs : List Bool} (h : bs.length ≤ 300) : kl w bs < 3002 := Cd.klen_small (sz_pos w bs) (wh_pos w bs) (lo_sz w bs) (wh_pow h)
end Iv

namespace Pr
/-! products and sums over the first places -/
def prod (f : Nat → Nat) : Nat → Nat
  | 0 => 1
  | k + 1 => prod f k * f k
def sum (f : Nat → Nat) : Nat → Nat
  | 0 => 0
  | k + 1 => sum f k + f k
def fct : Nat → Nat
  | 0 => 1
  | n + 1 => fct n * (n + 1)
theorem fct_pos : ∀ n, 0 < fct n
  | 0 => Nat.one_pos
  | n + 1 => Nat.mul_pos (fct_pos n) (Nat.succ_pos n)
theorem prod_pos {f : Nat → Nat} (h : ∀ i, 0 < f i) : ∀ k, 0 < prod f k
  | 0 => Nat.one_pos
  | k + 1 => Nat.mul_pos (prod_pos h k) (h k)
theorem prod_le {f g : Nat → Nat} (h : ∀ i, f i ≤ g i) : ∀ k, prod f k ≤ prod g k
  | 0 => Nat.le_refl _
  | k + 1 => Nat.mul_le_mul (prod_le h k) (h k)
theorem prod_congr {f g : Nat → Nat} : ∀ k, (∀ i, i < k → f i = g i) → prod f k = prod g k
  | 0, _ => rfl
  | k + 1, h => by unfold prod; rw [prod_congr k fun i hi => h i (by omega), h k (by omega)]
theorem prod_mul (f g : Nat → Nat) : ∀ k, prod (fun i => f i * g i) k = prod f k * prod g k
  | 0 => rfl
  | k + 1 => by
    unfold prod
    rw [prod_mul f g k]
    exact Nat.mul_mul_mul_comm ..
theorem prod_pow (f : Nat → Nat) (e : Nat) : ∀ k, prod (fun i => f i ^ e) k = prod f k ^ e
  | 0 => by simp [prod]
  | k + 1 => by unfold prod; rw [prod_pow f e k, Nat.mul_pow]
theorem prod_two (f : Nat → Nat) : ∀ k, prod (fun i => 2 ^ f i) k = 2 ^ sum f k
  | 0 => rfl
  | k + 1 => by unfold prod sum; rw [prod_two f k, Nat.pow_add]
/-- one factor grows -/
theorem prod_one {f g : Nat → Nat} {a r : Nat} : ∀ k, a < k → g a = f a * r → (∀ i, i ≠ a → g i = f i) → prod g k = prod f k * r
  | 0, h, _, _ => absurd h (by omega)
  | k + 1, h, h1, h2 => by
    unfold prod
    by_cases e : a = k
    · subst e
      rw [prod_congr (f := g) (g := f) a fun i hi => h2 i (by omega), h1, Nat.mul_assoc]
    · rw [prod_one k (by omega) h1 h2, h2 k (by omega)]
      exact Nat.mul_right_comm ..
theorem sum_one {f g : Nat → Nat} {a r : Nat} : ∀ k, a < k → g a = f a + r → (∀ i, i ≠ a → g i = f i) → sum g k = sum f k + r
  | 0, h, _, _ => absurd h (by omega)
  | k + 1, h, h1, h2 => by
    have sc : ∀ k, (∀ i, i < k → g i = f i) → sum g k = sum f k := by
      intro k
      induction k with
      | zero => intro _; rfl
      | succ k ih => intro h; unfold sum; rw [ih fun i hi => h i (by omega), h k (by omega)]
    unfold sum
    by_cases e : a = k
    · subst e
      rw [sc a fun i hi => h2 i (by omega), h1]; omega
    · rw [sum_one k (by omega) h1 h2, h2 k (by omega)]; omega
theorem fct_two : ∀ (s a b : Nat), a + b = s → fct (a + b) ≤ fct a * fct b * 2 ^ (a + b)
  | s, 0, b, _ => by
    rw [Nat.zero_add]
    show fct b ≤ 1 * fct b * 2 ^ b
    rw [Nat.one_mul]
    exact Nat.le_mul_of_pos_right _ (Nat.two_pow_pos b)
  | s, a + 1, 0, _ => by
    show fct (a + 1) ≤ fct (a + 1) * 1 * 2 ^ (a + 1)
    rw [Nat.mul_one]
    exact Nat.le_mul_of_pos_right _ (Nat.two_pow_pos _)
  | 0, a + 1, b + 1, h => by omega
  | s + 1, a + 1, b + 1, h => by
    have h1 := fct_two s a (b + 1) (by omega)
    have h2 := fct_two s (a + 1) b (by omega)
    rw [show a + 1 + (b + 1) = (a + (b + 1)) + 1 by omega]
    have e : a + 1 + b = a + (b + 1) := by omega
    rw [e] at h2
    show fct (a + (b + 1)) * (a + (b + 1) + 1) ≤ _
    rw [show a + (b + 1) + 1 = (a + 1) + (b + 1) by omega, Nat.mul_add]
    generalize fct (a + (b + 1)) = x at *
    rw [show a + 1 + (b + 1) = (a + (b + 1)) + 1 by omega, Nat.pow_succ]
    generalize 2 ^ (a + (b + 1)) = p at *
    have g1 := Nat.mul_le_mul_right (a + 1) h1
    have g2 := Nat.mul_le_mul_right (b + 1) h2
    have e1 : fct a * fct (b + 1) * p * (a + 1) = fct (a + 1) * fct (b + 1) * p := by
      show _ = fct a * (a + 1) * fct (b + 1) * p
      rw [Nat.mul_right_comm (fct a) (a + 1), Nat.mul_right_comm (fct a * fct (b + 1)) (a + 1)]
    have e2 : fct (a + 1) * fct b * p * (b + 1) = fct (a + 1) * fct (b + 1) * p := by
      show _ = fct (a + 1) * (fct b * (b + 1)) * p
      rw [← Nat.mul_assoc, Nat.mul_right_comm _ (b + 1) p]
    rw [e1] at g1
    rw [e2] at g2
    rw [← Nat.mul_assoc]
    omega
end Pr
namespace Iv
open Cx_ Pr
/-! codes are short: the whole over the size is at most a power of two -/
theorem pow16 (n : Nat) : (n + 1) ^ 16 ≤ 2 ^ (n + 51) := by
  by_cases h : n ≤ 22
  · have : ∀ m : _root_.Fin 23, (m.1 + 1) ^ 16 ≤ 2 ^ (m.1 + 51) := by decide +kernel
    exact this ⟨n, by omega⟩
  · obtain ⟨k, rfl⟩ : ∃ k, n = 22 + k := ⟨n - 22, by omega⟩
    clear h
    induction k with
    | zero => decide +kernel
    | succ k ih =>
      have step : (22 + (k + 1) + 1) ^ 16 ≤ 2 * (22 + k + 1) ^ 16 := by
        have a : (23 * (22 + (k + 1) + 1)) ^ 16 ≤ (24 * (22 + k + 1)) ^ 16 := Nat.pow_le_pow_left (by omega) 16
        rw [Nat.mul_pow, Nat.mul_pow] at a
        have b : (24 : Nat) ^ 16 ≤ 2 * 23 ^ 16 := by decide +kernel
        have c := Nat.mul_le_mul_right ((22 + k + 1) ^ 16) b
        have d : 23 ^ 16 * (22 + (k + 1) + 1) ^ 16 ≤ 23 ^ 16 * (2 * (22 + k + 1) ^ 16) := by
          refine Nat.le_trans a (Nat.le_trans c (Nat.le_of_eq ?_))
          rw [Nat.mul_comm 2 (23 ^ 16), Nat.mul_assoc]
        exact Nat.le_of_mul_le_mul_left d (by decide +kernel)
      refine Nat.le_trans step (Nat.le_trans (Nat.mul_le_mul_left 2 ih) (Nat.le_of_eq ?_))
      rw [show 22 + (k + 1) + 51 = (22 + k + 51) + 1 by omega]
      exact (Nat.pow_succ' ..).symm
theorem cnt_ne {w : Nat} {bs : List Bool} {n c : Nat} (b : Bool) (h : ¬ ctx w bs n = c) : cnt w bs b (n + 1) c = cnt w bs b n c := by
  show cnt w bs b n c + (if _ ∧ _ then 1 else 0) = _
  rw [if_neg (fun z => h z.1)]; rfl
theorem cnt_no {w : Nat} {bs : List Bool} {n c : Nat} {b : Bool} (h : ¬ bs.getD n false = b) : cnt w bs b (n + 1) c = cnt w bs b n c := by
  show cnt w bs b n c + (if _ ∧ _ then 1 else 0) = _
  rw [if_neg (fun z => h z.2)]; rfl
theorem cnt_yes {w : Nat} {bs : List Bool} {n c : Nat} {b : Bool} (h : ctx w bs n = c) (hb : bs.getD n false = b) : cnt w bs b (n + 1) c = cnt w bs b n c + 1 := by
  show cnt w bs b n c + (if _ ∧ _ then 1 else 0) = _
  rw [if_pos ⟨h, hb⟩]
/-- how many bits came in a context -/
def many (w : Nat) (bs : List Bool) (n c : Nat) : Nat := cnt w bs false n c + cnt w bs true n c
theorem many_step (w : Nat) (bs : List Bool) (n c : Nat) : many w bs (n + 1) c = many w bs n c + if ctx w bs n = c then 1 else 0 := by
  show cnt w bs false (n + 1) c + cnt w bs true (n + 1) c = cnt w bs false n c + cnt w bs true n c + _
  by_cases h : ctx w bs n = c
  · rw [if_pos h]
    cases e : bs.getD n false
    · rw [cnt_yes h e, cnt_no (b := true) (by rw [e]; decide)]; omega
    · rw [cnt_yes h e, cnt_no (b := false) (by rw [e]; decide)]; omega
  · rw [if_neg h, cnt_ne _ h, cnt_ne _ h]; rfl
theorem many_sum (w : Nat) (bs : List Bool) : ∀ n, sum (many w bs n) 16 = n
  | 0 => rfl
  | n + 1 => by
    rw [sum_one (f := many w bs n) (a := ctx w bs n) (r := 1) 16 (ctx_lt w bs n) (by rw [many_step, if_pos rfl]) (fun i hi => by rw [many_step, if_neg (Ne.symm hi)]; rfl), many_sum w bs n]
/-- the interval by its counts: size times all (n + 1)! is the whole times all z! o! -/
theorem by_counts (w : Nat) (bs : List Bool) : ∀ n, (iv w bs n).2.1 * prod (fun c => fct (many w bs n c + 1)) 16 = (iv w bs n).2.2 * prod (fun c => fct (cnt w bs false n c) * fct (cnt w bs true n c)) 16
  | 0 => rfl
  | n + 1 => by
    have ih := by_counts w bs n
    have hc := ctx_lt w bs n
    have p1 : prod (fun c => fct (many w bs (n + 1) c + 1)) 16 = prod (fun c => fct (many w bs n c + 1)) 16 * (many w bs n (ctx w bs n) + 2) :=
      prod_one (a := ctx w bs n) 16 hc (by rw [many_step, if_pos rfl]; rfl) (fun i hi => by rw [many_step, if_neg (Ne.symm hi)])
    rw [p1]
    by_cases hb : bs.getD n false = true
    · have p2 : prod (fun c => fct (cnt w bs false (n + 1) c) * fct (cnt w bs true (n + 1) c)) 16 = prod (fun c => fct (cnt w bs false n c) * fct (cnt w bs true n c)) 16 * (1 + cnt w bs true n (ctx w bs n)) :=
        prod_one (a := ctx w bs n) 16 hc (by
          have e1 : cnt w bs false (n + 1) (ctx w bs n) = cnt w bs false n (ctx w bs n) := cnt_no (by rw [hb]; decide)
          have e2 : cnt w bs true (n + 1) (ctx w bs n) = cnt w bs true n (ctx w bs n) + 1 := cnt_yes rfl hb
          rw [e1, e2, Nat.mul_assoc, Nat.add_comm 1]; rfl) (fun i hi => by
          have e1 : ∀ b, cnt w bs b (n + 1) i = cnt w bs b n i := fun b => cnt_ne b (fun z => hi z.symm)
          rw [e1, e1])
      rw [p2, iv, if_pos hb]
      simp only []
      have e : 1 + cnt w bs false n (ctx w bs n) + (1 + cnt w bs true n (ctx w bs n)) = many w bs n (ctx w bs n) + 2 := by unfold many; omega
      rw [e, Nat.mul_mul_mul_comm, Nat.mul_comm (1 + cnt w bs true n (ctx w bs n)) (many w bs n (ctx w bs n) + 2), Nat.mul_mul_mul_comm ((iv w bs n).2.2), ih]
    · have hb2 : bs.getD n false = false := by simpa using hb
      have p2 : prod (fun c => fct (cnt w bs false (n + 1) c) * fct (cnt w bs true (n + 1) c)) 16 = prod (fun c => fct (cnt w bs false n c) * fct (cnt w bs true n c)) 16 * (1 + cnt w bs false n (ctx w bs n)) :=
        prod_one (a := ctx w bs n) 16 hc (by
          have e1 : cnt w bs true (n + 1) (ctx w bs n) = cnt w bs true n (ctx w bs n) := cnt_no (by rw [hb2]; decide)
          have e2 : cnt w bs false (n + 1) (ctx w bs n) = cnt w bs false n (ctx w bs n) + 1 := cnt_yes rfl hb2
          rw [e1, e2, Nat.mul_right_comm]; congr 1; rw [Nat.add_comm 1]; rfl) (fun i hi => by
          have e1 : ∀ b, cnt w bs b (n + 1) i = cnt w bs b n i := fun b => cnt_ne b (fun z => hi z.symm)
          rw [e1, e1])
      rw [p2, iv, if_neg hb]
      simp only []
      have e : 1 + cnt w bs false n (ctx w bs n) + (1 + cnt w bs true n (ctx w bs n)) = many w bs n (ctx w bs n) + 2 := by unfold many; omega
      rw [e, Nat.mul_mul_mul_comm, Nat.mul_comm (1 + cnt w bs false n (ctx w bs n)) (many w bs n (ctx w bs n) + 2), Nat.mul_mul_mul_comm ((iv w bs n).2.2), ih]
theorem whole_le (w : Nat) (bs : List Bool) (n : Nat) : (iv w bs n).2.2 ≤ (iv w bs n).2.1 * (2 ^ n * prod (fun c => many w bs n c + 1) 16) := by
  have h := by_counts w bs n
  have le : prod (fun c => fct (many w bs n c + 1)) 16 ≤ prod (fun c => (fct (cnt w bs false n c) * fct (cnt w bs true n c)) * (2 ^ many w bs n c * (many w bs n c + 1))) 16 := prod_le (fun c => by
    have f := fct_two _ (cnt w bs false n c) (cnt w bs true n c) rfl
    have g := Nat.mul_le_mul_right (many w bs n c + 1) f
    rw [Nat.mul_assoc] at g
    exact g) 16
  rw [prod_mul, prod_mul (fun c => 2 ^ many w bs n c), prod_two, many_sum] at le
  have pos : 0 < prod (fun c => fct (cnt w bs false n c) * fct (cnt w bs true n c)) 16 := prod_pos (fun c => Nat.mul_pos (fct_pos _) (fct_pos _)) 16
  have le2 := Nat.mul_le_mul_left ((iv w bs n).2.1) le
  rw [h, Nat.mul_left_comm] at le2
  rw [Nat.mul_comm (iv w bs n).2.2] at le2
  exact Nat.le_of_mul_le_mul_left le2 pos
theorem short {w : Nat} {bs : List Bool} (hw : 0 < w) : 16 * kl w bs < 17 * bs.length + 848 := by
  have h1 := Cd.klen_lt (sz_pos w bs) (wh_pos w bs) (lo_sz w bs)
  have h2 : wh w bs ≤ sz w bs * (2 ^ bs.length * prod (fun c => many w bs bs.length c + 1) 16) := whole_le w bs bs.length
  have h3 : sz w bs * 2 ^ kl w bs < sz w bs * (2 ^ (bs.length + 2) * prod (fun c => many w bs bs.length c + 1) 16) := by
    have e : sz w bs * (2 ^ (bs.length + 2) * prod (fun c => many w bs bs.length c + 1) 16) = 4 * (sz w bs * (2 ^ bs.length * prod (fun c => many w bs bs.length c + 1) 16)) := by
      rw [Nat.pow_add, show (2 : Nat) ^ 2 = 4 by decide, Nat.mul_comm (2 ^ bs.length) 4, Nat.mul_assoc 4, Nat.mul_left_comm (sz w bs) 4]
    rw [e]
    exact Nat.lt_of_lt_of_le h1 (Nat.mul_le_mul_left 4 h2)
  have h4 := Nat.lt_of_mul_lt_mul_left h3
  have h5 := Nat.pow_lt_pow_left h4 (show 16 ≠ 0 by decide)
  rw [Nat.mul_pow, ← prod_pow, ← Nat.pow_mul, ← Nat.pow_mul] at h5
  have h6 : prod (fun c => (many w bs bs.length c + 1) ^ 16) 16 ≤ prod (fun c => 2 ^ (many w bs bs.length c + 51)) 16 := prod_le (fun c => pow16 _) 16
  have h7 : prod (fun c => 2 ^ (many w bs bs.length c + 51)) 16 = 2 ^ (bs.length + 816) := by
    have e : (fun c => 2 ^ (many w bs bs.length c + 51)) = (fun c => 2 ^ many w bs bs.length c * 2 ^ 51) := by funext c; rw [Nat.pow_add]
    have c51 : prod (fun _ => 2 ^ 51) 16 = 2 ^ 816 := by decide +kernel
    rw [e, prod_mul, prod_two, many_sum, c51, Nat.pow_add]
  rw [h7] at h6
  have h8 := Nat.lt_of_lt_of_le h5 (Nat.mul_le_mul_left _ h6)
  rw [← Nat.pow_add] at h8
  have h9 := (Nat.pow_lt_pow_iff_right (by decide)).mp h8
  omega
end Iv

namespace Ct
open PySem L2 Gx
/-! list.count of what can be compared by its data -/
def rCntD (K : PySem.W.Frag) : V → List V → Hp → VK → Prop := fun x xs H Q => ∃ (p : Addr) (ys : List V) (ds : List PyData) (y : V) (d : PyData), x = .ref p ∧ xs = [y] ∧ SqL K H p ys ∧ DpAll K H ys ds ∧ Dp K H y d ∧ PyData.plainAll ds = true ∧ d.plain = true ∧ d.depth ≤ 8 ∧ Q (.int ((ds.countP fun e => PyData.eqv e d : Nat) : Int)) H
theorem mt_lcountD {X : Cx} (hu : X.A.units + 64 < cLine) : MtR X "list.count" (rCntD X.K) := by
  intro pins s σ H x xs v us Q I rx rxs h
  obtain ⟨p, ys, ds, y, d, rfl, rfl, hs, ha, hd, hp, hpd, hdep, q⟩ := h
  cases rx
  obtain ⟨u, rfl, ru⟩ := rxs.one
  obtain ⟨its, rv, hl, _⟩ := I.list hs
  obtain ⟨as, r1⟩ := Dp.readsAll I ds _ its ha rv
  obtain ⟨bs, r2⟩ := Dp.reads I d y u hd ru
  refine SeqAt.count_list_data (vs := its.toArray) hl.isList (by rw [List.toList_toArray]; exact r1) r2 hp hpd (by have := Nat.min_le_right (PyData.depthAll ds) d.depth; omega) ?_
  exact ⟨.int _, H, I.tok _, ⟨_, rfl⟩, q⟩
variable {K : PySem.W.Frag} {H : Hp} {Q : VK} {t : TT} {te : TE} {σ : L2.St}
/-- a list of tuples -/
def TV (H : Hp) (l : Addr) (n : Nat) (f : Nat → List V) : Prop := ∃ ps : List Addr, H l = some (.lst (ps.map V.ref)) ∧ ps.length = n ∧ ∀ j a, ps[j]? = some a → H a = some (.tup (f j))
theorem TV.keep {H' : Hp} {l : Addr} {n : Nat} {f : Nat → List V} (t : TV H l n f) (s : Same H H') : TV H' l n f := by
  obtain ⟨ps, h1, h2, h3⟩ := t
  exact ⟨ps, s _ _ h1, h2, fun j a e => s _ _ (h3 j a e)⟩
theorem TV.snoc {l t : Addr} {n : Nat} {f : Nat → List V} (x : TV H l n f) (h : H t = some (.tup (f n))) : ∃ xs, H l = some (.lst xs) ∧ xs.length = n ∧ TV (upd H l (.lst (xs ++ [.ref t]))) l (n + 1) f := by
  obtain ⟨ps, h1, h2, h3⟩ := x
  have ne : ∀ {a : Addr} {ys : List V}, H a = some (.tup ys) → a ≠ l := fun e => ne_of e h1 (by intro z; cases z)
  refine ⟨_, h1, by rw [List.length_map]; exact h2, ps ++ [t], by rw [upd_same, List.map_append]; rfl, by rw [List.length_append, h2]; rfl, fun j a e => ?_⟩
  by_cases hj : j < ps.length
  · rw [List.getElem?_append_left hj] at e
    have := h3 j a e
    rw [upd_ne (ne this)]; exact this
  · rw [List.getElem?_append_right (by omega)] at e
    have hj2 : j = n := by
      rcases Nat.lt_or_ge (j - ps.length) 1 with q | q
      · omega
      · rw [List.getElem?_eq_none (by simpa using q)] at e; cases e
    subst hj2
    rw [h2, Nat.sub_self] at e
    cases e
    rw [upd_ne (ne h)]; exact h
theorem lcTupV {J : It} {n : Nat} {G : Hp → Prop} {Y : Nat → Hp → V → Hp → Prop} {g : TG} {vs : List Nat} (w : Walk J n G Y) (hn : n < 16777216) (f : Nat → List V) (hG : ∀ H', Same H H' → G H') (hY : ∀ i H x H', Y i H x H' → Same H H')
    (hs : ∀ i x H1 H' (R : V → Hp → Prop) (R0 : Hp → Prop), i < n → Same H H1 → Y i H1 x H' → (∀ p H4, Same H' H4 → H4 p = some (.tup (f i)) → R (.ref p) H4) →
      g x (wipe σ vs) H' fun σ2 H2 => WP (wipe σ2 vs = wipe σ vs) (t σ2 H2 fun b H3 => IfP b (te σ2 H3 R) (R0 H3)))
    (q : ∀ p H2, H p = none → Same H H2 → TV H2 p n f → Q (.ref p) H2) : LcP J g t te vs σ Q H := fun p hp => by
  refine lc_it w (fun i H' => Same H H' ∧ TV H' p i f) ⟨same_new hp, [], upd_same, rfl, fun j a e => by cases e⟩ (fun i H' _ h => hG H' h.1) (fun i x H1 H' hi h y => ?_) (fun H' h => q p H' hp h.1 h.2)
  obtain ⟨h1, h2⟩ := h
  have s1 := hY i H1 x H' y
  refine hs i x H1 H' _ _ hi h1 y (fun a H4 s4 ha => ?_)
  obtain ⟨xs, e1, e2, e3⟩ := (h2.keep (s1.trans s4)).snoc ha
  exact ⟨xs, e1, by rw [sizeLine_eq]; omega, same_up hp (h1.trans (s1.trans s4)), e3⟩
/-- a context and a bit -/
def cb (w : Nat) (bs : List Bool) (k : Nat) : List V := [.int (Cx_.ctx w bs k : Nat), .str (Bs.S [bs.getD k false])]
def cd (c : Nat) (b : Bool) : PyData := .tuple [.int (c : Nat), .str (Bs.S [b])]
theorem dp_cb {a : Addr} {c : Nat} {b : Bool} (h : H a = some (.tup [.int (c : Nat), .str (Bs.S [b])])) : Dp K H (.ref a) (cd c b) := .tup (SqT.of h) (.cons (.int _) (.cons (.str _) .nil))
theorem dps {w : Nat} {bs : List Bool} : ∀ (ps : List Addr) (g : Nat → Nat × Bool), (∀ j a, ps[j]? = some a → H a = some (.tup [.int ((g j).1 : Nat), .str (Bs.S [(g j).2])])) → DpAll K H (ps.map V.ref) ((List.range ps.length).map fun j => cd (g j).1 (g j).2)
  | [], _, _ => .nil
  | a :: ps, g, h => by
    rw [List.length_cons, List.range_succ_eq_map, List.map_cons, List.map_cons, List.map_map]
    exact .cons (dp_cb (h 0 a rfl)) (dps (w := w) (bs := bs) ps (fun j => g (j + 1)) fun j b e => h (j + 1) b (by simpa using e))
theorem eqv_cd (c c' : Nat) (b b' : Bool) : PyData.eqv (cd c b) (cd c' b') = decide (c = c' ∧ b = b') := by
  unfold cd
  simp only [PyData.eqv, PyData.eqvAll]
  rw [Bool.eq_iff_iff, decide_eq_true_iff]
  simp [Bs.inj]
  exact fun _ => Int.ofNat_inj
theorem plain_cds (l : List Nat) (g : Nat → Nat × Bool) : PyData.plainAll (l.map fun j => cd (g j).1 (g j).2) = true := by
  induction l with
  | nil => rfl
  | cons x l ih => rw [List.map_cons]; simp [PyData.plainAll, PyData.plain, cd, ih]; exact ih
theorem cnt_of (w : Nat) (bs : List Bool) (c : Nat) (b : Bool) : ∀ n, ((List.range n).map fun j => cd (Cx_.ctx w bs j) (bs.getD j false)).countP (fun e => PyData.eqv e (cd c b)) = Iv.cnt w bs b n c
  | 0 => rfl
  | n + 1 => by
    rw [List.range_succ, List.map_append, List.countP_append, cnt_of w bs c b n, List.map_singleton, List.countP_singleton, eqv_cd]
    show _ = Iv.cnt w bs b n c + _
    congr 1
    by_cases h : Cx_.ctx w bs n = c ∧ bs.getD n false = b
    · rw [if_pos (decide_eq_true h), if_pos h]
    · rw [if_neg (by rw [decide_eq_false h]; decide), if_neg h]
theorem count {w : Nat} {bs : List Bool} {l a : Addr} {n c : Nat} {b : Bool} (hl : TV H l n (cb w bs)) (ha : H a = some (.tup [.int (c : Nat), .str (Bs.S [b])])) (q : Q (.int (Iv.cnt w bs b n c : Nat)) H) : rCntD K (.ref l) [.ref a] H Q := by
  obtain ⟨ps, h1, h2, h3⟩ := hl
  refine ⟨l, _, _, _, _, rfl, rfl, SqL.of h1, dps (w := w) (bs := bs) ps (fun j => (Cx_.ctx w bs j, bs.getD j false)) h3, dp_cb ha, plain_cds _ _, by simp [cd, PyData.plain, PyData.plainAll], by simp [cd, PyData.depth, PyData.depthAll], ?_⟩
  rw [h2, cnt_of]
  exact q
theorem fct_lt : ∀ n, n ≤ 127 → Pr.fct n < 2 ^ (7 * n + 1)
  | 0, _ => by decide
  | n + 1, h => by
    have ih := fct_lt n (by omega)
    show Pr.fct n * (n + 1) < _
    rw [show 7 * (n + 1) + 1 = (7 * n + 1) + 7 by omega, Nat.pow_add]
    exact Nat.mul_lt_mul'' ih (by omega)
theorem prod_lt {f : Nat → Nat} {e : Nat} (h : ∀ i, f i < 2 ^ e) : ∀ k, Pr.prod f k < 2 ^ (e * k + 1)
  | 0 => by show 1 < 2 ^ (e * 0 + 1); rw [Nat.mul_zero]; decide
  | k + 1 => by
    have ih := prod_lt h k
    show Pr.prod f k * f k < _
    rw [show e * (k + 1) + 1 = (e * k + 1) + e by rw [Nat.mul_add]; omega, Nat.pow_add]
    exact Nat.mul_lt_mul'' ih (h k)
theorem fct_560 {n : Nat} (h : n ≤ 79) : Pr.fct n < 2 ^ 560 := Nat.lt_of_lt_of_le (fct_lt n (by omega)) (Nat.pow_le_pow_right (by decide) (by omega))
theorem fct_274 {n : Nat} (h : n ≤ 39) : Pr.fct n < 2 ^ 274 := Nat.lt_of_lt_of_le (fct_lt n (by omega)) (Nat.pow_le_pow_right (by decide) (by omega))
theorem fct_two {a b : Nat} (ha : a ≤ 39) (hb : b ≤ 39) : Pr.fct a * Pr.fct b < 2 ^ 560 := by
  have h := Nat.mul_lt_mul'' (fct_274 ha) (fct_274 hb)
  rw [← Nat.pow_add] at h
  exact Nat.lt_of_lt_of_le h (Nat.pow_le_pow_right (by decide) (by decide))
theorem prod_8961 {f : Nat → Nat} (h : ∀ i, f i < 2 ^ 560) {k : Nat} (hk : k ≤ 16) : Pr.prod f k < 2 ^ 8961 := Nat.lt_of_lt_of_le (prod_lt h k) (Nat.pow_le_pow_right (by decide) (by omega))
theorem wl {x : Nat} {k : Nat} (h : x < 2 ^ k) : (x : Int).natAbs < 2 ^ k := by rw [Int.natAbs_natCast]; exact h
theorem wm {x y a b : Nat} (hx : x < 2 ^ a) (hy : y < 2 ^ b) (h0 : 0 < a := by decide) (h1 : 0 < b := by decide) (h : a + b ≤ 1000000 := by decide) : CMulW (x : Int) (y : Int) := wide_mul (wl hx) (wl hy) h0 h1 h
end Ct

namespace Bx
open PySem L2
/-- a box of drawn digits: the list b holds the list p of ints and a place; all of H0 stands beside -/
structure Box (H0 H : Hp) (b p : Addr) (xs : List Int) : Prop where
  same : Same H0 H
  nb : H0 b = none
  np : H0 p = none
  bx : ∃ k : Nat, H b = some (.lst [.ref p, .int (k : Int)])
  dg : H p = some (.lst (xs.map V.int))
theorem Box.ne {H0 H : Hp} {b p : Addr} {xs : List Int} (B : Box H0 H b p xs) : p ≠ b := by
  obtain ⟨k, hk⟩ := B.bx
  intro e
  rw [← e, B.dg] at hk
  have h := Option.some.inj hk
  cases xs with
  | nil => cases h
  | cons x xs => cases h
/-- a new object beside -/
theorem Box.new {H0 H : Hp} {b p c : Addr} {xs : List Int} {o : HO} (B : Box H0 H b p xs) (hc : H c = none) : Box (upd H0 c o) (upd H c o) b p xs := by
  obtain ⟨k, hk⟩ := B.bx
  have h1 : b ≠ c := ne_of_none hk hc
  have h2 : p ≠ c := ne_of_none B.dg hc
  refine ⟨fun a u e => ?_, by rw [upd_ne h1]; exact B.nb, by rw [upd_ne h2]; exact B.np, ⟨k, by rw [upd_ne h1]; exact hk⟩, by rw [upd_ne h2]; exact B.dg⟩
  by_cases ha : a = c
  · subst ha; rw [upd_same] at e ⊢; exact e
  · rw [upd_ne ha] at e ⊢; exact B.same a u e
/-- what was made beside, in a heap that keeps all -/
theorem Box.keep {H0 H H' : Hp} {b p : Addr} {xs : List Int} (B : Box H0 H b p xs) (s : Same H H') : Box H0 H' b p xs := by
  obtain ⟨k, hk⟩ := B.bx
  exact ⟨B.same.trans s, B.nb, B.np, ⟨k, s _ _ hk⟩, s _ _ B.dg⟩
end Bx

namespace My
open PySem L2
def top (i : Nat) : Stmt := PySem.Challenge.pw_packetpicture_k18_intervals_by_counts.main.body.getD i (.Pass ⟨0, 0, 0, 0⟩)
abbrev s_Coding_interval : Stmt := inClass (top 4) 2
abbrev s_context : Stmt := top 3
abbrev s_Coding_take : Stmt := inClass (top 4) 4
abbrev s_Coding___init__ : Stmt := inClass (top 4) 0
abbrev s_coding_of : Stmt := top 5
abbrev s_interval : Stmt := top 6
abbrev s_law_product : Stmt := top 13
abbrev s_law_context : Stmt := top 12
abbrev s_law_draw : Stmt := top 10
abbrev s_law_bits : Stmt := top 11
abbrev s_law_cell : Stmt := top 8
abbrev s_law_digits : Stmt := top 9
abbrev s_law : Stmt := top 14
/-- a def of the text as it stands behind the top -/
structure DefAt (K : PySem.W.Frag) (mg : Str → Option Value) (x : Str) (st : Stmt) (ps : List Str) where
  a : Addr
  d : FuncData
  f : Fun K x x st a d
  g : mg x = some (.ref a)
  b : Binds K d ps []
structure MethAt (K : PySem.W.Frag) (C : Addr) (x q : Str) (st : Stmt) (ps : List Str) where
  a : Addr
  d : FuncData
  f : Fun K x q st a d
  b : Binds K d ps []
  m : Meth K C x a
structure Tx (P : Program) (K : PySem.W.Frag) (mg : Str → Option Value) where
  a_Coding : Addr
  cl_Coding : Cls K a_Coding
  g_Coding : mg "Coding" = some (.ref a_Coding)
  mk_Coding : PySem.W.makesIn K a_Coding = true
  kp_Coding : PySem.W.keepIn K (.ref a_Coding) = true
  na_Coding_bits : NoAttr K a_Coding "bits"
  na_Coding__width : NoAttr K a_Coding "_width"
  na_Coding__low : NoAttr K a_Coding "_low"
  na_Coding__size : NoAttr K a_Coding "_size"
  na_Coding__whole : NoAttr K a_Coding "_whole"
  na_Coding__zeros : NoAttr K a_Coding "_zeros"
  na_Coding__ones : NoAttr K a_Coding "_ones"
  Coding_interval : MethAt K a_Coding "interval" "Coding.interval" s_Coding_interval ["self"]
  context : DefAt K mg "context" s_context ["width", "bits", "place"]
  Coding_take : MethAt K a_Coding "take" "Coding.take" s_Coding_take ["self", "bit"]
  Coding___init__ : MethAt K a_Coding "__init__" "Coding.__init__" s_Coding___init__ ["self", "width"]
  coding_of : DefAt K mg "coding_of" s_coding_of ["width", "bits"]
  interval : DefAt K mg "interval" s_interval ["width", "bits"]
  law_product : DefAt K mg "_law_product" s_law_product ["many"]
  law_context : DefAt K mg "_law_context" s_law_context ["width", "bits", "place"]
  law_draw : DefAt K mg "_law_draw" s_law_draw ["box", "many"]
  law_bits : DefAt K mg "_law_bits" s_law_bits ["box", "many"]
  law_cell : DefAt K mg "_law_cell" s_law_cell ["script", "k"]
  law_digits : DefAt K mg "_law_digits" s_law_digits ["script", "first", "last"]
  law : DefAt K mg "law" s_law ["script"]
  n_int : mg "int" = none
  n_len : mg "len" = none
  n_range : mg "range" = none
  n_str : mg "str" = none
  t_CONTEXTS : Tok
  c_CONTEXTS : mg "CONTEXTS" = some (.int 16 t_CONTEXTS)
section
variable {P : Program} {w : World} {K : PySem.W.Frag} {mg : Str → Option Value} {base : Heap}
def fl_Coding (v0 v1 v2 v3 v4 v5 v6 : V) : List (Str × V) := [("bits", v0), ("_width", v1), ("_low", v2), ("_size", v3), ("_whole", v4), ("_zeros", v5), ("_ones", v6)]
theorem ne_Coding_bits___width : ((Str.ofString "bits") = Str.ofString "_width") = False := eq_false (by decide +kernel)
theorem ne_Coding_bits___low : ((Str.ofString "bits") = Str.ofString "_low") = False := eq_false (by decide +kernel)
theorem ne_Coding_bits___size : ((Str.ofString "bits") = Str.ofString "_size") = False := eq_false (by decide +kernel)
theorem ne_Coding_bits___whole : ((Str.ofString "bits") = Str.ofString "_whole") = False := eq_false (by decide +kernel)
theorem ne_Coding_bits___zeros : ((Str.ofString "bits") = Str.ofString "_zeros") = False := eq_false (by decide +kernel)
theorem ne_Coding_bits___ones : ((Str.ofString "bits") = Str.ofString "_ones") = False := eq_false (by decide +kernel)
theorem ne_Coding_bits____init__ : ((Str.ofString "bits") = Str.ofString "__init__") = False := eq_false (by decide +kernel)
theorem ne_Coding_bits__shares : ((Str.ofString "bits") = Str.ofString "shares") = False := eq_false (by decide +kernel)
theorem ne_Coding_bits__interval : ((Str.ofString "bits") = Str.ofString "interval") = False := eq_false (by decide +kernel)
theorem ne_Coding_bits__border : ((Str.ofString "bits") = Str.ofString "border") = False := eq_false (by decide +kernel)
theorem ne_Coding_bits__take : ((Str.ofString "bits") = Str.ofString "take") = False := eq_false (by decide +kernel)
theorem ne_Coding__width__bits : ((Str.ofString "_width") = Str.ofString "bits") = False := eq_false (by decide +kernel)
theorem ne_Coding__width___low : ((Str.ofString "_width") = Str.ofString "_low") = False := eq_false (by decide +kernel)
theorem ne_Coding__width___size : ((Str.ofString "_width") = Str.ofString "_size") = False := eq_false (by decide +kernel)
theorem ne_Coding__width___whole : ((Str.ofString "_width") = Str.ofString "_whole") = False := eq_false (by decide +kernel)
theorem ne_Coding__width___zeros : ((Str.ofString "_width") = Str.ofString "_zeros") = False := eq_false (by decide +kernel)
theorem ne_Coding__width___ones : ((Str.ofString "_width") = Str.ofString "_ones") = False := eq_false (by decide +kernel)
theorem ne_Coding__width____init__ : ((Str.ofString "_width") = Str.ofString "__init__") = False := eq_false (by decide +kernel)
theorem ne_Coding__width__shares : ((Str.ofString "_width") = Str.ofString "shares") = False := eq_false (by decide +kernel)
theorem ne_Coding__width__interval : ((Str.ofString "_width") = Str.ofString "interval") = False := eq_false (by decide +kernel)
theorem ne_Coding__width__border : ((Str.ofString "_width") = Str.ofString "border") = False := eq_false (by decide +kernel)
theorem ne_Coding__width__take : ((Str.ofString "_width") = Str.ofString "take") = False := eq_false (by decide +kernel)
theorem ne_Coding__low__bits : ((Str.ofString "_low") = Str.ofString "bits") = False := eq_false (by decide +kernel)
theorem ne_Coding__low___width : ((Str.ofString "_low") = Str.ofString "_width") = False := eq_false (by decide +kernel)
theorem ne_Coding__low___size : ((Str.ofString "_low") = Str.ofString "_size") = False := eq_false (by decide +kernel)
theorem ne_Coding__low___whole : ((Str.ofString "_low") = Str.ofString "_whole") = False := eq_false (by decide +kernel)
theorem ne_Coding__low___zeros : ((Str.ofString "_low") = Str.ofString "_zeros") = False := eq_false (by decide +kernel)
theorem ne_Coding__low___ones : ((Str.ofString "_low") = Str.ofString "_ones") = False := eq_false (by decide +kernel)
theorem ne_Coding__low____init__ : ((Str.ofString "_low") = Str.ofString "__init__") = False := eq_false (by decide +kernel)
theorem ne_Coding__low__shares : ((Str.ofString "_low") = Str.ofString "shares") = False := eq_false (by decide +kernel)
theorem ne_Coding__low__interval : ((Str.ofString "_low") = Str.ofString "interval") = False := eq_false (by decide +kernel)
theorem ne_Coding__low__border : ((Str.ofString "_low") = Str.ofString "border") = False := eq_false (by decide +kernel)
theorem ne_Coding__low__take : ((Str.ofString "_low") = Str.ofString "take") = False := eq_false (by decide +kernel)
theorem ne_Coding__size__bits : ((Str.ofString "_size") = Str.ofString "bits") = False := eq_false (by decide +kernel)
theorem ne_Coding__size___width : ((Str.ofString "_size") = Str.ofString "_width") = False := eq_false (by decide +kernel)
theorem ne_Coding__size___low : ((Str.ofString "_size") = Str.ofString "_low") = False := eq_false (by decide +kernel)
theorem ne_Coding__size___whole : ((Str.ofString "_size") = Str.ofString "_whole") = False := eq_false (by decide +kernel)
theorem ne_Coding__size___zeros : ((Str.ofString "_size") = Str.ofString "_zeros") = False := eq_false (by decide +kernel)
theorem ne_Coding__size___ones : ((Str.ofString "_size") = Str.ofString "_ones") = False := eq_false (by decide +kernel)
theorem ne_Coding__size____init__ : ((Str.ofString "_size") = Str.ofString "__init__") = False := eq_false (by decide +kernel)
theorem ne_Coding__size__shares : ((Str.ofString "_size") = Str.ofString "shares") = False := eq_false (by decide +kernel)
theorem ne_Coding__size__interval : ((Str.ofString "_size") = Str.ofString "interval") = False := eq_false (by decide +kernel)
theorem ne_Coding__size__border : ((Str.ofString "_size") = Str.ofString "border") = False := eq_false (by decide +kernel)
theorem ne_Coding__size__take : ((Str.ofString "_size") = Str.ofString "take") = False := eq_false (by decide +kernel)
theorem ne_Coding__whole__bits : ((Str.ofString "_whole") = Str.ofString "bits") = False := eq_false (by decide +kernel)
theorem ne_Coding__whole___width : ((Str.ofString "_whole") = Str.ofString "_width") = False := eq_false (by decide +kernel)
theorem ne_Coding__whole___low : ((Str.ofString "_whole") = Str.ofString "_low") = False := eq_false (by decide +kernel)
theorem ne_Coding__whole___size : ((Str.ofString "_whole") = Str.ofString "_size") = False := eq_false (by decide +kernel)
theorem ne_Coding__whole___zeros : ((Str.ofString "_whole") = Str.ofString "_zeros") = False := eq_false (by decide +kernel)
theorem ne_Coding__whole___ones : ((Str.ofString "_whole") = Str.ofString "_ones") = False := eq_false (by decide +kernel)
theorem ne_Coding__whole____init__ : ((Str.ofString "_whole") = Str.ofString "__init__") = False := eq_false (by decide +kernel)
theorem ne_Coding__whole__shares : ((Str.ofString "_whole") = Str.ofString "shares") = False := eq_false (by decide +kernel)
theorem ne_Coding__whole__interval : ((Str.ofString "_whole") = Str.ofString "interval") = False := eq_false (by decide +kernel)
theorem ne_Coding__whole__border : ((Str.ofString "_whole") = Str.ofString "border") = False := eq_false (by decide +kernel)
theorem ne_Coding__whole__take : ((Str.ofString "_whole") = Str.ofString "take") = False := eq_false (by decide +kernel)
theorem ne_Coding__zeros__bits : ((Str.ofString "_zeros") = Str.ofString "bits") = False := eq_false (by decide +kernel)
theorem ne_Coding__zeros___width : ((Str.ofString "_zeros") = Str.ofString "_width") = False := eq_false (by decide +kernel)
theorem ne_Coding__zeros___low : ((Str.ofString "_zeros") = Str.ofString "_low") = False := eq_false (by decide +kernel)
theorem ne_Coding__zeros___size : ((Str.ofString "_zeros") = Str.ofString "_size") = False := eq_false (by decide +kernel)
theorem ne_Coding__zeros___whole : ((Str.ofString "_zeros") = Str.ofString "_whole") = False := eq_false (by decide +kernel)
theorem ne_Coding__zeros___ones : ((Str.ofString "_zeros") = Str.ofString "_ones") = False := eq_false (by decide +kernel)
theorem ne_Coding__zeros____init__ : ((Str.ofString "_zeros") = Str.ofString "__init__") = False := eq_false (by decide +kernel)
theorem ne_Coding__zeros__shares : ((Str.ofString "_zeros") = Str.ofString "shares") = False := eq_false (by decide +kernel)
theorem ne_Coding__zeros__interval : ((Str.ofString "_zeros") = Str.ofString "interval") = False := eq_false (by decide +kernel)
theorem ne_Coding__zeros__border : ((Str.ofString "_zeros") = Str.ofString "border") = False := eq_false (by decide +kernel)
theorem ne_Coding__zeros__take : ((Str.ofString "_zeros") = Str.ofString "take") = False := eq_false (by decide +kernel)
theorem ne_Coding__ones__bits : ((Str.ofString "_ones") = Str.ofString "bits") = False := eq_false (by decide +kernel)
theorem ne_Coding__ones___width : ((Str.ofString "_ones") = Str.ofString "_width") = False := eq_false (by decide +kernel)
theorem ne_Coding__ones___low : ((Str.ofString "_ones") = Str.ofString "_low") = False := eq_false (by decide +kernel)
theorem ne_Coding__ones___size : ((Str.ofString "_ones") = Str.ofString "_size") = False := eq_false (by decide +kernel)
theorem ne_Coding__ones___whole : ((Str.ofString "_ones") = Str.ofString "_whole") = False := eq_false (by decide +kernel)
theorem ne_Coding__ones___zeros : ((Str.ofString "_ones") = Str.ofString "_zeros") = False := eq_false (by decide +kernel)
theorem ne_Coding__ones____init__ : ((Str.ofString "_ones") = Str.ofString "__init__") = False := eq_false (by decide +kernel)
theorem ne_Coding__ones__shares : ((Str.ofString "_ones") = Str.ofString "shares") = False := eq_false (by decide +kernel)
theorem ne_Coding__ones__interval : ((Str.ofString "_ones") = Str.ofString "interval") = False := eq_false (by decide +kernel)
theorem ne_Coding__ones__border : ((Str.ofString "_ones") = Str.ofString "border") = False := eq_false (by decide +kernel)
theorem ne_Coding__ones__take : ((Str.ofString "_ones") = Str.ofString "take") = False := eq_false (by decide +kernel)
theorem put_Coding_bits {v0 v1 v2 v3 v4 v5 v6 : V} {z : V} : putF "bits" z (fl_Coding v0 v1 v2 v3 v4 v5 v6) = fl_Coding z v1 v2 v3 v4 v5 v6 := by
  simp only [fl_Coding, putF, if_false, if_true, reduceIte]
theorem lk_Coding_bits {v0 v1 v2 v3 v4 v5 v6 : V} : (fl_Coding v0 v1 v2 v3 v4 v5 v6).lookup ("bits" : Str) = some v0 := by
  have h := lookup_putF "bits" "bits" v0 (fl_Coding v0 v1 v2 v3 v4 v5 v6)
  rw [put_Coding_bits, if_pos rfl] at h
  exact h
theorem put_Coding__width {v0 v1 v2 v3 v4 v5 v6 : V} {z : V} : putF "_width" z (fl_Coding v0 v1 v2 v3 v4 v5 v6) = fl_Coding v0 z v2 v3 v4 v5 v6 := by
  simp only [fl_Coding, putF, ne_Coding_bits___width, if_false, if_true, reduceIte]
theorem lk_Coding__width {v0 v1 v2 v3 v4 v5 v6 : V} : (fl_Coding v0 v1 v2 v3 v4 v5 v6).lookup ("_width" : Str) = some v1 := by
  have h := lookup_putF "_width" "_width" v1 (fl_Coding v0 v1 v2 v3 v4 v5 v6)
  rw [put_Coding__width, if_pos rfl] at h
  exact h
theorem put_Coding__low {v0 v1 v2 v3 v4 v5 v6 : V} {z : V} : putF "_low" z (fl_Coding v0 v1 v2 v3 v4 v5 v6) = fl_Coding v0 v1 z v3 v4 v5 v6 := by
  simp only [fl_Coding, putF, ne_Coding_bits___low, ne_Coding__width___low, if_false, if_true, reduceIte]
theorem lk_Coding__low {v0 v1 v2 v3 v4 v5 v6 : V} : (fl_Coding v0 v1 v2 v3 v4 v5 v6).lookup ("_low" : Str) = some v2 := by
  have h := lookup_putF "_low" "_low" v2 (fl_Coding v0 v1 v2 v3 v4 v5 v6)
  rw [put_Coding__low, if_pos rfl] at h
  exact h
theorem put_Coding__size {v0 v1 v2 v3 v4 v5 v6 : V} {z : V} : putF "_size" z (fl_Coding v0 v1 v2 v3 v4 v5 v6) = fl_Coding v0 v1 v2 z v4 v5 v6 := by
  simp only [fl_Coding, putF, ne_Coding_bits___size, ne_Coding__width___size, ne_Coding__low___size, if_false, if_true, reduceIte]
theorem lk_Coding__size {v0 v1 v2 v3 v4 v5 v6 : V} : (fl_Coding v0 v1 v2 v3 v4 v5 v6).lookup ("_size" : Str) = some v3 := by
  have h := lookup_putF "_size" "_size" v3 (fl_Coding v0 v1 v2 v3 v4 v5 v6)
  rw [put_Coding__size, if_pos rfl] at h
  exact h
theorem put_Coding__whole {v0 v1 v2 v3 v4 v5 v6 : V} {z : V} : putF "_whole" z (fl_Coding v0 v1 v2 v3 v4 v5 v6) = fl_Coding v0 v1 v2 v3 z v5 v6 := by
  simp only [fl_Coding, putF, ne_Coding_bits___whole, ne_Coding__width___whole, ne_Coding__low___whole, ne_Coding__size___whole, if_false, if_true, reduceIte]
theorem lk_Coding__whole {v0 v1 v2 v3 v4 v5 v6 : V} : (fl_Coding v0 v1 v2 v3 v4 v5 v6).lookup ("_whole" : Str) = some v4 := by
  have h := lookup_putF "_whole" "_whole" v4 (fl_Coding v0 v1 v2 v3 v4 v5 v6)
  rw [put_Coding__whole, if_pos rfl] at h
  exact h
theorem put_Coding__zeros {v0 v1 v2 v3 v4 v5 v6 : V} {z : V} : putF "_zeros" z (fl_Coding v0 v1 v2 v3 v4 v5 v6) = fl_Coding v0 v1 v2 v3 v4 z v6 := by
  simp only [fl_Coding, putF, ne_Coding_bits___zeros, ne_Coding__width___zeros, ne_Coding__low___zeros, ne_Coding__size___zeros, ne_Coding__whole___zeros, if_false, if_true, reduceIte]
theorem lk_Coding__zeros {v0 v1 v2 v3 v4 v5 v6 : V} : (fl_Coding v0 v1 v2 v3 v4 v5 v6).lookup ("_zeros" : Str) = some v5 := by
  have h := lookup_putF "_zeros" "_zeros" v5 (fl_Coding v0 v1 v2 v3 v4 v5 v6)
  rw [put_Coding__zeros, if_pos rfl] at h
  exact h
theorem put_Coding__ones {v0 v1 v2 v3 v4 v5 v6 : V} {z : V} : putF "_ones" z (fl_Coding v0 v1 v2 v3 v4 v5 v6) = fl_Coding v0 v1 v2 v3 v4 v5 z := by
  simp only [fl_Coding, putF, ne_Coding_bits___ones, ne_Coding__width___ones, ne_Coding__low___ones, ne_Coding__size___ones, ne_Coding__whole___ones, ne_Coding__zeros___ones, if_false, if_true, reduceIte]
theorem lk_Coding__ones {v0 v1 v2 v3 v4 v5 v6 : V} : (fl_Coding v0 v1 v2 v3 v4 v5 v6).lookup ("_ones" : Str) = some v6 := by
  have h := lookup_putF "_ones" "_ones" v6 (fl_Coding v0 v1 v2 v3 v4 v5 v6)
  rw [put_Coding__ones, if_pos rfl] at h
  exact h
theorem len_Coding {v0 v1 v2 v3 v4 v5 v6 : V} : (fl_Coding v0 v1 v2 v3 v4 v5 v6).length = 7 := rfl
theorem few_Coding {v0 v1 v2 v3 v4 v5 v6 : V} : (fl_Coding v0 v1 v2 v3 v4 v5 v6).length < 1000 := by
  show 7 < 1000
  decide
theorem ini_Coding {v0 v1 v2 v3 v4 v5 v6 : V} : putF "_ones" v6 (putF "_zeros" v5 (putF "_whole" v4 (putF "_size" v3 (putF "_low" v2 (putF "_width" v1 (putF "bits" v0 [])))))) = fl_Coding v0 v1 v2 v3 v4 v5 v6 := by
  simp only [fl_Coding, putF, ne_Coding_bits___width, ne_Coding_bits___low, ne_Coding_bits___size, ne_Coding_bits___whole, ne_Coding_bits___zeros, ne_Coding_bits___ones, ne_Coding__width___low, ne_Coding__width___size, ne_Coding__width___whole, ne_Coding__width___zeros, ne_Coding__width___ones, ne_Coding__low___size, ne_Coding__low___whole, ne_Coding__low___zeros, ne_Coding__low___ones, ne_Coding__size___whole, ne_Coding__size___zeros, ne_Coding__size___ones, ne_Coding__whole___zeros, ne_Coding__whole___ones, ne_Coding__zeros___ones, if_false, if_true, reduceIte]
theorem no_Coding___init__ {v0 v1 v2 v3 v4 v5 v6 : V} : (fl_Coding v0 v1 v2 v3 v4 v5 v6).lookup ("__init__" : Str) = none := by
  have q : ∀ (g : Str) (u : V) (r : List (Str × V)), ¬ g = "__init__" → List.lookup (Str.ofString "__init__") ((g, u) :: r) = List.lookup (Str.ofString "__init__") r := fun g u r h => by
    have hb : ((Str.ofString "__init__") == g) = false := beq_eq_false_iff_ne.mpr (fun z => h z.symm)
    simp only [List.lookup, hb]
  unfold fl_Coding
  rw [q _ _ _ (by rw [ne_Coding_bits____init__]; exact id), q _ _ _ (by rw [ne_Coding__width____init__]; exact id), q _ _ _ (by rw [ne_Coding__low____init__]; exact id), q _ _ _ (by rw [ne_Coding__size____init__]; exact id), q _ _ _ (by rw [ne_Coding__whole____init__]; exact id), q _ _ _ (by rw [ne_Coding__zeros____init__]; exact id), q _ _ _ (by rw [ne_Coding__ones____init__]; exact id)]
  rfl
theorem no_Coding_shares {v0 v1 v2 v3 v4 v5 v6 : V} : (fl_Coding v0 v1 v2 v3 v4 v5 v6).lookup ("shares" : Str) = none := by
  have q : ∀ (g : Str) (u : V) (r : List (Str × V)), ¬ g = "shares" → List.lookup (Str.ofString "shares") ((g, u) :: r) = List.lookup (Str.ofString "shares") r := fun g u r h => by
    have hb : ((Str.ofString "shares") == g) = false := beq_eq_false_iff_ne.mpr (fun z => h z.symm)
    simp only [List.lookup, hb]
  unfold fl_Coding
  rw [q _ _ _ (by rw [ne_Coding_bits__shares]; exact id), q _ _ _ (by rw [ne_Coding__width__shares]; exact id), q _ _ _ (by rw [ne_Coding__low__shares]; exact id), q _ _ _ (by rw [ne_Coding__size__shares]; exact id), q _ _ _ (by rw [ne_Coding__whole__shares]; exact id), q _ _ _ (by rw [ne_Coding__zeros__shares]; exact id), q _ _ _ (by rw [ne_Coding__ones__shares]; exact id)]
  rfl
theorem no_Coding_interval {v0 v1 v2 v3 v4 v5 v6 : V} : (fl_Coding v0 v1 v2 v3 v4 v5 v6).lookup ("interval" : Str) = none := by
  have q : ∀ (g : Str) (u : V) (r : List (Str × V)), ¬ g = "interval" → List.lookup (Str.ofString "interval") ((g, u) :: r) = List.lookup (Str.ofString "interval") r := fun g u r h => by
    have hb : ((Str.ofString "interval") == g) = false := beq_eq_false_iff_ne.mpr (fun z => h z.symm)
    simp only [List.lookup, hb]
  unfold fl_Coding
  rw [q _ _ _ (by rw [ne_Coding_bits__interval]; exact id), q _ _ _ (by rw [ne_Coding__width__interval]; exact id), q _ _ _ (by rw [ne_Coding__low__interval]; exact id), q _ _ _ (by rw [ne_Coding__size__interval]; exact id), q _ _ _ (by rw [ne_Coding__whole__interval]; exact id), q _ _ _ (by rw [ne_Coding__zeros__interval]; exact id), q _ _ _ (by rw [ne_Coding__ones__interval]; exact id)]
  rfl
theorem no_Coding_border {v0 v1 v2 v3 v4 v5 v6 : V} : (fl_Coding v0 v1 v2 v3 v4 v5 v6).lookup ("border" : Str) = none := by
  have q : ∀ (g : Str) (u : V) (r : List (Str × V)), ¬ g = "border" → List.lookup (Str.ofString "border") ((g, u) :: r) = List.lookup (Str.ofString "border") r := fun g u r h => by
    have hb : ((Str.ofString "border") == g) = false := beq_eq_false_iff_ne.mpr (fun z => h z.symm)
    simp only [List.lookup, hb]
  unfold fl_Coding
  rw [q _ _ _ (by rw [ne_Coding_bits__border]; exact id), q _ _ _ (by rw [ne_Coding__width__border]; exact id), q _ _ _ (by rw [ne_Coding__low__border]; exact id), q _ _ _ (by rw [ne_Coding__size__border]; exact id), q _ _ _ (by rw [ne_Coding__whole__border]; exact id), q _ _ _ (by rw [ne_Coding__zeros__border]; exact id), q _ _ _ (by rw [ne_Coding__ones__border]; exact id)]
  rfl
theorem no_Coding_take {v0 v1 v2 v3 v4 v5 v6 : V} : (fl_Coding v0 v1 v2 v3 v4 v5 v6).lookup ("take" : Str) = none := by
  have q : ∀ (g : Str) (u : V) (r : List (Str × V)), ¬ g = "take" → List.lookup (Str.ofString "take") ((g, u) :: r) = List.lookup (Str.ofString "take") r := fun g u r h => by
    have hb : ((Str.ofString "take") == g) = false := beq_eq_false_iff_ne.mpr (fun z => h z.symm)
    simp only [List.lookup, hb]
  unfold fl_Coding
  rw [q _ _ _ (by rw [ne_Coding_bits__take]; exact id), q _ _ _ (by rw [ne_Coding__width__take]; exact id), q _ _ _ (by rw [ne_Coding__low__take]; exact id), q _ _ _ (by rw [ne_Coding__size__take]; exact id), q _ _ _ (by rw [ne_Coding__whole__take]; exact id), q _ _ _ (by rw [ne_Coding__zeros__take]; exact id), q _ _ _ (by rw [ne_Coding__ones__take]; exact id)]
  rfl
/-- a Coding stands at x; its two lists of counts at z and o -/
structure Cod (C : Addr) (H : Hp) (x z o : Addr) (w : Nat) (bs : List Bool) : Prop where
  ob : ∃ dx, H x = some (.ins C dx (fl_Coding (.str (Bs.S bs)) (.int (w : Int)) (.int (Iv.lo w bs : Nat)) (.int (Iv.sz w bs : Nat)) (.int (Iv.wh w bs : Nat)) (.ref z) (.ref o)))
  hz : H z = some (.lst (Iv.zl w bs))
  ho : H o = some (.lst (Iv.ol w bs))
  zo : z ≠ o
theorem Cod.keep {C x z o : Addr} {H H' : Hp} {w : Nat} {bs : List Bool} (c : Cod C H x z o w bs) (s : Same H H') : Cod C H' x z o w bs := by
  obtain ⟨⟨dx, h1⟩, h2, h3, h4⟩ := c
  exact ⟨⟨dx, s _ _ h1⟩, s _ _ h2, s _ _ h3, h4⟩
theorem Cod.xz {C x z o : Addr} {H : Hp} {w : Nat} {bs : List Bool} (c : Cod C H x z o w bs) : x ≠ z ∧ x ≠ o := by
  obtain ⟨⟨dx, h1⟩, h2, h3, h4⟩ := c
  exact ⟨ne_of h1 h2 (by intro z; cases z), ne_of h1 h3 (by intro z; cases z)⟩
theorem nx_at {w : Nat} {bs : List Bool} {f : Nat → V} : atI ((List.range 16).map f) ((Iv.nx w bs : Nat) : Int) = some (f (Iv.nx w bs)) := by
  refine atI_nat ?_
  rw [List.getElem?_map, List.getElem?_range (show Iv.nx w bs < 16 from Cx_.ctx_lt w bs bs.length)]; rfl

set_option hygiene false
local macro_rules | `(tactic| walk_at "go1") => `(tactic| (first
  | refine Gx.fp (by assumption) T.cl_Coding T.na_Coding_bits lk_Coding_bits ?_
  | refine Gx.fp (by assumption) T.cl_Coding T.na_Coding__width lk_Coding__width ?_
  | refine Gx.fp (by assumption) T.cl_Coding T.na_Coding__low lk_Coding__low ?_
  | refine Gx.fp (by assumption) T.cl_Coding T.na_Coding__size lk_Coding__size ?_
  | refine Gx.fp (by assumption) T.cl_Coding T.na_Coding__whole lk_Coding__whole ?_
  | refine Gx.fp (by assumption) T.cl_Coding T.na_Coding__zeros lk_Coding__zeros ?_
  | refine Gx.fp (by assumption) T.cl_Coding T.na_Coding__ones lk_Coding__ones ?_))
set_option hygiene true
/-- the law's own: True, whatever the script -/
def spLaw (K : PySem.W.Frag) : Sp := fun vs H Q _ => ∃ (a : Addr) (ns : List Int), vs = [.ref a] ∧ SqL K H a (ns.map V.int) ∧ ns.length ≤ 63 ∧ (∀ z ∈ ns, Builtin.Int.intBits z ≤ 1048576) ∧ ∀ H', Q (.bl true) H' 
def sp_Coding_interval (C : Addr) : Sp := fun vs H Q _ => ∃ (x z o : Addr) (w : Nat) (bs : List Bool), vs = [.ref x] ∧ Cod C H x z o w bs ∧
  ∀ (p : Addr), H p = none → Q (.ref p) (upd H p (.tup [.int (Iv.lo w bs : Nat), .int (Iv.sz w bs : Nat), .int (Iv.wh w bs : Nat)]))

theorem sc_Coding_interval : FnScope ["self"] ["self"] (defScope s_Coding_interval) := ⟨rfl, rfl, rfl, by decide +kernel, rfl, by decide +kernel, by decide +kernel⟩
theorem ok_Coding_interval (T : Tx P K mg) : FnOk P w K mg base CX0 1 T.Coding_interval.a T.Coding_interval.d ["self"] (sp_Coding_interval T.a_Coding) := by
  refine T.Coding_interval.f.ok sc_Coding_interval (fun vs H Q E h => ?_) (fun cdv A outer s H vs Q E hr h => ⟨_, pss_one (ps_ret (pe_tup (pa_cons (pe_fld (pv 0) rfl) (pa_cons (pe_fld (pv 0) rfl) (pa_cons (pe_fld (pv 0) rfl) pa_nil))))), ?_⟩)
  · obtain ⟨x, z, o, w, bs, rfl, _⟩ := h
    rfl
  · skip
    obtain ⟨x, z, o, w, bs, rfl, ⟨⟨dx, hx⟩, hz, ho, hzo⟩, q⟩ := h
    walk_at "go"
    exact Gx.tupP (by show 3 ≤ sizeLine; decide) q

theorem cp_Coding_interval {C x z o : Addr} {w : Nat} {bs : List Bool} {H : Hp} {Q : VK} {E : XK} (c : Cod C H x z o w bs)
    (q : ∀ (p : Addr), H p = none → Q (.ref p) (upd H p (.tup [.int (Iv.lo w bs : Nat), .int (Iv.sz w bs : Nat), .int (Iv.wh w bs : Nat)]))) : Gx.CP (sp_Coding_interval C) [.ref x] [] H Q E := ⟨x, z, o, w, bs, rfl, c, q⟩

/-- the context of a place -/
def sp_context : Sp := fun vs H Q _ => ∃ (w n : Nat) (bs : List Bool), vs = [.int (w : Int), .str (Bs.S bs), .int (n : Int)] ∧ 0 < w ∧ n ≤ bs.length ∧ bs.length ≤ 100000 ∧ Q (.int (Cx_.ctx w bs n : Nat)) H

theorem sc_context : FnScope ["width", "bits", "place", "column", "total"] ["width", "bits", "place"] (defScope s_context) := ⟨rfl, rfl, rfl, by decide +kernel, rfl, by decide +kernel, by decide +kernel⟩
theorem ok_context (T : Tx P K mg) : FnOk P w K mg base CX0 1 T.context.a T.context.d ["width", "bits", "place"] (sp_context) := by
  refine T.context.f.ok sc_context (fun vs H Q E h => ?_) (fun cdv A outer s H vs Q E hr h => ⟨_, pss_cons (ps_set (i := 3) sc_context.nd rfl (Or.inl rfl) (pe_op op_mod (pv 2) (pv 0)))
      (pss_cons (ps_set (i := 4) sc_context.nd rfl (Or.inl rfl) (pe_int))
      (C8.pss_cut (ps_if (PW.pt (pw_and (pt_cmpR op_ne (pv 3) (pe_int) (nomark _)) (pw_and1 (pt_cmpR op_eq (pe_ix (Gx.ix_seqK (K := K) rfl) (pv 1) (pe_op op_sub (pv 2) (pe_int)) (fun _ _ => rfl)) (pe_str) (nomark _))))) (pss_one (ps_aug (i := 4) sc_context.nd rfl (Or.inl rfl) (pe_int) ip_add)) (pss_nil))
      (C8.pss_cut (ps_if (pt_cmpR op_ge (pv 2) (pv 0) (nomark _)) (C8.pss_cut (ps_if (PW.pt (pw_and (pt_cmpR op_ne (pv 3) (pe_int) (nomark _)) (pw_and1 (pt_cmpR op_eq (pe_ix (Gx.ix_seqK (K := K) rfl) (pv 1) (pe_op op_sub (pe_op op_sub (pv 2) (pv 0)) (pe_int)) (fun _ _ => rfl)) (pe_str) (nomark _))))) (pss_one (ps_aug (i := 4) sc_context.nd rfl (Or.inl rfl) (pe_int) ip_add)) (pss_nil))
      (C8.pss_cut (ps_if (pt_cmpR op_eq (pe_ix (Gx.ix_seqK (K := K) rfl) (pv 1) (pe_op op_sub (pv 2) (pv 0)) (fun _ _ => rfl)) (pe_str) (nomark _)) (pss_one (ps_aug (i := 4) sc_context.nd rfl (Or.inl rfl) (pe_int) ip_add)) (pss_nil))
      (pss_one (ps_if (PW.pt (pw_and (pt_cmpR op_lt (pv 3) (pe_op op_sub (pv 0) (pe_int)) (nomark _)) (pw_and1 (pt_cmpR op_eq (pe_ix (Gx.ix_seqK (K := K) rfl) (pv 1) (pe_op op_add (pe_op op_sub (pv 2) (pv 0)) (pe_int)) (fun _ _ => rfl)) (pe_str) (nomark _))))) (pss_one (ps_aug (i := 4) sc_context.nd rfl (Or.inl rfl) (pe_int) ip_add)) (pss_nil))))) (pss_nil))
      (pss_one (ps_ret (pv 4)))))), ?_⟩)
  · obtain ⟨w, n, bs, rfl, _⟩ := h
    rfl
  · skip
    obtain ⟨w, n, bs, rfl, hw, hn, hb, q⟩ := h
    walk_at "go"
    refine Gx.ic (by omega) ?_
    have hc : (n : Int) % (w : Int) = ((n % w : Nat) : Int) := by omega
    have hml := Nat.mod_lt n hw
    rw [hc]
    walk_at "go"
    have nz : (!decide (((n % w : Nat) : Int) = 0)) = decide (n % w ≠ 0) := by
      rw [← decide_not]; exact decide_eq_decide.mpr (by omega)
    refine Gx.cut (fun σ' H' => H' = H ∧ σ' = [some (.int (w : Int)), some (.str (Bs.S bs)), some (.int (n : Int)), some (.int ((n % w : Nat) : Int)), some (.int ((if n % w ≠ 0 ∧ bs.getD (n - 1) false = true then 1 else 0 : Nat) : Int))]) ?_ ?_
    · walk_at "go"
      rw [nz]
      refine Gx.if_d (fun h1 => ?_) (fun h1 => ?_)
      · walk_at "go"
        have hne : n ≠ 0 := fun e => h1 (by rw [e, Nat.zero_mod])
        refine Bs.ix (by omega) (by omega) (by omega) ?_
        rw [show ((n : Int) - 1).toNat = n - 1 by omega]
        walk_at "go"
        rw [Bs.eq1]
        refine Gx.if_b (fun h2 => ?_) (fun h2 => ?_)
        · walk_at "go"
          refine ⟨rfl, ?_⟩
          rw [if_pos ⟨h1, h2⟩]; rfl
        · walk_at "go"
          refine ⟨rfl, ?_⟩
          rw [if_neg (fun z => by rw [h2] at z; exact absurd z.2 (by decide))]; rfl
      · walk_at "go"
        refine ⟨rfl, ?_⟩
        rw [if_neg (fun z => h1 z.1)]; rfl
    · rintro σ' H' ⟨rfl, rfl⟩
      generalize ht : (if n % w ≠ 0 ∧ bs.getD (n - 1) false = true then 1 else 0 : Nat) = t
      refine Gx.cut (fun σ' H2 => H2 = H' ∧ σ' = [some (.int (w : Int)), some (.str (Bs.S bs)), some (.int (n : Int)), some (.int ((n % w : Nat) : Int)), some (.int ((Cx_.ctx w bs n : Nat) : Int))]) ?_ ?_
      · walk_at "go"
        refine Gx.if_d (fun h1 => ?_) (fun h1 => ?_)
        · refine Gx.cut (fun σ' H2 => H2 = H' ∧ σ' = [some (.int (w : Int)), some (.str (Bs.S bs)), some (.int (n : Int)), some (.int ((n % w : Nat) : Int)), some (.int ((t + (if n % w ≠ 0 ∧ bs.getD (n - w - 1) false = true then 2 else 0) : Nat) : Int))]) ?_ ?_
          · walk_at "go"
            rw [nz]
            refine Gx.if_d (fun h1 => ?_) (fun h1 => ?_)
            · walk_at "go"
              have hne : n ≠ w := fun e => h1 (by rw [e, Nat.mod_self])
              refine Bs.ix (by omega) (by omega) (by omega) ?_
              rw [show ((n : Int) - (w : Int) - 1).toNat = n - w - 1 by omega]
              walk_at "go"
              rw [Bs.eq1]
              refine Gx.if_b (fun h2 => ?_) (fun h2 => ?_)
              · walk_at "go"
                refine ⟨rfl, ?_⟩
                rw [if_pos ⟨h1, h2⟩]; rfl
              · walk_at "go"
                refine ⟨rfl, ?_⟩
                rw [if_neg (fun z => by rw [h2] at z; exact absurd z.2 (by decide))]; rfl
            · walk_at "go"
              refine ⟨rfl, ?_⟩
              rw [if_neg (fun z => h1 z.1)]; rfl
          · rintro σ' H2 ⟨rfl, rfl⟩
            generalize ht2 : (t + (if n % w ≠ 0 ∧ bs.getD (n - w - 1) false = true then 2 else 0) : Nat) = t2
            refine Gx.cut (fun σ' H3 => H3 = H2 ∧ σ' = [some (.int (w : Int)), some (.str (Bs.S bs)), some (.int (n : Int)), some (.int ((n % w : Nat) : Int)), some (.int ((t2 + (if bs.getD (n - w) false = true then 4 else 0) : Nat) : Int))]) ?_ ?_
            · walk_at "go"
              refine Bs.ix (by omega) (by omega) (by omega) ?_
              rw [show ((n : Int) - (w : Int)).toNat = n - w by omega]
              walk_at "go"
              rw [Bs.eq1]
              refine Gx.if_b (fun h2 => ?_) (fun h2 => ?_)
              · walk_at "go"
                refine ⟨rfl, ?_⟩
                rw [if_pos h2]; rfl
              · walk_at "go"
                refine ⟨rfl, ?_⟩
                rw [if_neg (by rw [h2]; decide)]; rfl
            · rintro σ' H3 ⟨rfl, rfl⟩
              generalize ht3 : (t2 + (if bs.getD (n - w) false = true then 4 else 0) : Nat) = t3
              have fin : ∀ c : Bool, (n % w < w - 1 ∧ bs.getD (n - w + 1) false = true ↔ c = true) → Cx_.ctx w bs n = t3 + (if c = true then 8 else 0) := fun c hc => by
                unfold Cx_.ctx
                rw [if_pos (show w ≤ n by omega), ht]
                have e : (if n % w < w - 1 ∧ bs.getD (n - w + 1) false = true then 8 else 0) = (if c = true then 8 else 0 : Nat) := by
                  by_cases h : c = true
                  · rw [if_pos (hc.mpr h), if_pos h]
                  · rw [if_neg (fun z => h (hc.mp z)), if_neg h]
                rw [e]; omega
              walk_at "go"
              refine Gx.if_d (fun h1 => ?_) (fun h1 => ?_)
              · walk_at "go"
                refine Bs.ix (by omega) (by omega) (by omega) ?_
                rw [show ((n : Int) - (w : Int) + 1).toNat = n - w + 1 by omega]
                walk_at "go"
                rw [Bs.eq1]
                refine Gx.if_b (fun h2 => ?_) (fun h2 => ?_)
                · walk_at "go"
                  refine ⟨rfl, ?_⟩
                  rw [fin true (by rw [h2]; constructor <;> intro _ <;> first | trivial | exact ⟨by omega, rfl⟩)]; rfl
                · walk_at "go"
                  refine ⟨rfl, ?_⟩
                  rw [fin false (by rw [h2]; constructor <;> intro z <;> first | exact absurd z.2 (by decide) | exact absurd z (by decide))]; rfl
              · walk_at "go"
                refine ⟨rfl, ?_⟩
                rw [fin false ⟨fun z => absurd z.1 (by omega), fun z => absurd z (by decide)⟩]; rfl
        · walk_at "go"
          refine ⟨rfl, ?_⟩
          unfold Cx_.ctx
          rw [if_neg (show ¬ w ≤ n by omega), ht]; rfl
      · rintro σ' H2 ⟨rfl, rfl⟩
        walk_at "go"
        exact q

theorem cp_context {w n : Int} {bs : List Bool} {H : Hp} {Q : VK} {E : XK} (hw : 0 < w) (h0 : 0 ≤ n) (hn : n ≤ bs.length) (hb : bs.length ≤ 100000) (q : Q (.int (Cx_.ctx w.toNat bs n.toNat : Nat)) H) : Gx.CP sp_context [.int w, .str (Bs.S bs), .int n] [] H Q E :=
  ⟨w.toNat, n.toNat, bs, by rw [List.append_nil, Int.toNat_of_nonneg h0, Int.toNat_of_nonneg (Int.le_of_lt hw)], by omega, by omega, hb, q⟩

def sp_Coding_take (C : Addr) : Sp := fun vs H Q _ => ∃ (x z o : Addr) (w : Nat) (bs : List Bool) (b : Bool), vs = [.ref x, .str (Bs.S [b])] ∧ Cod C H x z o w bs ∧ 0 < w ∧ bs.length ≤ 100000 ∧
  ∀ H', Cod C H' x z o w (bs ++ [b]) → (∀ c, c ≠ x → c ≠ z → c ≠ o → H' c = H c) → Q .non H'

theorem sc_Coding_take : FnScope ["self", "bit", "here", "zeros", "ones"] ["self", "bit"] (defScope s_Coding_take) := ⟨rfl, rfl, rfl, by decide +kernel, rfl, by decide +kernel, by decide +kernel⟩
theorem ok_Coding_take (T : Tx P K mg) : FnOk P w K mg base CX0 2 T.Coding_take.a T.Coding_take.d ["self", "bit"] (sp_Coding_take T.a_Coding) := by
  refine T.Coding_take.f.ok sc_Coding_take (fun vs H Q E h => ?_) (fun cdv A outer s H vs Q E hr h => ⟨_, pss_cons (ps_set (i := 2) sc_Coding_take.nd rfl (Or.inl rfl) (pe_call (ok_context T) (hr.mono (by decide)) rfl T.context.g T.context.f.kp T.context.b .nil pass0 (pa_cons (pe_fld (pv 0) rfl) (pa_cons (pe_fld (pv 0) rfl) (pa_cons (pe_callB (Gx.c_lenK (K := K) rfl) rfl T.n_len (by decide +kernel) (pa_cons (pe_fld (pv 0) rfl) pa_nil)) pa_nil)))))
      (pss_cons (ps_set (i := 3) sc_Coding_take.nd rfl (Or.inl rfl) (pe_ix (Gx.ix_seqK (K := K) rfl) (pe_fld (pv 0) rfl) (pv 2) (fun _ _ => rfl)))
      (pss_cons (ps_set (i := 4) sc_Coding_take.nd rfl (Or.inl rfl) (pe_ix (Gx.ix_seqK (K := K) rfl) (pe_fld (pv 0) rfl) (pv 2) (fun _ _ => rfl)))
      (pss_cons (ps_fld (pv 0) (pe_op op_mul (pe_fld (pv 0) rfl) (pe_op op_add (pv 3) (pv 4))) rfl)
      (pss_cons (ps_fld (pv 0) (pe_op op_mul (pe_fld (pv 0) rfl) (pe_op op_add (pv 3) (pv 4))) rfl)
      (pss_cons (ps_if (pt_cmpR op_eq (pv 1) (pe_str) (nomark _)) (pss_cons (ps_fld (pv 0) (pe_op op_mul (pe_fld (pv 0) rfl) (pv 3)) rfl)
      (pss_one (ps_augS (pe_fld (pv 0) rfl) (pv 2) Gx.pget_list (pe_int) ip_add set_list))) (pss_cons (ps_fld (pv 0) (pe_op op_add (pe_fld (pv 0) rfl) (pe_op op_mul (pe_fld (pv 0) rfl) (pv 3))) rfl)
      (pss_cons (ps_fld (pv 0) (pe_op op_mul (pe_fld (pv 0) rfl) (pv 4)) rfl)
      (pss_one (ps_augS (pe_fld (pv 0) rfl) (pv 2) Gx.pget_list (pe_int) ip_add set_list)))))
      (pss_one (ps_fld (pv 0) (pe_op Gx.o_addS (pe_fld (pv 0) rfl) (pv 1)) rfl))))))), ?_⟩)
  · obtain ⟨x, z, o, w, bs, b, rfl, _⟩ := h
    rfl
  · skip
    obtain ⟨x, z, o, w, bs, b, rfl, cod, hw, hb, q⟩ := h
    have hxz := cod.xz
    obtain ⟨⟨dx, hx⟩, hz, ho, hzo⟩ := cod
    have hzl := (Iv.zs_le w bs (Iv.nx w bs))
    have hol := (Iv.os_le w bs (Iv.nx w bs))
    walk_at "go"
    refine Bs.lenB (by omega) ?_
    walk_at "go"
    refine cp_context (by omega) (by omega) (by omega) hb ?_
    rw [Int.toNat_natCast, Int.toNat_natCast]
    walk_at "go"
    refine Gx.ixL (SqL.of hz) nx_at ?_
    walk_at "go"
    refine Gx.ixL (SqL.of ho) nx_at ?_
    walk_at "go"
    refine Gx.ic (.inr (by omega)) ?_
    walk_at "go"
    refine Gx.sfp hx T.cl_Coding T.na_Coding__low few_Coding put_Coding__low ?_
    have hx1 := upd_same (H := H) (a := x) (o := .ins T.a_Coding dx (fl_Coding (.str (Bs.S bs)) (.int (w : Int)) (.int ((Iv.lo w bs : Nat) * ((Iv.zs w bs (Iv.nx w bs) : Nat) + (Iv.os w bs (Iv.nx w bs) : Nat)))) (.int (Iv.sz w bs : Nat)) (.int (Iv.wh w bs : Nat)) (.ref z) (.ref o)))
    walk_at "go"
    refine Gx.ic (.inr (by omega)) ?_
    walk_at "go"
    refine Gx.sfp hx1 T.cl_Coding T.na_Coding__whole few_Coding put_Coding__whole ?_
    rw [upd_upd]
    clear hx1
    walk_at "go"
    rw [Bs.eq0]
    cases b with
    | false =>
      walk_at "go"
      refine Gx.fp upd_same T.cl_Coding T.na_Coding__size lk_Coding__size ?_
      walk_at "go"
      refine Gx.ic (.inr (by omega)) ?_
      walk_at "go"
      refine Gx.sfp upd_same T.cl_Coding T.na_Coding__size few_Coding put_Coding__size ?_
      rw [upd_upd]
      walk_at "go"
      refine Gx.fp upd_same T.cl_Coding T.na_Coding__zeros lk_Coding__zeros ?_
      walk_at "go"
      refine Gx.getN (SqL.of (by rw [upd_ne hxz.1.symm]; exact hz)) (by have := Cx_.ctx_lt w bs bs.length; omega) (Iv.zl_get (Cx_.ctx_lt w bs bs.length)) ?_
      walk_at "go"
      refine Gx.agL (by rw [upd_ne hxz.1.symm]; exact hz) (by unfold Iv.zl; rw [List.length_map, List.length_range]; exact Cx_.ctx_lt w bs bs.length) ?_
      walk_at "go"
      refine Gx.fp (by rw [upd_ne hxz.1]; exact upd_same) T.cl_Coding T.na_Coding_bits lk_Coding_bits ?_
      walk_at "go"
      refine Gx.addS (by rw [Bs.len, Bs.len, sizeLine_eq]; show _ + 1 ≤ _; omega) ?_
      rw [Bs.cat]
      walk_at "go"
      refine Gx.sfp (by rw [upd_ne hxz.1]; exact upd_same) T.cl_Coding T.na_Coding_bits few_Coding put_Coding_bits ?_
      refine q _ ⟨⟨dx, ?_⟩, ?_, ?_, hzo⟩ fun c h1 h2 h3 => ?_
      · rw [upd_same, Iv.lo_app hw, Iv.sz_app hw, Iv.wh_app hw]
        simp only [Bool.false_eq_true, if_false, Nat.add_zero, Iv.both, Int.natCast_mul, Int.natCast_add]
      · rw [upd_ne hxz.1.symm, upd_same]; exact congrArg (fun l => some (HO.lst l)) (Iv.zl_app0 hw)
      · rw [upd_ne hxz.2.symm, upd_ne hzo.symm, upd_ne hxz.2.symm, ho, Iv.ol_app0 hw]
      · rw [upd_ne h1, upd_ne h2, upd_ne h1]
    | true =>
      walk_at "go"
      refine Gx.fp upd_same T.cl_Coding T.na_Coding__low lk_Coding__low ?_
      walk_at "go"
      refine Gx.fp upd_same T.cl_Coding T.na_Coding__size lk_Coding__size ?_
      walk_at "go"
      refine Gx.ic (.inr (by omega)) ?_
      walk_at "go"
      refine Gx.sfp upd_same T.cl_Coding T.na_Coding__low few_Coding put_Coding__low ?_
      rw [upd_upd]
      walk_at "go"
      refine Gx.fp upd_same T.cl_Coding T.na_Coding__size lk_Coding__size ?_
      walk_at "go"
      refine Gx.ic (.inr (by omega)) ?_
      walk_at "go"
      refine Gx.sfp upd_same T.cl_Coding T.na_Coding__size few_Coding put_Coding__size ?_
      rw [upd_upd]
      walk_at "go"
      refine Gx.fp upd_same T.cl_Coding T.na_Coding__ones lk_Coding__ones ?_
      walk_at "go"
      refine Gx.getN (SqL.of (by rw [upd_ne hxz.2.symm]; exact ho)) (by have := Cx_.ctx_lt w bs bs.length; omega) (Iv.ol_get (Cx_.ctx_lt w bs bs.length)) ?_
      walk_at "go"
      refine Gx.agL (by rw [upd_ne hxz.2.symm]; exact ho) (by unfold Iv.ol; rw [List.length_map, List.length_range]; exact Cx_.ctx_lt w bs bs.length) ?_
      walk_at "go"
      refine Gx.fp (by rw [upd_ne hxz.2]; exact upd_same) T.cl_Coding T.na_Coding_bits lk_Coding_bits ?_
      walk_at "go"
      refine Gx.addS (by rw [Bs.len, Bs.len, sizeLine_eq]; show _ + 1 ≤ _; omega) ?_
      rw [Bs.cat]
      walk_at "go"
      refine Gx.sfp (by rw [upd_ne hxz.2]; exact upd_same) T.cl_Coding T.na_Coding_bits few_Coding put_Coding_bits ?_
      refine q _ ⟨⟨dx, ?_⟩, ?_, ?_, hzo⟩ fun c h1 h2 h3 => ?_
      · rw [upd_same, Iv.lo_app hw, Iv.sz_app hw, Iv.wh_app hw]
        simp only [if_true, Iv.both, Int.natCast_mul, Int.natCast_add]
      · rw [upd_ne hxz.1.symm, upd_ne hzo, upd_ne hxz.1.symm, hz, Iv.zl_app1 hw]
      · rw [upd_ne hxz.2.symm, upd_same]; exact congrArg (fun l => some (HO.lst l)) (Iv.ol_app1 hw)
      · rw [upd_ne h1, upd_ne h3, upd_ne h1]

theorem cp_Coding_take {C x z o : Addr} {w : Nat} {bs : List Bool} {b : Bool} {H : Hp} {Q : VK} {E : XK} (c : Cod C H x z o w bs) (hw : 0 < w) (hb : bs.length ≤ 100000)
    (q : ∀ H', Cod C H' x z o w (bs ++ [b]) → (∀ c, c ≠ x → c ≠ z → c ≠ o → H' c = H c) → Q .non H') : Gx.CP (sp_Coding_take C) [.ref x, .str (Bs.S [b])] [] H Q E := ⟨x, z, o, w, bs, b, rfl, c, hw, hb, q⟩

def sp_Coding_init (C : Addr) : Sp := fun vs H Q _ => ∃ (H0 : Hp) (x dx : Addr) (w : Nat), vs = [.ref x, .int (w : Int)] ∧ H x = some (.ins C dx []) ∧ 0 < w ∧ Same H0 H ∧ H0 x = none ∧
  ∀ (z o : Addr) (H' : Hp), H0 z = none → H0 o = none → Same H0 H' → Cod C H' x z o w [] → Q .non H'

theorem sc_Coding___init__ : FnScope ["self", "width"] ["self", "width"] (defScope s_Coding___init__) := ⟨rfl, rfl, rfl, by decide +kernel, rfl, by decide +kernel, by decide +kernel⟩
theorem ok_Coding___init__ (T : Tx P K mg) : FnOk P w K mg base CX0 1 T.Coding___init__.a T.Coding___init__.d ["self", "width"] (sp_Coding_init T.a_Coding) := by
  refine T.Coding___init__.f.ok sc_Coding___init__ (fun vs H Q E h => ?_) (fun cdv A outer s H vs Q E hr h => ⟨_, pss_cons (ps_fld (pv 0) (pe_str) rfl)
      (pss_cons (ps_fld (pv 0) (pv 1) rfl)
      (pss_cons (ps_fld (pv 0) (pe_int) rfl)
      (pss_cons (ps_fld (pv 0) (pe_int) rfl)
      (pss_cons (ps_fld (pv 0) (pe_int) rfl)
      (pss_cons (ps_fld (pv 0) (pe_op Gx.o_rep (pe_lst (pa_cons (pe_int) pa_nil)) (pe_glob (v := .int 16) rfl T.c_CONTEXTS ⟨_, rfl⟩)) rfl)
      (pss_one (ps_fld (pv 0) (pe_op Gx.o_rep (pe_lst (pa_cons (pe_int) pa_nil)) (pe_glob (v := .int 16) rfl T.c_CONTEXTS ⟨_, rfl⟩)) rfl))))))), ?_⟩)
  · obtain ⟨H0, x, dx, w, rfl, _⟩ := h
    rfl
  · skip
    obtain ⟨H0, x, dx, w, rfl, hx, hw, s0, h0, q⟩ := h
    walk_at "go"
    refine Gx.sfp hx T.cl_Coding T.na_Coding_bits (by walk_at "few") rfl ?_
    walk_at "go"
    refine Gx.sfp upd_same T.cl_Coding T.na_Coding__width (by walk_at "few") rfl ?_
    walk_at "go"
    refine Gx.sfp upd_same T.cl_Coding T.na_Coding__low (by walk_at "few") rfl ?_
    walk_at "go"
    refine Gx.sfp upd_same T.cl_Coding T.na_Coding__size (by walk_at "few") rfl ?_
    walk_at "go"
    refine Gx.sfp upd_same T.cl_Coding T.na_Coding__whole (by walk_at "few") rfl ?_
    walk_at "go"
    rw [upd_upd, upd_upd, upd_upd, upd_upd]
    refine Gx.lstP (by show 1 ≤ sizeLine; decide) fun l1 hl1 => ?_
    walk_at "go"
    refine Gx.repN (n := 16) upd_same (by decide) fun z hz => ?_
    have xl : x ≠ l1 := fun e => by rw [← e, upd_same] at hl1; cases hl1
    have xz : x ≠ z := fun e => by rw [← e, upd_ne xl, upd_same] at hz; cases hz
    walk_at "go"
    refine Gx.sfp (by rw [upd_ne xz, upd_ne xl]; exact upd_same) T.cl_Coding T.na_Coding__zeros (by walk_at "few") rfl ?_
    walk_at "go"
    refine Gx.lstP (by show 1 ≤ sizeLine; decide) fun l2 hl2 => ?_
    walk_at "go"
    refine Gx.repN (n := 16) upd_same (by decide) fun o ho => ?_
    have xl2 : x ≠ l2 := fun e => by rw [← e, upd_same] at hl2; cases hl2
    have xo : x ≠ o := fun e => by rw [← e, upd_ne xl2, upd_same] at ho; cases ho
    have zl2 : z ≠ l2 := fun e => by rw [← e, upd_ne xz.symm, upd_same] at hl2; cases hl2
    have zo : z ≠ o := fun e => by rw [← e, upd_ne zl2, upd_ne xz.symm, upd_same] at ho; cases ho
    walk_at "go"
    refine Gx.sfp (by rw [upd_ne xo, upd_ne xl2]; exact upd_same) T.cl_Coding T.na_Coding__ones (by walk_at "few") rfl ?_
    have l1z : l1 ≠ z := fun e => by rw [← e, upd_same] at hz; cases hz
    have hl10 : H l1 = none := by rw [upd_ne (Ne.symm xl)] at hl1; exact hl1
    have hz0 : H z = none := by rw [upd_ne l1z.symm, upd_ne xz.symm] at hz; exact hz
    have hl20 : H l2 = none := by
      by_cases e1 : l2 = l1
      · rw [e1]; exact hl10
      · rw [upd_ne xl2.symm, upd_ne zl2.symm, upd_ne e1, upd_ne xl2.symm] at hl2; exact hl2
    have l2o : l2 ≠ o := fun e => by rw [← e, upd_same] at ho; cases ho
    have ho0 : H o = none := by
      by_cases e1 : o = l1
      · rw [e1]; exact hl10
      · rw [upd_ne l2o.symm, upd_ne xo.symm, upd_ne zo.symm, upd_ne e1, upd_ne xo.symm] at ho; exact ho
    refine q z o _ (s0.free hz0) (s0.free ho0) ?_ ⟨⟨dx, ?_⟩, ?_, ?_, zo⟩
    · refine Gx.same_up h0 (Gx.same_up (s0.free ho0) (Gx.same_up (s0.free hl20) (Gx.same_up h0 (Gx.same_up (s0.free hz0) (Gx.same_up (s0.free hl10) (Gx.same_up h0 s0))))))
    · rw [upd_same, ini_Coding, Bs.lit_]; rfl
    · rw [upd_ne xz.symm, upd_ne zo, upd_ne zl2, upd_ne xz.symm, upd_same, Iv.nil_zl w]
    · rw [upd_ne xo.symm, upd_same, Iv.nil_ol w]


def sp_coding_of (C : Addr) : Sp := fun vs H Q _ => ∃ (w : Nat) (bs : List Bool), vs = [.int (w : Int), .str (Bs.S bs)] ∧ 0 < w ∧ bs.length ≤ 100000 ∧
  ∀ (x z o : Addr) (H' : Hp), H x = none → H z = none → H o = none → Same H H' → Cod C H' x z o w bs → Q (.ref x) H'

theorem sc_coding_of : FnScope ["width", "bits", "coding", "bit"] ["width", "bits"] (defScope s_coding_of) := ⟨rfl, rfl, rfl, by decide +kernel, rfl, by decide +kernel, by decide +kernel⟩
theorem ok_coding_of (T : Tx P K mg) : FnOk P w K mg base CX0 3 T.coding_of.a T.coding_of.d ["width", "bits"] (sp_coding_of T.a_Coding) := by
  refine T.coding_of.f.ok sc_coding_of (fun vs H Q E h => ?_) (fun cdv A outer s H vs Q E hr h => ⟨_, pss_cons (ps_set (i := 2) sc_coding_of.nd rfl (Or.inl rfl) (pe_make ⟨T.mk_Coding, T.Coding___init__.m.at_, T.Coding___init__.m.fn, T.kp_Coding⟩ (ok_Coding___init__ T) (hr.mono (by decide)) rfl T.g_Coding T.Coding___init__.b .nil pass0 (pa_cons (pv 0) pa_nil)))
      (pss_cons (ps_for PassesOwn.never rfl (pi_str (pv 1)) (pg_name (i := 3) sc_coding_of.nd rfl (Or.inl rfl))
      (pss_one (ps_expr (pe_meth (pv 2) T.cl_Coding T.Coding_take.m (ok_Coding_take T) (hr.mono (by decide)) T.Coding_take.b .nil pass0 (pa_cons (pv 3) pa_nil)))))
      (pss_one (ps_ret (pv 2)))), ?_⟩)
  · obtain ⟨w, bs, rfl, _⟩ := h
    rfl
  · skip
    obtain ⟨w, bs, rfl, hw, hb, q⟩ := h
    walk_at "go"
    intro x dx hx hdx hne
    refine ⟨H, x, dx, w, rfl, upd_same, hw, Gx.same_up hx (Gx.same_new hdx), hx, fun z o H1 hz ho s1 c1 => ⟨rfl, ?_⟩⟩
    walk_at "go"
    refine Gx.fw walk_str (fun i σ' H' => Same H H' ∧ Cod T.a_Coding H' x z o w (bs.take i) ∧ ∃ bv : Option V, σ' = [some (.int (w : Int)), some (.str (Bs.S bs)), some (.ref x), bv]) ⟨s1, c1, none, rfl⟩ (fun _ _ _ _ _ => trivial) ?_ ?_
    · rintro i v σ' H2 H2' hi ⟨s2, c2, bv, rfl⟩ ⟨rfl, c, hc, rfl⟩
      have hil : i < bs.length := by
        have e : (Bs.S bs).cps.size = bs.length := Bs.len bs
        omega
      have hcb : (⟨#[c]⟩ : Str) = Bs.S [bs.getD i false] := by
        have h := Bs.get_ hil
        rw [hc] at h
        rw [Option.some.inj h]; rfl
      rw [hcb]
      walk_at "go"
      obtain ⟨dx, hx2⟩ := c2.ob
      refine Gx.mp hx2 no_Coding_take ?_
      walk_at "go"
      refine cp_Coding_take c2 hw (by rw [List.length_take]; omega) fun H3 c3 k3 => ?_
      walk_at "go"
      have e : bs.take i ++ [bs.getD i false] = bs.take (i + 1) := by
        rw [List.take_add_one, List.getD_eq_getElem?_getD, List.getElem?_eq_getElem hil]; rfl
      rw [e] at c3
      exact ⟨fun a u ea => (k3 a (ne_of_none ea hx) (ne_of_none ea hz) (ne_of_none ea ho)).trans (s2 a u ea), c3, _, rfl⟩
    · rintro σ' H2 ⟨s2, c2, bv, rfl⟩
      have e : (Bs.S bs).cps.size = bs.length := Bs.len bs
      rw [e, List.take_length] at c2
      walk_at "go"
      exact q x z o H2 hx hz ho s2 c2

theorem cp_coding_of {C : Addr} {w : Int} {bs : List Bool} {H : Hp} {Q : VK} {E : XK} (hw : 0 < w) (hb : bs.length ≤ 100000)
    (q : ∀ (x z o : Addr) (H' : Hp), H x = none → H z = none → H o = none → Same H H' → Cod C H' x z o w.toNat bs → Q (.ref x) H') : Gx.CP (sp_coding_of C) [.int w, .str (Bs.S bs)] [] H Q E :=
  ⟨w.toNat, bs, by rw [List.append_nil, Int.toNat_of_nonneg (Int.le_of_lt hw)], by omega, hb, q⟩

def sp_interval : Sp := fun vs H Q _ => ∃ (w : Nat) (bs : List Bool), vs = [.int (w : Int), .str (Bs.S bs)] ∧ 0 < w ∧ bs.length ≤ 100000 ∧
  ∀ (p : Addr) (H' : Hp), Same H H' → H' p = some (.tup [.int (Iv.lo w bs : Nat), .int (Iv.sz w bs : Nat), .int (Iv.wh w bs : Nat)]) → Q (.ref p) H'

theorem sc_interval : FnScope ["width", "bits"] ["width", "bits"] (defScope s_interval) := ⟨rfl, rfl, rfl, by decide +kernel, rfl, by decide +kernel, by decide +kernel⟩
theorem ok_interval (T : Tx P K mg) : FnOk P w K mg base CX0 4 T.interval.a T.interval.d ["width", "bits"] (sp_interval) := by
  refine T.interval.f.ok sc_interval (fun vs H Q E h => ?_) (fun cdv A outer s H vs Q E hr h => ⟨_, pss_one (ps_ret (pe_meth0 (pe_call (ok_coding_of T) (hr.mono (by decide)) rfl T.coding_of.g T.coding_of.f.kp T.coding_of.b .nil pass0 (pa_cons (pv 0) (pa_cons (pv 1) pa_nil))) T.cl_Coding T.Coding_interval.m (ok_Coding_interval T) (hr.mono (by decide)) T.Coding_interval.b .nil pass0)), ?_⟩)
  · obtain ⟨w, bs, rfl, _⟩ := h
    rfl
  · skip
    obtain ⟨w, bs, rfl, hw, hb, q⟩ := h
    walk_at "go"
    refine cp_coding_of (by omega) hb fun x z o H1 hx hz ho s1 c1 => ?_
    rw [Int.toNat_natCast] at c1
    obtain ⟨dx, hx1⟩ := c1.ob
    walk_at "go"
    refine Gx.mp hx1 no_Coding_interval ?_
    walk_at "go"
    refine cp_Coding_interval c1 fun p hp => ?_
    exact q p _ (s1.trans (Gx.same_new hp)) upd_same

theorem cp_interval {w : Int} {bs : List Bool} {H : Hp} {Q : VK} {E : XK} (hw : 0 < w) (hb : bs.length ≤ 100000)
    (q : ∀ (p : Addr) (H' : Hp), Same H H' → H' p = some (.tup [.int (Iv.lo w.toNat bs : Nat), .int (Iv.sz w.toNat bs : Nat), .int (Iv.wh w.toNat bs : Nat)]) → Q (.ref p) H') :
    Gx.CP sp_interval [.int w, .str (Bs.S bs)] [] H Q E := ⟨w.toNat, bs, by rw [List.append_nil, Int.toNat_of_nonneg (Int.le_of_lt hw)], by omega, hb, q⟩

def sp_law_product : Sp := fun vs H Q _ => ∃ n : Nat, vs = [.int (n : Int)] ∧ n ≤ 1000 ∧ Q (.int (Pr.fct n : Nat)) H

theorem sc_law_product : FnScope ["many", "product", "k"] ["many"] (defScope s_law_product) := ⟨rfl, rfl, rfl, by decide +kernel, rfl, by decide +kernel, by decide +kernel⟩
theorem ok_law_product (T : Tx P K mg) : FnOk P w K mg base CX0 1 T.law_product.a T.law_product.d ["many"] (sp_law_product) := by
  refine T.law_product.f.ok sc_law_product (fun vs H Q E h => ?_) (fun cdv A outer s H vs Q E hr h => ⟨_, pss_cons (ps_set (i := 1) sc_law_product.nd rfl (Or.inl rfl) (pe_int))
      (pss_cons (ps_for PassesOwn.never rfl (pi_range1 rfl T.n_range (pa_cons (pv 0) pa_nil)) (pg_name (i := 2) sc_law_product.nd rfl (Or.inl rfl))
      (pss_one (ps_set (i := 1) sc_law_product.nd rfl (Or.inl rfl) (pe_op op_mul (pv 1) (pe_op op_add (pv 2) (pe_int))))))
      (pss_one (ps_ret (pv 1)))), ?_⟩)
  · obtain ⟨n, rfl, _⟩ := h
    rfl
  · skip
    obtain ⟨n, rfl, hn, q⟩ := h
    walk_at "go"
    refine Gx.r1 (by omega) (by omega) ?_
    rw [Int.toNat_natCast]
    refine Gx.fw walk_range (fun i σ' H' => H' = H ∧ ∃ v : Option V, σ' = [some (.int (n : Int)), some (.int (Pr.fct i : Nat)), v]) ⟨rfl, none, rfl⟩ (fun _ _ _ _ _ => trivial) ?_ ?_
    · rintro i x σ' H2 H2' hi ⟨rfl, v, rfl⟩ ⟨rfl, hx⟩
      have hx2 : x = .int (i : Int) := hx.trans (congrArg V.int (by omega))
      subst hx2
      walk_at "go"
      refine Gx.ic (.inr (by omega)) ?_
      walk_at "go"
      refine ⟨rfl, some (.int (i : Int)), ?_⟩
      rw [show ((Pr.fct (i + 1) : Nat) : Int) = (Pr.fct i : Int) * ((i : Int) + 1) by show ((Pr.fct i * (i + 1) : Nat) : Int) = _; rw [Int.natCast_mul]; rfl]
      rfl
    · rintro σ' H2 ⟨rfl, v, rfl⟩
      walk_at "go"
      exact q

theorem cp_law_product {n : Nat} {H : Hp} {Q : VK} {E : XK} (hn : n ≤ 1000) (q : Q (.int (Pr.fct n : Nat)) H) : Gx.CP sp_law_product [.int (n : Int)] [] H Q E := ⟨n, rfl, hn, q⟩

/-- the context of a place -/
def sp_law_context : Sp := fun vs H Q _ => ∃ (w n : Nat) (bs : List Bool), vs = [.int (w : Int), .str (Bs.S bs), .int (n : Int)] ∧ 0 < w ∧ n ≤ bs.length ∧ bs.length ≤ 100000 ∧ Q (.int (Cx_.ctx w bs n : Nat)) H

theorem sc_law_context : FnScope ["width", "bits", "place", "total"] ["width", "bits", "place"] (defScope s_law_context) := ⟨rfl, rfl, rfl, by decide +kernel, rfl, by decide +kernel, by decide +kernel⟩
theorem ok_law_context (T : Tx P K mg) : FnOk P w K mg base CX0 1 T.law_context.a T.law_context.d ["width", "bits", "place"] (sp_law_context) := by
  refine T.law_context.f.ok sc_law_context (fun vs H Q E h => ?_) (fun cdv A outer s H vs Q E hr h => ⟨_, pss_cons (ps_set (i := 3) sc_law_context.nd rfl (Or.inl rfl) (pe_int))
      (C8.pss_cut (ps_if (PW.pt (pw_and (pt_cmpR op_ne (pe_op op_mod (pe_callTy Gx.c_int rfl T.n_int (by decide +kernel) (pa_cons (pv 2) pa_nil)) (pv 0)) (pe_int) (nomark _)) (pw_and1 (pt_cmpR op_eq (pe_ix (Gx.ix_seqK (K := K) rfl) (pv 1) (pe_op op_sub (pv 2) (pe_int)) (fun _ _ => rfl)) (pe_str) (nomark _))))) (pss_one (ps_set (i := 3) sc_law_context.nd rfl (Or.inl rfl) (pe_int))) (pss_nil))
      (C8.pss_cut (ps_if (pt_cmpR op_ge (pv 2) (pv 0) (nomark _)) (C8.pss_cut (ps_if (PW.pt (pw_and (pt_cmpR op_ne (pe_op op_mod (pe_callTy Gx.c_int rfl T.n_int (by decide +kernel) (pa_cons (pv 2) pa_nil)) (pv 0)) (pe_int) (nomark _)) (pw_and1 (pt_cmpR op_eq (pe_ix (Gx.ix_seqK (K := K) rfl) (pv 1) (pe_op op_sub (pe_op op_sub (pv 2) (pv 0)) (pe_int)) (fun _ _ => rfl)) (pe_str) (nomark _))))) (pss_one (ps_set (i := 3) sc_law_context.nd rfl (Or.inl rfl) (pe_op op_add (pv 3) (pe_int)))) (pss_nil))
      (C8.pss_cut (ps_if (pt_cmpR op_eq (pe_ix (Gx.ix_seqK (K := K) rfl) (pv 1) (pe_op op_sub (pv 2) (pv 0)) (fun _ _ => rfl)) (pe_str) (nomark _)) (pss_one (ps_set (i := 3) sc_law_context.nd rfl (Or.inl rfl) (pe_op op_add (pv 3) (pe_int)))) (pss_nil))
      (pss_one (ps_if (PW.pt (pw_and (pt_cmpR op_lt (pe_op op_mod (pe_callTy Gx.c_int rfl T.n_int (by decide +kernel) (pa_cons (pv 2) pa_nil)) (pv 0)) (pe_op op_sub (pv 0) (pe_int)) (nomark _)) (pw_and1 (pt_cmpR op_eq (pe_ix (Gx.ix_seqK (K := K) rfl) (pv 1) (pe_op op_add (pe_op op_sub (pv 2) (pv 0)) (pe_int)) (fun _ _ => rfl)) (pe_str) (nomark _))))) (pss_one (ps_set (i := 3) sc_law_context.nd rfl (Or.inl rfl) (pe_op op_add (pv 3) (pe_int)))) (pss_nil))))) (pss_nil))
      (pss_one (ps_ret (pv 3))))), ?_⟩)
  · obtain ⟨w, n, bs, rfl, _⟩ := h
    rfl
  · skip
    obtain ⟨w, n, bs, rfl, hw, hn, hb, q⟩ := h
    have hc : (n : Int) % (w : Int) = ((n % w : Nat) : Int) := by omega
    have hml := Nat.mod_lt n hw
    walk_at "go"
    have nz : (!decide (((n % w : Nat) : Int) = 0)) = decide (n % w ≠ 0) := by
      rw [← decide_not]; exact decide_eq_decide.mpr (by omega)
    refine Gx.cut (fun σ' H' => H' = H ∧ σ' = [some (.int (w : Int)), some (.str (Bs.S bs)), some (.int (n : Int)), some (.int ((if n % w ≠ 0 ∧ bs.getD (n - 1) false = true then 1 else 0 : Nat) : Int))]) ?_ ?_
    · walk_at "go"
      refine Gx.ic (by omega) ?_
      rw [hc]
      walk_at "go"
      rw [nz]
      refine Gx.if_d (fun h1 => ?_) (fun h1 => ?_)
      · walk_at "go"
        have hne : n ≠ 0 := fun e => h1 (by rw [e, Nat.zero_mod])
        refine Bs.ix (by omega) (by omega) (by omega) ?_
        rw [show ((n : Int) - 1).toNat = n - 1 by omega]
        walk_at "go"
        rw [Bs.eq1]
        refine Gx.if_b (fun h2 => ?_) (fun h2 => ?_)
        · walk_at "go"
          refine ⟨rfl, ?_⟩
          rw [if_pos ⟨h1, h2⟩]; rfl
        · walk_at "go"
          refine ⟨rfl, ?_⟩
          rw [if_neg (fun z => by rw [h2] at z; exact absurd z.2 (by decide))]; rfl
      · walk_at "go"
        refine ⟨rfl, ?_⟩
        rw [if_neg (fun z => h1 z.1)]; rfl
    · rintro σ' H' ⟨rfl, rfl⟩
      generalize ht : (if n % w ≠ 0 ∧ bs.getD (n - 1) false = true then 1 else 0 : Nat) = t
      refine Gx.cut (fun σ' H2 => H2 = H' ∧ σ' = [some (.int (w : Int)), some (.str (Bs.S bs)), some (.int (n : Int)), some (.int ((Cx_.ctx w bs n : Nat) : Int))]) ?_ ?_
      · walk_at "go"
        refine Gx.if_d (fun h1 => ?_) (fun h1 => ?_)
        · refine Gx.cut (fun σ' H2 => H2 = H' ∧ σ' = [some (.int (w : Int)), some (.str (Bs.S bs)), some (.int (n : Int)), some (.int ((t + (if n % w ≠ 0 ∧ bs.getD (n - w - 1) false = true then 2 else 0) : Nat) : Int))]) ?_ ?_
          · walk_at "go"
            refine Gx.ic (by omega) ?_
            rw [hc]
            walk_at "go"
            rw [nz]
            refine Gx.if_d (fun h1 => ?_) (fun h1 => ?_)
            · walk_at "go"
              have hne : n ≠ w := fun e => h1 (by rw [e, Nat.mod_self])
              refine Bs.ix (by omega) (by omega) (by omega) ?_
              rw [show ((n : Int) - (w : Int) - 1).toNat = n - w - 1 by omega]
              walk_at "go"
              rw [Bs.eq1]
              refine Gx.if_b (fun h2 => ?_) (fun h2 => ?_)
              · walk_at "go"
                refine ⟨rfl, ?_⟩
                rw [if_pos ⟨h1, h2⟩]; rfl
              · walk_at "go"
                refine ⟨rfl, ?_⟩
                rw [if_neg (fun z => by rw [h2] at z; exact absurd z.2 (by decide))]; rfl
            · walk_at "go"
              refine ⟨rfl, ?_⟩
              rw [if_neg (fun z => h1 z.1)]; rfl
          · rintro σ' H2 ⟨rfl, rfl⟩
            generalize ht2 : (t + (if n % w ≠ 0 ∧ bs.getD (n - w - 1) false = true then 2 else 0) : Nat) = t2
            refine Gx.cut (fun σ' H3 => H3 = H2 ∧ σ' = [some (.int (w : Int)), some (.str (Bs.S bs)), some (.int (n : Int)), some (.int ((t2 + (if bs.getD (n - w) false = true then 4 else 0) : Nat) : Int))]) ?_ ?_
            · walk_at "go"
              refine Bs.ix (by omega) (by omega) (by omega) ?_
              rw [show ((n : Int) - (w : Int)).toNat = n - w by omega]
              walk_at "go"
              rw [Bs.eq1]
              refine Gx.if_b (fun h2 => ?_) (fun h2 => ?_)
              · walk_at "go"
                refine ⟨rfl, ?_⟩
                rw [if_pos h2]; rfl
              · walk_at "go"
                refine ⟨rfl, ?_⟩
                rw [if_neg (by rw [h2]; decide)]; rfl
            · rintro σ' H3 ⟨rfl, rfl⟩
              generalize ht3 : (t2 + (if bs.getD (n - w) false = true then 4 else 0) : Nat) = t3
              have fin : ∀ c : Bool, (n % w < w - 1 ∧ bs.getD (n - w + 1) false = true ↔ c = true) → Cx_.ctx w bs n = t3 + (if c = true then 8 else 0) := fun c hc => by
                unfold Cx_.ctx
                rw [if_pos (show w ≤ n by omega), ht]
                have e : (if n % w < w - 1 ∧ bs.getD (n - w + 1) false = true then 8 else 0) = (if c = true then 8 else 0 : Nat) := by
                  by_cases h : c = true
                  · rw [if_pos (hc.mpr h), if_pos h]
                  · rw [if_neg (fun z => h (hc.mp z)), if_neg h]
                rw [e]; omega
              walk_at "go"
              refine Gx.ic (by omega) ?_
              rw [hc]
              walk_at "go"
              refine Gx.if_d (fun h1 => ?_) (fun h1 => ?_)
              · walk_at "go"
                refine Bs.ix (by omega) (by omega) (by omega) ?_
                rw [show ((n : Int) - (w : Int) + 1).toNat = n - w + 1 by omega]
                walk_at "go"
                rw [Bs.eq1]
                refine Gx.if_b (fun h2 => ?_) (fun h2 => ?_)
                · walk_at "go"
                  refine ⟨rfl, ?_⟩
                  rw [fin true (by rw [h2]; constructor <;> intro _ <;> first | trivial | exact ⟨by omega, rfl⟩)]; rfl
                · walk_at "go"
                  refine ⟨rfl, ?_⟩
                  rw [fin false (by rw [h2]; constructor <;> intro z <;> first | exact absurd z.2 (by decide) | exact absurd z (by decide))]; rfl
              · walk_at "go"
                refine ⟨rfl, ?_⟩
                rw [fin false ⟨fun z => absurd z.1 (by omega), fun z => absurd z (by decide)⟩]; rfl
        · walk_at "go"
          refine ⟨rfl, ?_⟩
          unfold Cx_.ctx
          rw [if_neg (show ¬ w ≤ n by omega), ht]; rfl
      · rintro σ' H2 ⟨rfl, rfl⟩
        walk_at "go"
        exact q

theorem cp_law_context {w n : Int} {bs : List Bool} {H : Hp} {Q : VK} {E : XK} (hw : 0 < w) (h0 : 0 ≤ n) (hn : n ≤ bs.length) (hb : bs.length ≤ 100000) (q : Q (.int (Cx_.ctx w.toNat bs n.toNat : Nat)) H) : Gx.CP sp_law_context [.int w, .str (Bs.S bs), .int n] [] H Q E :=
  ⟨w.toNat, n.toNat, bs, by rw [List.append_nil, Int.toNat_of_nonneg h0, Int.toNat_of_nonneg (Int.le_of_lt hw)], by omega, by omega, hb, q⟩

/-- a number from 0 on below the limit; the box's place moves -/
def sp_law_draw : Sp := fun vs H Q _ => ∃ (H0 : Hp) (b p : Addr) (xs : List Int) (m : Int), vs = [.ref b, .int m] ∧ 0 < m ∧ Bx.Box H0 H b p xs ∧ ∀ (r : Int) (H' : Hp), 0 ≤ r → r < m → Bx.Box H0 H' b p xs → (∀ c, c ≠ b → H' c = H c) → Q (.int r) H'

theorem sc_law_draw : FnScope ["box", "many", "at"] ["box", "many"] (defScope s_law_draw) := ⟨rfl, rfl, rfl, by decide +kernel, rfl, by decide +kernel, by decide +kernel⟩
theorem ok_law_draw (T : Tx P K mg) : FnOk P w K mg base CX0 1 T.law_draw.a T.law_draw.d ["box", "many"] (sp_law_draw) := by
  refine T.law_draw.f.ok sc_law_draw (fun vs H Q E h => ?_) (fun cdv A outer s H vs Q E hr h => ⟨_, pss_cons (ps_set (i := 2) sc_law_draw.nd rfl (Or.inl rfl) (pe_ix (Gx.ix_seqK (K := K) rfl) (pv 0) (pe_int) (fun _ _ => rfl)))
      (pss_cons (ps_asg (pe_op op_add (pv 2) (pe_int)) (pg_sub (pv 0) (pe_int) set_list))
      (pss_cons (ps_if (pt_cmpR op_lt (pv 2) (pe_callB (Gx.c_lenK (K := K) rfl) rfl T.n_len (by decide +kernel) (pa_cons (pe_ix (Gx.ix_seqK (K := K) rfl) (pv 0) (pe_int) (fun _ _ => rfl)) pa_nil)) (nomark _)) (pss_one (ps_ret (pe_op op_mod (pe_callTy Gx.c_int rfl T.n_int (by decide +kernel) (pa_cons (pe_ix (Gx.ix_seqK (K := K) rfl) (pe_ix (Gx.ix_seqK (K := K) rfl) (pv 0) (pe_int) (fun _ _ => rfl)) (pv 2) (fun _ _ => rfl)) pa_nil)) (pv 1)))) (pss_nil))
      (pss_one (ps_ret (pe_op op_mod (pe_callTy Gx.c_int rfl T.n_int (by decide +kernel) (pa_cons (pe_op op_add (pe_op op_mul (pv 2) (pe_int)) (pe_int)) pa_nil)) (pv 1)))))), ?_⟩)
  · obtain ⟨H0, b, p, xs, m, rfl, _⟩ := h
    rfl
  · skip
    obtain ⟨H0, b, p, xs, m, rfl, hm, B, q⟩ := h
    have hne := B.ne
    obtain ⟨hs, nb, np, ⟨k, hk⟩, hd⟩ := B
    walk_at "go"
    refine Gx.ixL (SqL.of hk) (at_of (j := 1) rfl rfl) ?_
    walk_at "go"
    refine Gx.setL (j := 1) hk rfl ?_
    have hk2 : upd H b (.lst [.ref p, .int ((k : Int) + 1)]) b = some (.lst [.ref p, .int ((k + 1 : Nat) : Int)]) := by rw [upd_same]; rfl
    have hd2 : upd H b (.lst [.ref p, .int ((k : Int) + 1)]) p = some (.lst (xs.map V.int)) := by rw [upd_ne hne]; exact hd
    have B2 : Bx.Box H0 (upd H b (.lst [.ref p, .int ((k : Int) + 1)])) b p xs := ⟨Gx.same_up nb hs, nb, np, ⟨k + 1, hk2⟩, hd2⟩
    have kp : ∀ c, c ≠ b → upd H b (.lst [.ref p, .int ((k : Int) + 1)]) c = H c := fun c hc => upd_ne hc
    walk_at "go"
    refine Gx.ixL (SqL.of hk2) (at_of (j := 0) rfl rfl) ?_
    walk_at "go"
    refine Gx.lenL (SqL.of hd2) ?_
    rw [List.length_map]
    walk_at "go"
    refine Gx.if_d (fun hlt => ?_) (fun hge => ?_)
    · walk_at "go"
      refine Gx.ixL (SqL.of hk2) (at_of (j := 0) rfl rfl) ?_
      walk_at "go"
      refine Gx.ixL (SqL.of hd2) (Gx.at_map (by omega)) ?_
      walk_at "go"
      refine Gx.ic hm ?_
      exact q _ _ (Int.emod_nonneg _ (by omega)) (Int.emod_lt_of_pos _ hm) B2 kp
    · walk_at "go"
      refine Gx.ic (.inr (by decide)) ?_
      walk_at "go"
      refine Gx.ic hm ?_
      exact q _ _ (Int.emod_nonneg _ (by omega)) (Int.emod_lt_of_pos _ hm) B2 kp

theorem cp_law_draw {H0 H : Hp} {b p : Addr} {xs : List Int} {m : Int} {Q : VK} {E : XK} (B : Bx.Box H0 H b p xs) (hm : 0 < m) (q : ∀ (r : Int) (H' : Hp), 0 ≤ r → r < m → Bx.Box H0 H' b p xs → (∀ c, c ≠ b → H' c = H c) → Q (.int r) H') :
    Gx.CP sp_law_draw [.ref b, .int m] [] H Q E := ⟨H0, b, p, xs, m, rfl, hm, B, q⟩

/-- some bits, so many -/
def sp_law_bits : Sp := fun vs H Q _ => ∃ (H0 : Hp) (b p : Addr) (xs : List Int) (m : Nat), vs = [.ref b, .int (m : Int)] ∧ m ≤ 100000 ∧ Bx.Box H0 H b p xs ∧ ∀ (bs : List Bool) (H' : Hp), bs.length = m → Bx.Box H0 H' b p xs → (∀ c, c ≠ b → H' c = H c) → Q (.str (Bs.S bs)) H'

theorem sc_law_bits : FnScope ["box", "many", "text", "kind", "k"] ["box", "many"] (defScope s_law_bits) := ⟨rfl, rfl, rfl, by decide +kernel, rfl, by decide +kernel, by decide +kernel⟩
theorem ok_law_bits (T : Tx P K mg) : FnOk P w K mg base CX0 2 T.law_bits.a T.law_bits.d ["box", "many"] (sp_law_bits) := by
  refine T.law_bits.f.ok sc_law_bits (fun vs H Q E h => ?_) (fun cdv A outer s H vs Q E hr h => ⟨_, pss_cons (ps_set (i := 2) sc_law_bits.nd rfl (Or.inl rfl) (pe_str))
      (pss_cons (ps_set (i := 3) sc_law_bits.nd rfl (Or.inl rfl) (pe_call (ok_law_draw T) (hr.mono (by decide)) rfl T.law_draw.g T.law_draw.f.kp T.law_draw.b .nil pass0 (pa_cons (pv 0) (pa_cons (pe_int) pa_nil))))
      (pss_cons (ps_for PassesOwn.never rfl (pi_range1 rfl T.n_range (pa_cons (pv 1) pa_nil)) (pg_name (i := 4) sc_law_bits.nd rfl (Or.inl rfl))
      (pss_one (ps_if (pt_cmpR op_eq (pv 3) (pe_int) (nomark _)) (pss_one (ps_set (i := 2) sc_law_bits.nd rfl (Or.inl rfl) (pe_op Gx.o_addS (pv 2) (pe_str)))) (pss_one (ps_if (pt_cmpR op_eq (pv 3) (pe_int) (nomark _)) (pss_one (ps_set (i := 2) sc_law_bits.nd rfl (Or.inl rfl) (pe_op Gx.o_addS (pv 2) (pe_str)))) (pss_one (ps_if (PW.pt (pw_and (pt_cmpR op_eq (pv 3) (pe_int) (nomark _)) (pw_and (pt_cmpR op_gt (pv 4) (pe_int) (nomark _)) (pw_and1 (pt_cmpR op_gt (pe_call (ok_law_draw T) (hr.mono (by decide)) rfl T.law_draw.g T.law_draw.f.kp T.law_draw.b .nil pass0 (pa_cons (pv 0) (pa_cons (pe_int) pa_nil))) (pe_int) (nomark _)))))) (pss_one (ps_set (i := 2) sc_law_bits.nd rfl (Or.inl rfl) (pe_op Gx.o_addS (pv 2) (pe_ix (Gx.ix_seqK (K := K) rfl) (pv 2) (pe_op op_sub (pv 4) (pe_int)) (fun _ _ => rfl))))) (pss_one (ps_set (i := 2) sc_law_bits.nd rfl (Or.inl rfl) (pe_op Gx.o_addS (pv 2) (pe_callTy Gx.c_strI rfl T.n_str (by decide +kernel) (pa_cons (pe_call (ok_law_draw T) (hr.mono (by decide)) rfl T.law_draw.g T.law_draw.f.kp T.law_draw.b .nil pass0 (pa_cons (pv 0) (pa_cons (pe_int) pa_nil))) pa_nil))))))))))))
      (pss_one (ps_ret (pv 2))))), ?_⟩)
  · obtain ⟨H0, b, p, xs, m, rfl, _⟩ := h
    rfl
  · skip
    obtain ⟨H0, b, p, xs, m, rfl, hm, B, q⟩ := h
    walk_at "go"
    rw [Bs.lit_]
    refine cp_law_draw B (by decide) fun kd H1 hk0 hk1 B1 kp1 => ?_
    walk_at "go"
    refine Gx.r1 (by omega) (by omega) ?_
    refine Gx.fw walk_range (fun i σ' H' => ∃ (bs : List Bool) (kv : Option V), bs.length = i ∧ Bx.Box H0 H' b p xs ∧ (∀ c, c ≠ b → H' c = H c) ∧
      σ' = [some (.ref b), some (.int (m : Int)), some (.str (Bs.S bs)), some (.int kd), kv]) ⟨[], none, rfl, B1, kp1, rfl⟩ (fun _ _ _ _ _ => trivial) ?_ ?_
    · rintro i x σ' H2 H2' hi ⟨bs, kv, hl, B2, kp, rfl⟩ ⟨rfl, hx⟩
      have hx2 : x = .int (i : Int) := hx.trans (congrArg V.int (by omega))
      subst hx2
      have fin : ∀ (c : Bool) (H' : Hp), Bx.Box H0 H' b p xs → (∀ c, c ≠ b → H' c = H c) → ∃ (bs' : List Bool) (kv : Option V), bs'.length = i + 1 ∧ Bx.Box H0 H' b p xs ∧ (∀ c, c ≠ b → H' c = H c) ∧
          [some (V.ref b), some (.int (m : Int)), some (.str (Bs.S bs ++ Bs.S [c])), some (.int kd), some (.int (i : Int))] = [some (.ref b), some (.int (m : Int)), some (.str (Bs.S bs')), some (.int kd), kv] :=
        fun c H' B' k' => ⟨bs ++ [c], _, by rw [List.length_append, hl]; rfl, B', k', by rw [Bs.cat]⟩
      have hsz : ∀ c : Bool, (Bs.S bs).length + (Bs.S [c]).length ≤ sizeLine := fun c => by rw [Bs.len, Bs.len, sizeLine_eq]; show bs.length + 1 ≤ _; omega
      walk_at "go"
      refine Gx.if_d (fun _ => ?_) (fun _ => ?_)
      · walk_at "go"
        rw [Bs.lit0]
        refine Gx.addS (hsz _) ?_
        walk_at "go"
        exact fin _ _ B2 kp
      walk_at "go"
      refine Gx.if_d (fun _ => ?_) (fun _ => ?_)
      · walk_at "go"
        rw [Bs.lit1]
        refine Gx.addS (hsz _) ?_
        walk_at "go"
        exact fin _ _ B2 kp
      walk_at "go"
      refine Gx.if_b (fun _ => ?_) (fun _ => ?_)
      · walk_at "go"
        refine Gx.if_d (fun hi0 => ?_) (fun _ => ?_)
        · walk_at "go"
          refine cp_law_draw B2 (by decide) fun r H' _ _ B' k' => ?_
          have k2 : ∀ c, c ≠ b → H' c = H c := fun c hc => (k' c hc).trans (kp c hc)
          walk_at "go"
          refine Gx.if_b (fun _ => ?_) (fun _ => ?_)
          · walk_at "go"
            refine Bs.ix (by omega) (by omega) (by omega) ?_
            refine Gx.addS (hsz _) ?_
            walk_at "go"
            exact fin _ _ B' k2
          · walk_at "go"
            refine cp_law_draw B' (by decide) fun r H' h0 h1 B' k' => ?_
            have k2 : ∀ c, c ≠ b → H' c = H c := fun c hc => (k' c hc).trans (k2 c hc)
            walk_at "go"
            refine Bs.strbit (by omega) fun c _ => ?_
            refine Gx.addS (hsz _) ?_
            walk_at "go"
            exact fin _ _ B' k2
        · walk_at "go"
          refine cp_law_draw B2 (by decide) fun r H' h0 h1 B' k' => ?_
          have k2 : ∀ c, c ≠ b → H' c = H c := fun c hc => (k' c hc).trans (kp c hc)
          walk_at "go"
          refine Bs.strbit (by omega) fun c _ => ?_
          refine Gx.addS (hsz _) ?_
          walk_at "go"
          exact fin _ _ B' k2
      · walk_at "go"
        refine cp_law_draw B2 (by decide) fun r H' h0 h1 B' k' => ?_
        have k2 : ∀ c, c ≠ b → H' c = H c := fun c hc => (k' c hc).trans (kp c hc)
        walk_at "go"
        refine Bs.strbit (by omega) fun c _ => ?_
        refine Gx.addS (hsz _) ?_
        walk_at "go"
        exact fin _ _ B' k2
    · rintro σ' H' ⟨bs, kv, hl, B2, kp, rfl⟩
      walk_at "go"
      exact q bs H' (by omega) B2 kp

theorem cp_law_bits {H0 H : Hp} {b p : Addr} {xs : List Int} {m : Int} {Q : VK} {E : XK} (B : Bx.Box H0 H b p xs) (h0 : 0 ≤ m) (hm : m ≤ 100000) (q : ∀ (bs : List Bool) (H' : Hp), bs.length = m.toNat → Bx.Box H0 H' b p xs → (∀ c, c ≠ b → H' c = H c) → Q (.str (Bs.S bs)) H') :
    Gx.CP sp_law_bits [.ref b, .int m] [] H Q E := ⟨H0, b, p, xs, m.toNat, by rw [List.append_nil, Int.toNat_of_nonneg h0], by omega, B, q⟩

/-- a cell of the script, 0 beyond its end -/
def sp_law_cell (K : PySem.W.Frag) : Sp := fun vs H Q _ => ∃ (a : Addr) (ns : List Int) (k : Nat), vs = [.ref a, .int (k : Int)] ∧ SqL K H a (ns.map V.int) ∧ k < 100000 ∧ Q (.int (ns.getD k 0)) H

theorem sc_law_cell : FnScope ["script", "k"] ["script", "k"] (defScope s_law_cell) := ⟨rfl, rfl, rfl, by decide +kernel, rfl, by decide +kernel, by decide +kernel⟩
theorem ok_law_cell (T : Tx P K mg) : FnOk P w K mg base CX0 1 T.law_cell.a T.law_cell.d ["script", "k"] (sp_law_cell K) := by
  refine T.law_cell.f.ok sc_law_cell (fun vs H Q E h => ?_) (fun cdv A outer s H vs Q E hr h => ⟨_, pss_cons (ps_if (pt_cmpR op_lt (pv 1) (pe_callB (Gx.c_lenK (K := K) rfl) rfl T.n_len (by decide +kernel) (pa_cons (pv 0) pa_nil)) (nomark _)) (pss_one (ps_ret (pe_ix (Gx.ix_seqK (K := K) rfl) (pv 0) (pv 1) (fun _ _ => rfl)))) (pss_nil))
      (pss_one (ps_ret (pe_int))), ?_⟩)
  · obtain ⟨a, ns, k, rfl, _⟩ := h
    rfl
  · skip
    obtain ⟨a, ns, k, rfl, hs, hk, q⟩ := h
    walk_at "go"
    refine Gx.lenL hs ?_
    walk_at "go"
    refine Gx.if_d (fun hlt => ?_) (fun hge => ?_)
    · rw [List.length_map] at hlt
      walk_at "go"
      exact Gx.ixL hs (Gx.at_map (by omega)) q
    · rw [List.length_map] at hge
      walk_at "go"
      have e : ns.getD k 0 = 0 := by
        rw [List.getD_eq_getElem?_getD, List.getElem?_eq_none (by omega)]; rfl
      rw [e] at q
      exact q

theorem cp_law_cell {K : PySem.W.Frag} {a : Addr} {ns : List Int} {k : Int} {H : Hp} {Q : VK} {E : XK} (hs : SqL K H a (ns.map V.int)) (h0 : 0 ≤ k) (h1 : k < 100000) (q : ∀ z : Int, (z ∈ ns ∨ z = 0) → Q (.int z) H) : Gx.CP (sp_law_cell K) [.ref a, .int k] [] H Q E := by
  refine ⟨a, ns, k.toNat, by rw [List.append_nil, Int.toNat_of_nonneg h0], hs, by omega, q _ ?_⟩
  rw [List.getD_eq_getElem?_getD]
  by_cases h : k.toNat < ns.length
  · rw [List.getElem?_eq_getElem h]; exact .inl (List.getElem_mem h)
  · rw [List.getElem?_eq_none (by omega)]; exact .inr rfl

/-- a new list of ints, as the script has them -/
def sp_law_digits (K : PySem.W.Frag) : Sp := fun vs H Q _ => ∃ (a : Addr) (ns : List Int) (f l : Nat), vs = [.ref a, .int (f : Int), .int (l : Int)] ∧ SqL K H a (ns.map V.int) ∧ f ≤ l ∧ l ≤ 1000 ∧
  ∀ (xs : List Int) (p : Addr) (H' : Hp), H p = none → Same H H' → H' p = some (.lst (xs.map V.int)) → Q (.ref p) H'

theorem sc_law_digits : FnScope ["script", "first", "last", "digits", "k", "cell", "turn", "seed"] ["script", "first", "last"] (defScope s_law_digits) := ⟨rfl, rfl, rfl, by decide +kernel, rfl, by decide +kernel, by decide +kernel⟩
theorem ok_law_digits (T : Tx P K mg) : FnOk P w K mg base CX0 2 T.law_digits.a T.law_digits.d ["script", "first", "last"] (sp_law_digits K) := by
  refine T.law_digits.f.ok sc_law_digits (fun vs H Q E h => ?_) (fun cdv A outer s H vs Q E hr h => ⟨_, pss_cons (ps_set (i := 3) sc_law_digits.nd rfl (Or.inl rfl) (pe_lst pa_nil))
      (pss_cons (ps_for PassesOwn.never rfl (pi_range2 rfl T.n_range (pa_cons (pv 1) (pa_cons (pv 2) pa_nil))) (pg_name (i := 4) sc_law_digits.nd rfl (Or.inl rfl))
      (pss_cons (ps_set (i := 5) sc_law_digits.nd rfl (Or.inl rfl) (pe_call (ok_law_cell T) (hr.mono (by decide)) rfl T.law_cell.g T.law_cell.f.kp T.law_cell.b .nil pass0 (pa_cons (pv 0) (pa_cons (pv 4) pa_nil))))
      (C8.pss_cut (ps_if (pt_cmpR op_lt (pv 5) (pe_int) (nomark _)) (pss_one (ps_set (i := 5) sc_law_digits.nd rfl (Or.inl rfl) (pe_op op_sub (pe_int) (pe_op op_mul (pe_int) (pv 5))))) (pss_nil))
      (pss_one (ps_if (pt_cmpR op_ge (pv 5) (pe_int) (nomark _)) (pss_one (ps_for PassesOwn.never rfl (pi_range1 rfl T.n_range (pa_cons (pe_int) pa_nil)) (pg_name (i := 6) sc_law_digits.nd rfl (Or.inl rfl))
      (pss_one (ps_if (pt_cmpR op_gt (pv 5) (pe_int) (nomark _)) (pss_cons (ps_expr (pe_bm PySem.F.plainAttrs_list PySem.F.slot_list_append PySem.F.type_list_append mt_append (pv 3) (pa_cons (pe_op op_mod (pe_callTy Gx.c_int rfl T.n_int (by decide +kernel) (pa_cons (pv 5) pa_nil)) (pe_int)) pa_nil)))
      (pss_one (ps_set (i := 5) sc_law_digits.nd rfl (Or.inl rfl) (pe_op op_fdiv (pv 5) (pe_int))))) (pss_nil))))) (pss_cons (ps_set (i := 7) sc_law_digits.nd rfl (Or.inl rfl) (pe_op op_mod (pe_callTy Gx.c_int rfl T.n_int (by decide +kernel) (pa_cons (pe_op op_add (pe_op op_add (pe_op op_mul (pv 5) (pe_int)) (pe_op op_mul (pv 4) (pe_int))) (pe_int)) pa_nil)) (pe_int)))
      (pss_one (ps_for PassesOwn.never rfl (pi_range1 rfl T.n_range (pa_cons (pe_int) pa_nil)) (pg_name (i := 6) sc_law_digits.nd rfl (Or.inl rfl))
      (pss_cons (ps_set (i := 7) sc_law_digits.nd rfl (Or.inl rfl) (pe_op op_mod (pe_callTy Gx.c_int rfl T.n_int (by decide +kernel) (pa_cons (pe_op op_add (pe_op op_add (pe_op op_mul (pv 7) (pe_int)) (pe_op op_mul (pe_int) (pv 6))) (pe_int)) pa_nil)) (pe_int)))
      (pss_one (ps_expr (pe_bm PySem.F.plainAttrs_list PySem.F.slot_list_append PySem.F.type_list_append mt_append (pv 3) (pa_cons (pe_op op_mod (pe_callTy Gx.c_int rfl T.n_int (by decide +kernel) (pa_cons (pe_op op_fdiv (pv 7) (pe_int)) pa_nil)) (pe_int)) pa_nil)))))))))))))
      (pss_one (ps_ret (pv 3)))), ?_⟩)
  · obtain ⟨a, ns, f, l, rfl, _⟩ := h
    rfl
  · skip
    obtain ⟨a, ns, f, l, rfl, hs, hfl, hl, q⟩ := h
    walk_at "go"
    refine Gx.lstP (Nat.zero_le _) fun p hp => ?_
    walk_at "go"
    refine Gx.r2 (by omega) ?_
    refine Gx.fw walk_range (fun i σ' H' => ∃ (xs : List Int) (k c t sd : Option V), xs.length ≤ 60 * i ∧ Same H H' ∧ H' p = some (.lst (xs.map V.int)) ∧
      σ' = [some (.ref a), some (.int (f : Int)), some (.int (l : Int)), some (.ref p), k, c, t, sd]) ?_ (fun _ _ _ _ _ => trivial) ?_ ?_
    · exact ⟨[], none, none, none, none, Nat.zero_le _, Gx.same_new hp, upd_same, rfl⟩
    · rintro i x σ' H1 H1' hi ⟨xs, k, c, t, sd, hx, s1, hL, rfl⟩ ⟨rfl, hxi⟩
      have hxi2 : x = .int ((f + i : Nat) : Int) := hxi.trans (congrArg V.int (by omega))
      subst hxi2
      have hz : ∀ ys : List Int, ys.length ≤ 60 * i + 60 → (ys.map V.int).length < sizeLine := fun ys h => by rw [List.length_map, sizeLine_eq]; omega
      walk_at "go"
      refine cp_law_cell (s1.seq hs) (by omega) (by omega) fun c0 _ => ?_
      walk_at "go"
      refine Gx.cut (fun σ' H' => H' = H1' ∧ ∃ c1 : Int, σ' = [some (.ref a), some (.int (f : Int)), some (.int (l : Int)), some (.ref p), some (.int ((f + i : Nat) : Int)), some (.int c1), t, sd]) ?_ ?_
      · walk_at "go"
        refine Gx.if_d (fun _ => ?_) (fun _ => ?_)
        · walk_at "go"
          refine Gx.ic (.inl (by decide)) ?_
          walk_at "go"
          exact ⟨rfl, _, rfl⟩
        · walk_at "go"
          exact ⟨rfl, _, rfl⟩
      · rintro σ' H' ⟨rfl, c1, rfl⟩
        walk_at "go"
        refine Gx.if_b (fun _ => ?_) (fun _ => ?_)
        · walk_at "go"
          refine Gx.r1 (by decide) (by decide) ?_
          refine Gx.fw walk_range (fun j σ' H' => ∃ (ys : List Int) (c t : Option V) (cc : Int), ys.length ≤ 60 * i + j ∧ Same H H' ∧ H' p = some (.lst (ys.map V.int)) ∧
            σ' = [some (.ref a), some (.int (f : Int)), some (.int (l : Int)), some (.ref p), some (.int ((f + i : Nat) : Int)), some (.int cc), t, sd]) ⟨xs, none, t, c1, by omega, s1, hL, rfl⟩ (fun _ _ _ _ _ => trivial) ?_ ?_
          · rintro j x σ' H2 H2' hj ⟨ys, _, t, cc, hy, s2, hL2, rfl⟩ ⟨rfl, hxj⟩
            walk_at "go"
            refine Gx.if_b (fun _ => ?_) (fun _ => ?_)
            · walk_at "go"
              refine Gx.bmS (Gx.tyL (SqL.of hL2)) ?_
              walk_at "go"
              refine Gx.ic (by decide) ?_
              walk_at "go"
              refine Gx.app hL2 (hz ys (by omega)) ?_
              walk_at "go"
              refine Gx.ic ⟨by decide, by decide⟩ ?_
              walk_at "go"
              exact ⟨ys ++ [cc % 1000], none, some x, _, by rw [List.length_append, List.length_singleton]; omega, Gx.same_up hp s2, Gx.snoc, rfl⟩
            · walk_at "go"
              exact ⟨ys, none, some x, cc, by omega, s2, hL2, rfl⟩
          · rintro σ' H' ⟨ys, _, t, cc, hy, s2, hL2, rfl⟩
            walk_at "go"
            exact ⟨ys, _, _, _, _, by omega, s2, hL2, rfl⟩
        · walk_at "go"
          refine Gx.ic (.inr (by decide)) ?_
          walk_at "go"
          refine Gx.ic (.inr (by decide)) ?_
          walk_at "go"
          refine Gx.ic (by decide) ?_
          walk_at "go"
          refine Gx.r1 (by decide) (by decide) ?_
          refine Gx.fw walk_range (fun j σ' H' => ∃ (ys : List Int) (t : Option V) (s0 : Int), ys.length ≤ 60 * i + j ∧ Same H H' ∧ H' p = some (.lst (ys.map V.int)) ∧ 
            σ' = [some (.ref a), some (.int (f : Int)), some (.int (l : Int)), some (.ref p), some (.int ((f + i : Nat) : Int)), some (.int c1), t, some (.int s0)]) ⟨xs, t, _, by omega, s1, hL, rfl⟩ (fun _ _ _ _ _ => trivial) ?_ ?_
          · rintro j x σ' H2 H2' hj ⟨ys, t, s0, hy, s2, hL2, rfl⟩ ⟨rfl, hxj⟩
            subst hxj
            walk_at "go"
            refine Gx.ic (.inr (by decide)) ?_
            walk_at "go"
            refine Gx.ic (.inl (by decide)) ?_
            walk_at "go"
            refine Gx.ic (by decide) ?_
            walk_at "go"
            refine Gx.bmS (Gx.tyL (SqL.of hL2)) ?_
            walk_at "go"
            refine Gx.ic ⟨by decide, by decide⟩ ?_
            walk_at "go"
            refine Gx.ic (by decide) ?_
            walk_at "go"
            refine Gx.app hL2 (hz ys (by omega)) ?_
            exact ⟨ys ++ [_], _, _, by rw [List.length_append, List.length_singleton]; omega, Gx.same_up hp s2, Gx.snoc, rfl⟩
          · rintro σ' H' ⟨ys, t, s0, hy, s2, hL2, rfl⟩
            walk_at "go"
            exact ⟨ys, _, _, _, _, by omega, s2, hL2, rfl⟩
    · rintro σ' H' ⟨xs, k, c, t, sd, hx, s1, hL, rfl⟩
      walk_at "go"
      exact q xs p H' hp s1 hL

theorem cp_law_digits {K : PySem.W.Frag} {a : Addr} {ns : List Int} {f l : Int} {H : Hp} {Q : VK} {E : XK} (hs : SqL K H a (ns.map V.int)) (h0 : 0 ≤ f) (h1 : f ≤ l) (h2 : l ≤ 1000)
    (q : ∀ (xs : List Int) (p : Addr) (H' : Hp), H p = none → Same H H' → H' p = some (.lst (xs.map V.int)) → Q (.ref p) H') : Gx.CP (sp_law_digits K) [.ref a, .int f, .int l] [] H Q E :=
  ⟨a, ns, f.toNat, l.toNat, by rw [List.append_nil, Int.toNat_of_nonneg h0, Int.toNat_of_nonneg (Int.le_trans h0 h1)], hs, by omega, by omega, q⟩


theorem sc_law : FnScope ["script", "box", "width", "bits", "seen", "k", "left", "right", "here", "zeros", "ones", "made", "zero", "one"] ["script"] (defScope s_law) := ⟨rfl, rfl, rfl, by decide +kernel, rfl, by decide +kernel, by decide +kernel⟩
theorem ok_law (T : Tx P K mg) : FnOk P w K mg base CX0 5 T.law.a T.law.d ["script"] (spLaw K) := by
  refine T.law.f.ok sc_law (fun vs H Q E h => ?_) (fun cdv A outer s H vs Q E hr h => ⟨_, pss_cons (ps_set (i := 1) sc_law.nd rfl (Or.inl rfl) (pe_lst (pa_cons (pe_call (ok_law_digits T) (hr.mono (by decide)) rfl T.law_digits.g T.law_digits.f.kp T.law_digits.b .nil pass0 (pa_cons (pv 0) (pa_cons (pe_int) (pa_cons (pe_int) pa_nil)))) (pa_cons (pe_int) pa_nil))))
      (pss_cons (ps_set (i := 2) sc_law.nd rfl (Or.inr rfl) (pe_op op_add (pe_int) (pe_call (ok_law_draw T) (hr.mono (by decide)) rfl T.law_draw.g T.law_draw.f.kp T.law_draw.b .nil pass0 (pa_cons (pv 1) (pa_cons (pe_int) pa_nil)))))
      (C8.pss_cut (ps_if (pt_cmpR op_eq (pe_call (ok_law_draw T) (hr.mono (by decide)) rfl T.law_draw.g T.law_draw.f.kp T.law_draw.b .nil pass0 (pa_cons (pv 1) (pa_cons (pe_int) pa_nil))) (pe_int) (nomark _)) (pss_one (ps_set (i := 2) sc_law.nd rfl (Or.inr rfl) (pe_op op_add (pe_int) (pe_op op_mod (pe_callTy Gx.c_int rfl T.n_int (by decide +kernel) (pa_cons (pv 2) pa_nil)) (pe_int))))) (pss_nil))
      (pss_cons (ps_set (i := 3) sc_law.nd rfl (Or.inr rfl) (pe_call (ok_law_bits T) (hr.mono (by decide)) rfl T.law_bits.g T.law_bits.f.kp T.law_bits.b .nil pass0 (pa_cons (pv 1) (pa_cons (pe_call (ok_law_draw T) (hr.mono (by decide)) rfl T.law_draw.g T.law_draw.f.kp T.law_draw.b .nil pass0 (pa_cons (pv 1) (pa_cons (pe_int) pa_nil))) pa_nil))))
      (pss_cons (ps_setLc (i := 4) (own := [("k", 5)]) (g := gName 5) (tt := tYes) rfl sc_law.nd rfl rfl (sw_true rfl rfl rfl (by decide +kernel)) (pi_range1 rfl T.n_range (pa_cons (pe_callB (Gx.c_lenK (K := K) rfl) rfl T.n_len (by decide +kernel) (pa_cons (pv 3) pa_nil)) pa_nil)) (blkOk_by (own := [("k", 5)]) (N := ["script", "box", "width", "bits", "seen", "k", "left", "right", "here", "zeros", "ones", "made", "zero", "one"]) (sc := defScope s_law) (by decide +kernel)) (fun _ _ _ _ _ => pg_name (i := 5) sc_law.nd rfl (Or.inl rfl)) (fun _ _ _ _ _ => pts_nil) (fun _ _ _ _ _ => pe_tup (pa_cons (pe_call (ok_law_context T) (hr.mono (by decide)) rfl T.law_context.g T.law_context.f.kp T.law_context.b .nil pass0 (pa_cons (pv 2) (pa_cons (pv 3) (pa_cons (pv 5) pa_nil)))) (pa_cons (pe_ix (Gx.ix_seqK (K := K) rfl) (pv 3) (pv 5) (fun _ _ => rfl)) pa_nil))))
      (pss_cons (ps_set (i := 6) sc_law.nd rfl (Or.inl rfl) (pe_int))
      (pss_cons (ps_set (i := 7) sc_law.nd rfl (Or.inl rfl) (pe_int))
      (pss_cons (ps_for PassesOwn.never rfl (pi_range1 rfl T.n_range (pa_cons (pe_int) pa_nil)) (pg_name (i := 8) sc_law.nd rfl (Or.inl rfl))
      (pss_cons (ps_set (i := 9) sc_law.nd rfl (Or.inl rfl) (pe_bm PySem.F.plainAttrs_list PySem.F.slot_list_count PySem.F.type_list_count (Ct.mt_lcountD hr.units) (pv 4) (pa_cons (pe_tup (pa_cons (pv 8) (pa_cons (pe_str) pa_nil))) pa_nil)))
      (pss_cons (ps_set (i := 10) sc_law.nd rfl (Or.inl rfl) (pe_bm PySem.F.plainAttrs_list PySem.F.slot_list_count PySem.F.type_list_count (Ct.mt_lcountD hr.units) (pv 4) (pa_cons (pe_tup (pa_cons (pv 8) (pa_cons (pe_str) pa_nil))) pa_nil)))
      (pss_cons (ps_set (i := 6) sc_law.nd rfl (Or.inl rfl) (pe_op op_mulW (pv 6) (pe_call (ok_law_product T) (hr.mono (by decide)) rfl T.law_product.g T.law_product.f.kp T.law_product.b .nil pass0 (pa_cons (pe_op op_add (pe_op op_add (pv 9) (pv 10)) (pe_int)) pa_nil))))
      (pss_one (ps_set (i := 7) sc_law.nd rfl (Or.inl rfl) (pe_op op_mulW (pe_op op_mulW (pv 7) (pe_call (ok_law_product T) (hr.mono (by decide)) rfl T.law_product.g T.law_product.f.kp T.law_product.b .nil pass0 (pa_cons (pv 9) pa_nil))) (pe_call (ok_law_product T) (hr.mono (by decide)) rfl T.law_product.g T.law_product.f.kp T.law_product.b .nil pass0 (pa_cons (pv 10) pa_nil)))))))))
      (pss_cons (ps_set (i := 11) sc_law.nd rfl (Or.inl rfl) (pe_call (ok_interval T) (hr.mono (by decide)) rfl T.interval.g T.interval.f.kp T.interval.b .nil pass0 (pa_cons (pv 2) (pa_cons (pv 3) pa_nil))))
      (pss_cons (ps_set (i := 12) sc_law.nd rfl (Or.inl rfl) (pe_call (ok_interval T) (hr.mono (by decide)) rfl T.interval.g T.interval.f.kp T.interval.b .nil pass0 (pa_cons (pv 2) (pa_cons (pe_op Gx.o_addS (pv 3) (pe_str)) pa_nil))))
      (pss_cons (ps_set (i := 13) sc_law.nd rfl (Or.inl rfl) (pe_call (ok_interval T) (hr.mono (by decide)) rfl T.interval.g T.interval.f.kp T.interval.b .nil pass0 (pa_cons (pv 2) (pa_cons (pe_op Gx.o_addS (pv 3) (pe_str)) pa_nil))))
      (pss_cons (ps_if (PW.pt (pw_or (pt_cmpR op_ne (pe_op op_mulW (pe_ix (Gx.ix_seqK (K := K) rfl) (pv 11) (pe_int) (fun _ _ => rfl)) (pv 6)) (pe_op op_mulW (pe_ix (Gx.ix_seqK (K := K) rfl) (pv 11) (pe_int) (fun _ _ => rfl)) (pv 7)) (nomark _)) (pw_or (pt_cmpR op_lt (pe_ix (Gx.ix_seqK (K := K) rfl) (pv 11) (pe_int) (fun _ _ => rfl)) (pe_int) (nomark _)) (pw_or1 (pt_cmpR op_gt (pe_op op_add (pe_ix (Gx.ix_seqK (K := K) rfl) (pv 11) (pe_int) (fun _ _ => rfl)) (pe_ix (Gx.ix_seqK (K := K) rfl) (pv 11) (pe_int) (fun _ _ => rfl))) (pe_ix (Gx.ix_seqK (K := K) rfl) (pv 11) (pe_int) (fun _ _ => rfl)) (nomark _)))))) (pss_one (ps_ret (pe_bl))) (pss_nil))
      (pss_cons (ps_if (PW.pt (pw_or (pt_cmpR op_ne (pe_ix (Gx.ix_seqK (K := K) rfl) (pv 12) (pe_int) (fun _ _ => rfl)) (pe_ix (Gx.ix_seqK (K := K) rfl) (pv 13) (pe_int) (fun _ _ => rfl)) (nomark _)) (pw_or (pt_cmpR op_ne (pe_op op_mulW (pe_ix (Gx.ix_seqK (K := K) rfl) (pv 12) (pe_int) (fun _ _ => rfl)) (pe_ix (Gx.ix_seqK (K := K) rfl) (pv 11) (pe_int) (fun _ _ => rfl))) (pe_op op_mulW (pe_ix (Gx.ix_seqK (K := K) rfl) (pv 11) (pe_int) (fun _ _ => rfl)) (pe_ix (Gx.ix_seqK (K := K) rfl) (pv 12) (pe_int) (fun _ _ => rfl))) (nomark _)) (pw_or1 (pt_cmpR op_ne (pe_op op_add (pe_ix (Gx.ix_seqK (K := K) rfl) (pv 12) (pe_int) (fun _ _ => rfl)) (pe_ix (Gx.ix_seqK (K := K) rfl) (pv 12) (pe_int) (fun _ _ => rfl))) (pe_ix (Gx.ix_seqK (K := K) rfl) (pv 13) (pe_int) (fun _ _ => rfl)) (nomark _)))))) (pss_one (ps_ret (pe_bl))) (pss_nil))
      (pss_one (ps_ret (pe_and (pe_cmpR op_eq (pe_op op_mulW (pe_op op_add (pe_ix (Gx.ix_seqK (K := K) rfl) (pv 13) (pe_int) (fun _ _ => rfl)) (pe_ix (Gx.ix_seqK (K := K) rfl) (pv 13) (pe_int) (fun _ _ => rfl))) (pe_ix (Gx.ix_seqK (K := K) rfl) (pv 11) (pe_int) (fun _ _ => rfl))) (pe_op op_mulW (pe_op op_add (pe_ix (Gx.ix_seqK (K := K) rfl) (pv 11) (pe_int) (fun _ _ => rfl)) (pe_ix (Gx.ix_seqK (K := K) rfl) (pv 11) (pe_int) (fun _ _ => rfl))) (pe_ix (Gx.ix_seqK (K := K) rfl) (pv 12) (pe_int) (fun _ _ => rfl))) (nomark _)) (pe_and (pe_cmpR op_gt (pe_ix (Gx.ix_seqK (K := K) rfl) (pv 12) (pe_int) (fun _ _ => rfl)) (pe_int) (nomark _)) (pe_one (pe_cmpR op_gt (pe_ix (Gx.ix_seqK (K := K) rfl) (pv 13) (pe_int) (fun _ _ => rfl)) (pe_int) (nomark _))))))))))))))))))), ?_⟩)
  · obtain ⟨a, ns, rfl, _⟩ := h
    rfl
  · skip
    obtain ⟨a, ns, rfl, hs, hlen, hbits, q⟩ := h
    walk_at "go"
    refine cp_law_digits hs (by decide) (by decide) (by decide) fun xs p H1 hp s1 hd => ?_
    walk_at "go"
    refine Gx.lstP (by show 2 ≤ sizeLine; decide) fun b hb => ?_
    walk_at "go"
    have B : Bx.Box H (upd H1 b (.lst [.ref p, .int 0])) b p xs := ⟨Gx.same_up (s1.free hb) s1, s1.free hb, hp, ⟨0, upd_same⟩, by rw [upd_ne (ne_of_none hd hb)]; exact hd⟩
    refine cp_law_draw B (by decide) fun w0 H2 h0 h1 B kp => ?_
    walk_at "go"
    refine Gx.cut (fun σ' H' => ∃ w : Int, 1 ≤ w ∧ w ≤ 16 ∧ Bx.Box H H' b p xs ∧ σ' = [some (.ref a), some (.ref b), some (.int w), none, none, none, none, none, none, none, none, none, none, none]) ?_ ?_
    · walk_at "go"
      refine cp_law_draw B (by decide) fun c H3 _ _ B kp => ?_
      walk_at "go"
      refine Gx.if_d (fun _ => ?_) (fun _ => ?_)
      · walk_at "go"
        refine Gx.ic (by decide) ?_
        walk_at "go"
        exact ⟨_, by omega, by omega, B, rfl⟩
      · walk_at "go"
        exact ⟨_, by omega, by omega, B, rfl⟩
    rintro σ' H' ⟨w, hw1, hw2, B, rfl⟩
    obtain ⟨w, rfl⟩ : ∃ m : Nat, w = m := ⟨w.toNat, by omega⟩
    have hw : 0 < w := by omega
    walk_at "go"
    refine cp_law_draw B (by decide) fun m H3 hm0 hm1 B kp => ?_
    obtain ⟨m, rfl⟩ : ∃ n : Nat, m = n := ⟨m.toNat, by omega⟩
    refine cp_law_bits B (by omega) (by omega) fun bs H4 hbs B kp => ?_
    rw [Int.toNat_natCast] at hbs
    subst hbs
    walk_at "go"
    refine Bs.lenB (by omega) ?_
    walk_at "go"
    refine Gx.r1 (by omega) (by omega) ?_
    rw [Int.toNat_natCast]
    refine Ct.lcTupV walk_range (by omega) (Ct.cb w bs) (fun _ _ => trivial) Gx.sameFn ?_ ?_
    · rintro i x H5 H5' R R0 hi s5 ⟨rfl, hx⟩ hr
      have hx2 : x = .int (i : Int) := hx.trans (congrArg V.int (by omega))
      subst hx2
      walk_at "go"
      refine cp_law_context (by omega) (by omega) (by omega) (by omega) ?_
      rw [Int.toNat_natCast, Int.toNat_natCast]
      walk_at "go"
      refine Bs.ix (bs := bs) (by omega) (by omega) (by omega) ?_
      rw [Int.toNat_natCast]
      walk_at "go"
      refine Gx.tupP (by show 2 ≤ sizeLine; decide) fun p hp => ?_
      exact hr p _ (Gx.same_new hp) upd_same
    intro ps H5 hps s5 hT
    walk_at "go"
    have c39 : ∀ bb c, Iv.cnt w bs bb bs.length c ≤ 39 := fun bb c => by have := Iv.cnt_le w bs bb bs.length c; omega
    obtain ⟨fl, hfl⟩ : ∃ f : Nat → Nat, f = fun c => Pr.fct (Iv.many w bs bs.length c + 1) := ⟨_, rfl⟩
    obtain ⟨fr, hfr⟩ : ∃ f : Nat → Nat, f = fun c => Pr.fct (Iv.cnt w bs false bs.length c) * Pr.fct (Iv.cnt w bs true bs.length c) := ⟨_, rfl⟩
    have bl : ∀ i, fl i < 2 ^ 560 := fun i => by
      rw [hfl]; exact Ct.fct_560 (by unfold Iv.many; have := c39 false i; have := c39 true i; omega)
    have br : ∀ i, fr i < 2 ^ 560 := fun i => by rw [hfr]; exact Ct.fct_two (c39 _ _) (c39 _ _)
    refine Gx.r1 (by decide) (by decide) ?_
    refine Gx.fw walk_range (fun i σ' H' => Same H5 H' ∧ ∃ v8 v9 v10 : Option V, σ' = [some (.ref a), some (.ref b), some (.int (w : Int)), some (.str (Bs.S bs)), some (.ref ps), none, some (.int (Pr.prod fl i : Nat)), some (.int (Pr.prod fr i : Nat)), v8, v9, v10, none, none, none]) ⟨Same.refl _, none, none, none, rfl⟩ (fun _ _ _ _ _ => trivial) ?_ ?_
    · rintro i x σ' H6 H6' hi ⟨s6, v8, v9, v10, rfl⟩ ⟨rfl, hx⟩
      have hi16 : i < 16 := hi
      have hx2 : x = .int (i : Int) := hx.trans (congrArg V.int (by omega))
      subst hx2
      have hT6 := hT.keep s6
      obtain ⟨pp, hp6, _, _⟩ := id hT6
      have bli := bl i
      have bri := Ct.prod_8961 br (k := i) (by omega)
      have bll := Ct.prod_8961 bl (k := i) (by omega)
      walk_at "go"
      refine Gx.bmS (Gx.tyL (SqL.of hp6)) ?_
      walk_at "go"
      rw [Bs.lit0, Bs.lit1]
      refine Gx.tupP (by show 2 ≤ sizeLine; decide) fun t ht => ?_
      walk_at "go"
      have sA := Gx.same_new (o := .tup [.int (i : Nat), .str (Bs.S [false])]) ht
      refine Ct.count (hT6.keep sA) upd_same ?_
      walk_at "go"
      refine Gx.bmS (Gx.tyL (SqL.of (sA _ _ hp6))) ?_
      walk_at "go"
      refine Gx.tupP (by show 2 ≤ sizeLine; decide) fun t2 ht2 => ?_
      walk_at "go"
      have sB := Gx.same_new (o := .tup [.int (i : Nat), .str (Bs.S [true])]) ht2
      refine Ct.count ((hT6.keep sA).keep sB) upd_same ?_
      walk_at "go"
      rw [show (Iv.cnt w bs false bs.length i : Int) + (Iv.cnt w bs true bs.length i : Int) + 1 = ((Iv.many w bs bs.length i + 1 : Nat) : Int) by unfold Iv.many; omega]
      have m79 : Iv.many w bs bs.length i + 1 ≤ 79 := by unfold Iv.many; have := c39 false i; have := c39 true i; omega
      refine cp_law_product (by omega) ?_
      refine Gx.ic (Ct.wm bll (Ct.fct_560 m79)) ?_
      walk_at "go"
      refine cp_law_product (by have := c39 false i; omega) ?_
      refine Gx.ic (Ct.wm bri (Ct.fct_274 (c39 _ _))) ?_
      walk_at "go"
      refine cp_law_product (by have := c39 true i; omega) ?_
      rw [← Int.natCast_mul, ← Int.natCast_mul]
      have bq : Pr.prod fr i * Pr.fct (Iv.cnt w bs false bs.length i) < 2 ^ 9235 := by
        have h := Nat.mul_lt_mul'' bri (Ct.fct_274 (c39 false i))
        rw [← Nat.pow_add] at h
        exact h
      refine Gx.ic (Ct.wm bq (Ct.fct_274 (c39 _ _))) ?_
      rw [← Int.natCast_mul]
      walk_at "go"
      refine ⟨s6.trans (sA.trans sB), some (.int (i : Nat)), some (.int (Iv.cnt w bs false bs.length i : Nat)), some (.int (Iv.cnt w bs true bs.length i : Nat)), ?_⟩
      rw [show Pr.prod fl i * Pr.fct (Iv.many w bs bs.length i + 1) = Pr.prod fl (i + 1) by rw [hfl]; rfl, show Pr.prod fr i * Pr.fct (Iv.cnt w bs false bs.length i) * Pr.fct (Iv.cnt w bs true bs.length i) = Pr.prod fr (i + 1) by rw [Nat.mul_assoc, hfr]; rfl]
      rfl
    rintro σ' H6 ⟨s6, v8, v9, v10, rfl⟩
    have hcounts := Iv.by_counts w bs bs.length
    rw [← hfl, ← hfr] at hcounts
    have b1 := Ct.prod_8961 bl (k := 16) (by omega)
    have b2 := Ct.prod_8961 br (k := 16) (by omega)
    rw [show Int.toNat 16 = 16 from rfl]
    generalize Pr.prod fl 16 = PL at *
    generalize Pr.prod fr 16 = PR at *
    walk_at "go"
    refine cp_interval (by omega) (by omega) fun q1 H7 s7 h7 => ?_
    rw [Int.toNat_natCast] at h7
    walk_at "go"
    rw [Bs.lit0, Bs.lit1]
    refine Gx.addS (by rw [Bs.len, Bs.len, sizeLine_eq]; show _ + 1 ≤ _; omega) ?_
    rw [Bs.cat]
    refine cp_interval (by omega) (by rw [List.length_append, List.length_singleton]; omega) fun q2 H8 s8 h8 => ?_
    rw [Int.toNat_natCast] at h8
    walk_at "go"
    refine Gx.addS (by rw [Bs.len, Bs.len, sizeLine_eq]; show _ + 1 ≤ _; omega) ?_
    rw [Bs.cat]
    refine cp_interval (by omega) (by rw [List.length_append, List.length_singleton]; omega) fun q3 H9 s9 h9 => ?_
    rw [Int.toNat_natCast] at h9
    have h8 := s9 _ _ h8
    have h7 := (s8.trans s9) _ _ h7
    rw [Iv.lo_app hw, Iv.sz_app hw, Iv.wh_app hw] at h8 h9
    rw [if_neg (by decide), if_neg (by decide), Nat.add_zero] at h8
    rw [if_pos rfl, if_pos rfl] at h9
    have hlo := Iv.lo_sz w bs
    have hsz := Iv.sz_pos w bs
    have hwh := Iv.wh_pow (w := w) (bs := bs) (by omega)
    have hzl := Iv.zs_le w bs (Iv.nx w bs)
    have hol := Iv.os_le w bs (Iv.nx w bs)
    have hcounts : Iv.sz w bs * PL = Iv.wh w bs * PR := by exact hcounts
    have hboth : Iv.both w bs = Iv.zs w bs (Iv.nx w bs) + Iv.os w bs (Iv.nx w bs) := rfl
    have bwh : Iv.wh w bs < 2 ^ 3001 := by
      have := Nat.two_pow_pos 3000
      rw [show (2 : Nat) ^ 3001 = 2 ^ 3000 * 2 from rfl]; omega
    have small : ∀ x y : Nat, x < 2 ^ 3001 → y < 2 ^ 10 → x * y < 2 ^ 3011 := fun x y hx hy => by
      have h := Nat.mul_lt_mul'' hx hy
      rw [← Nat.pow_add] at h; exact h
    generalize Iv.both w bs = both at *
    generalize Iv.zs w bs (Iv.nx w bs) = zs at *
    generalize Iv.os w bs (Iv.nx w bs) = os at *
    generalize Iv.lo w bs = lo at *
    generalize Iv.sz w bs = sz at *
    generalize Iv.wh w bs = wh at *
    walk_at "go"
    refine Gx.ixT (SqT.of h7) (at_of (j := 1) rfl rfl) ?_
    walk_at "go"
    refine Gx.ic (Ct.wm (Nat.lt_of_le_of_lt (show sz ≤ wh by omega) bwh) b1) ?_
    walk_at "go"
    refine Gx.ixT (SqT.of h7) (at_of (j := 2) rfl rfl) ?_
    walk_at "go"
    refine Gx.ic (Ct.wm bwh b2) ?_
    walk_at "go"
    rw [decide_eq_true (show (sz : Int) * (PL : Int) = (wh : Int) * (PR : Int) by rw [← Int.natCast_mul, ← Int.natCast_mul, hcounts])]
    walk_at "go"
    refine Gx.ixT (SqT.of h7) (at_of (j := 0) rfl rfl) ?_
    walk_at "go"
    refine Gx.if_dno (by omega) ?_
    walk_at "go"
    refine Gx.ixT (SqT.of h7) (at_of (j := 0) rfl rfl) ?_
    walk_at "go"
    refine Gx.ixT (SqT.of h7) (at_of (j := 1) rfl rfl) ?_
    walk_at "go"
    refine Gx.ixT (SqT.of h7) (at_of (j := 2) rfl rfl) ?_
    walk_at "go"
    refine Gx.if_dno (by omega) ?_
    walk_at "go"
    have k1 := small lo both (by omega) (by omega)
    have k2 := small sz zs (by omega) (by omega)
    have k3 := small sz os (by omega) (by omega)
    have k4 := small wh both bwh (by omega)
    have blo : lo < 2 ^ 3001 := by omega
    have k5 : lo * both + sz * zs + sz * os < 2 ^ 3013 := by
      rw [show (2 : Nat) ^ 3013 = 2 ^ 3011 * 4 from rfl]; omega
    have k6 : lo + sz < 2 ^ 3001 := by omega
    have psz : 0 < sz * zs := Nat.mul_pos hsz (by omega)
    have pso : 0 < sz * os := Nat.mul_pos hsz (by omega)
    have last : (lo * both + sz * zs + sz * os) * wh = (lo + sz) * (wh * both) := by
      rw [show lo * both + sz * zs + sz * os = (lo + sz) * both by rw [hboth, Nat.add_mul, Nat.mul_add sz]; omega, Nat.mul_assoc, Nat.mul_comm both wh]
    refine Gx.ixT (SqT.of h8) (at_of (j := 2) rfl rfl) ?_
    walk_at "go"
    refine Gx.ixT (SqT.of h9) (at_of (j := 2) rfl rfl) ?_
    walk_at "go"
    rw [decide_eq_true rfl]
    walk_at "go"
    refine Gx.ixT (SqT.of h8) (at_of (j := 0) rfl rfl) ?_
    walk_at "go"
    refine Gx.ixT (SqT.of h7) (at_of (j := 2) rfl rfl) ?_
    refine Gx.ic (Ct.wm k1 bwh) ?_
    walk_at "go"
    refine Gx.ixT (SqT.of h7) (at_of (j := 0) rfl rfl) ?_
    walk_at "go"
    refine Gx.ixT (SqT.of h8) (at_of (j := 2) rfl rfl) ?_
    refine Gx.ic (Ct.wm blo k4) ?_
    walk_at "go"
    rw [decide_eq_true (show ((lo * both : Nat) : Int) * (wh : Int) = (lo : Int) * ((wh * both : Nat) : Int) by rw [← Int.natCast_mul, ← Int.natCast_mul, Nat.mul_assoc, Nat.mul_comm both wh])]
    walk_at "go"
    refine Gx.ixT (SqT.of h8) (at_of (j := 0) rfl rfl) ?_
    walk_at "go"
    refine Gx.ixT (SqT.of h8) (at_of (j := 1) rfl rfl) ?_
    walk_at "go"
    refine Gx.ixT (SqT.of h9) (at_of (j := 0) rfl rfl) ?_
    walk_at "go"
    rw [decide_eq_true (Int.natCast_add (lo * both) (sz * zs)).symm]
    walk_at "go"
    refine Gx.ixT (SqT.of h9) (at_of (j := 0) rfl rfl) ?_
    walk_at "go"
    refine Gx.ixT (SqT.of h9) (at_of (j := 1) rfl rfl) ?_
    walk_at "go"
    refine Gx.ixT (SqT.of h7) (at_of (j := 2) rfl rfl) ?_
    rw [← Int.natCast_add]
    refine Gx.ic (Ct.wm k5 bwh) ?_
    walk_at "go"
    refine Gx.ixT (SqT.of h7) (at_of (j := 0) rfl rfl) ?_
    walk_at "go"
    refine Gx.ixT (SqT.of h7) (at_of (j := 1) rfl rfl) ?_
    walk_at "go"
    refine Gx.ixT (SqT.of h8) (at_of (j := 2) rfl rfl) ?_
    rw [← Int.natCast_add]
    refine Gx.ic (Ct.wm k6 k4) ?_
    walk_at "go"
    refine Gx.if_dy (by rw [← Int.natCast_mul, ← Int.natCast_mul, last]) ?_
    walk_at "go"
    refine Gx.ixT (SqT.of h8) (at_of (j := 1) rfl rfl) ?_
    walk_at "go"
    refine Gx.if_dy (by omega) ?_
    walk_at "go"
    refine Gx.ixT (SqT.of h9) (at_of (j := 1) rfl rfl) ?_
    walk_at "go"
    rw [decide_eq_true (by omega)]
    exact q _


end
theorem all_mk {l : PySem.W.OpenLaw} {w : World} {K : PySem.W.Frag} {h : Heap} {mg : Str → Option Value} {fa : Addr} (X : K.In h) (G : h.Ns mainGlobals mg) (hfa : mg "law" = some (.ref fa))
    {C_Coding : Addr}
    {f_Coding_interval : Addr} {od_Coding_interval an_Coding_interval : Option Addr} {sl_Coding_interval : Array (Option Value)} {oc_Coding_interval kV_Coding_interval dc_Coding_interval pm_Coding_interval cd_Coding_interval ct_Coding_interval : Value}
    {f_context : Addr} {od_context an_context : Option Addr} {sl_context : Array (Option Value)} {oc_context kV_context dc_context pm_context cd_context ct_context : Value}
    {f_Coding_take : Addr} {od_Coding_take an_Coding_take : Option Addr} {sl_Coding_take : Array (Option Value)} {oc_Coding_take kV_Coding_take dc_Coding_take pm_Coding_take cd_Coding_take ct_Coding_take : Value}
    {f_Coding___init__ : Addr} {od_Coding___init__ an_Coding___init__ : Option Addr} {sl_Coding___init__ : Array (Option Value)} {oc_Coding___init__ kV_Coding___init__ dc_Coding___init__ pm_Coding___init__ cd_Coding___init__ ct_Coding___init__ : Value}
    {f_coding_of : Addr} {od_coding_of an_coding_of : Option Addr} {sl_coding_of : Array (Option Value)} {oc_coding_of kV_coding_of dc_coding_of pm_coding_of cd_coding_of ct_coding_of : Value}
    {f_interval : Addr} {od_interval an_interval : Option Addr} {sl_interval : Array (Option Value)} {oc_interval kV_interval dc_interval pm_interval cd_interval ct_interval : Value}
    {f_law_product : Addr} {od_law_product an_law_product : Option Addr} {sl_law_product : Array (Option Value)} {oc_law_product kV_law_product dc_law_product pm_law_product cd_law_product ct_law_product : Value}
    {f_law_context : Addr} {od_law_context an_law_context : Option Addr} {sl_law_context : Array (Option Value)} {oc_law_context kV_law_context dc_law_context pm_law_context cd_law_context ct_law_context : Value}
    {f_law_draw : Addr} {od_law_draw an_law_draw : Option Addr} {sl_law_draw : Array (Option Value)} {oc_law_draw kV_law_draw dc_law_draw pm_law_draw cd_law_draw ct_law_draw : Value}
    {f_law_bits : Addr} {od_law_bits an_law_bits : Option Addr} {sl_law_bits : Array (Option Value)} {oc_law_bits kV_law_bits dc_law_bits pm_law_bits cd_law_bits ct_law_bits : Value}
    {f_law_cell : Addr} {od_law_cell an_law_cell : Option Addr} {sl_law_cell : Array (Option Value)} {oc_law_cell kV_law_cell dc_law_cell pm_law_cell cd_law_cell ct_law_cell : Value}
    {f_law_digits : Addr} {od_law_digits an_law_digits : Option Addr} {sl_law_digits : Array (Option Value)} {oc_law_digits kV_law_digits dc_law_digits pm_law_digits cd_law_digits ct_law_digits : Value}
    {f_law : Addr} {od_law an_law : Option Addr} {sl_law : Array (Option Value)} {oc_law kV_law dc_law pm_law cd_law ct_law : Value}
    {t_CONTEXTS : Tok}
    (g_Coding : PySem.W.nsIn K mainGlobals "Coding" = some (some (.ref C_Coding)))
    (pg_Coding : PySem.W.plainGet K C_Coding Str.empty = true)
    (hd_Coding : PySem.W.hasDictIn K C_Coding = true)
    (po_Coding : PySem.W.plainOver K C_Coding = true)
    (sa_Coding : PySem.W.findIn K (.ref C_Coding) "__setattr__" = some (some (.builtin "object.__setattr__")))
    (mk_Coding : PySem.W.makesIn K C_Coding = true)
    (kc_Coding : PySem.W.keepIn K (.ref C_Coding) = true)
    (na_Coding_bits : PySem.W.findIn K (.ref C_Coding) "bits" = some none)
    (na_Coding__width : PySem.W.findIn K (.ref C_Coding) "_width" = some none)
    (na_Coding__low : PySem.W.findIn K (.ref C_Coding) "_low" = some none)
    (na_Coding__size : PySem.W.findIn K (.ref C_Coding) "_size" = some none)
    (na_Coding__whole : PySem.W.findIn K (.ref C_Coding) "_whole" = some none)
    (na_Coding__zeros : PySem.W.findIn K (.ref C_Coding) "_zeros" = some none)
    (na_Coding__ones : PySem.W.findIn K (.ref C_Coding) "_ones" = some none)
    (a_Coding_interval : PySem.W.findIn K (.ref C_Coding) "interval" = some (some (.ref f_Coding_interval)))
    (i_Coding_interval : PySem.W.isFn K (.ref f_Coding_interval) = true)
    (l_Coding_interval : K.lookup f_Coding_interval = some ⟨oc_Coding_interval, od_Coding_interval, .func (PySem.W.fnOf "interval" "Coding.interval" (defArgs s_Coding_interval) (defBody s_Coding_interval) (defScope s_Coding_interval) .none kV_Coding_interval dc_Coding_interval pm_Coding_interval an_Coding_interval cd_Coding_interval ct_Coding_interval), sl_Coding_interval⟩)
    (c_Coding_interval : PySem.W.codeIn K cd_Coding_interval "Coding.interval" = true)
    (k_Coding_interval : PySem.W.keepIn K (.ref f_Coding_interval) = true)
    (a_context : PySem.W.nsIn K mainGlobals "context" = some (some (.ref f_context)))
    (l_context : K.lookup f_context = some ⟨oc_context, od_context, .func (PySem.W.fnOf "context" "context" (defArgs s_context) (defBody s_context) (defScope s_context) .none kV_context dc_context pm_context an_context cd_context ct_context), sl_context⟩)
    (c_context : PySem.W.codeIn K cd_context "context" = true)
    (k_context : PySem.W.keepIn K (.ref f_context) = true)
    (a_Coding_take : PySem.W.findIn K (.ref C_Coding) "take" = some (some (.ref f_Coding_take)))
    (i_Coding_take : PySem.W.isFn K (.ref f_Coding_take) = true)
    (l_Coding_take : K.lookup f_Coding_take = some ⟨oc_Coding_take, od_Coding_take, .func (PySem.W.fnOf "take" "Coding.take" (defArgs s_Coding_take) (defBody s_Coding_take) (defScope s_Coding_take) .none kV_Coding_take dc_Coding_take pm_Coding_take an_Coding_take cd_Coding_take ct_Coding_take), sl_Coding_take⟩)
    (c_Coding_take : PySem.W.codeIn K cd_Coding_take "Coding.take" = true)
    (k_Coding_take : PySem.W.keepIn K (.ref f_Coding_take) = true)
    (a_Coding___init__ : PySem.W.findIn K (.ref C_Coding) "__init__" = some (some (.ref f_Coding___init__)))
    (i_Coding___init__ : PySem.W.isFn K (.ref f_Coding___init__) = true)
    (l_Coding___init__ : K.lookup f_Coding___init__ = some ⟨oc_Coding___init__, od_Coding___init__, .func (PySem.W.fnOf "__init__" "Coding.__init__" (defArgs s_Coding___init__) (defBody s_Coding___init__) (defScope s_Coding___init__) .none kV_Coding___init__ dc_Coding___init__ pm_Coding___init__ an_Coding___init__ cd_Coding___init__ ct_Coding___init__), sl_Coding___init__⟩)
    (c_Coding___init__ : PySem.W.codeIn K cd_Coding___init__ "Coding.__init__" = true)
    (k_Coding___init__ : PySem.W.keepIn K (.ref f_Coding___init__) = true)
    (a_coding_of : PySem.W.nsIn K mainGlobals "coding_of" = some (some (.ref f_coding_of)))
    (l_coding_of : K.lookup f_coding_of = some ⟨oc_coding_of, od_coding_of, .func (PySem.W.fnOf "coding_of" "coding_of" (defArgs s_coding_of) (defBody s_coding_of) (defScope s_coding_of) .none kV_coding_of dc_coding_of pm_coding_of an_coding_of cd_coding_of ct_coding_of), sl_coding_of⟩)
    (c_coding_of : PySem.W.codeIn K cd_coding_of "coding_of" = true)
    (k_coding_of : PySem.W.keepIn K (.ref f_coding_of) = true)
    (a_interval : PySem.W.nsIn K mainGlobals "interval" = some (some (.ref f_interval)))
    (l_interval : K.lookup f_interval = some ⟨oc_interval, od_interval, .func (PySem.W.fnOf "interval" "interval" (defArgs s_interval) (defBody s_interval) (defScope s_interval) .none kV_interval dc_interval pm_interval an_interval cd_interval ct_interval), sl_interval⟩)
    (c_interval : PySem.W.codeIn K cd_interval "interval" = true)
    (k_interval : PySem.W.keepIn K (.ref f_interval) = true)
    (a_law_product : PySem.W.nsIn K mainGlobals "_law_product" = some (some (.ref f_law_product)))
    (l_law_product : K.lookup f_law_product = some ⟨oc_law_product, od_law_product, .func (PySem.W.fnOf "_law_product" "_law_product" (defArgs s_law_product) (defBody s_law_product) (defScope s_law_product) .none kV_law_product dc_law_product pm_law_product an_law_product cd_law_product ct_law_product), sl_law_product⟩)
    (c_law_product : PySem.W.codeIn K cd_law_product "_law_product" = true)
    (k_law_product : PySem.W.keepIn K (.ref f_law_product) = true)
    (a_law_context : PySem.W.nsIn K mainGlobals "_law_context" = some (some (.ref f_law_context)))
    (l_law_context : K.lookup f_law_context = some ⟨oc_law_context, od_law_context, .func (PySem.W.fnOf "_law_context" "_law_context" (defArgs s_law_context) (defBody s_law_context) (defScope s_law_context) .none kV_law_context dc_law_context pm_law_context an_law_context cd_law_context ct_law_context), sl_law_context⟩)
    (c_law_context : PySem.W.codeIn K cd_law_context "_law_context" = true)
    (k_law_context : PySem.W.keepIn K (.ref f_law_context) = true)
    (a_law_draw : PySem.W.nsIn K mainGlobals "_law_draw" = some (some (.ref f_law_draw)))
    (l_law_draw : K.lookup f_law_draw = some ⟨oc_law_draw, od_law_draw, .func (PySem.W.fnOf "_law_draw" "_law_draw" (defArgs s_law_draw) (defBody s_law_draw) (defScope s_law_draw) .none kV_law_draw dc_law_draw pm_law_draw an_law_draw cd_law_draw ct_law_draw), sl_law_draw⟩)
    (c_law_draw : PySem.W.codeIn K cd_law_draw "_law_draw" = true)
    (k_law_draw : PySem.W.keepIn K (.ref f_law_draw) = true)
    (a_law_bits : PySem.W.nsIn K mainGlobals "_law_bits" = some (some (.ref f_law_bits)))
    (l_law_bits : K.lookup f_law_bits = some ⟨oc_law_bits, od_law_bits, .func (PySem.W.fnOf "_law_bits" "_law_bits" (defArgs s_law_bits) (defBody s_law_bits) (defScope s_law_bits) .none kV_law_bits dc_law_bits pm_law_bits an_law_bits cd_law_bits ct_law_bits), sl_law_bits⟩)
    (c_law_bits : PySem.W.codeIn K cd_law_bits "_law_bits" = true)
    (k_law_bits : PySem.W.keepIn K (.ref f_law_bits) = true)
    (a_law_cell : PySem.W.nsIn K mainGlobals "_law_cell" = some (some (.ref f_law_cell)))
    (l_law_cell : K.lookup f_law_cell = some ⟨oc_law_cell, od_law_cell, .func (PySem.W.fnOf "_law_cell" "_law_cell" (defArgs s_law_cell) (defBody s_law_cell) (defScope s_law_cell) .none kV_law_cell dc_law_cell pm_law_cell an_law_cell cd_law_cell ct_law_cell), sl_law_cell⟩)
    (c_law_cell : PySem.W.codeIn K cd_law_cell "_law_cell" = true)
    (k_law_cell : PySem.W.keepIn K (.ref f_law_cell) = true)
    (a_law_digits : PySem.W.nsIn K mainGlobals "_law_digits" = some (some (.ref f_law_digits)))
    (l_law_digits : K.lookup f_law_digits = some ⟨oc_law_digits, od_law_digits, .func (PySem.W.fnOf "_law_digits" "_law_digits" (defArgs s_law_digits) (defBody s_law_digits) (defScope s_law_digits) .none kV_law_digits dc_law_digits pm_law_digits an_law_digits cd_law_digits ct_law_digits), sl_law_digits⟩)
    (c_law_digits : PySem.W.codeIn K cd_law_digits "_law_digits" = true)
    (k_law_digits : PySem.W.keepIn K (.ref f_law_digits) = true)
    (a_law : PySem.W.nsIn K mainGlobals "law" = some (some (.ref f_law)))
    (l_law : K.lookup f_law = some ⟨oc_law, od_law, .func (PySem.W.fnOf "law" "law" (defArgs s_law) (defBody s_law) (defScope s_law) .none kV_law dc_law pm_law an_law cd_law ct_law), sl_law⟩)
    (c_law : PySem.W.codeIn K cd_law "law" = true)
    (k_law : PySem.W.keepIn K (.ref f_law) = true)
    (n_int : PySem.W.nsIn K mainGlobals "int" = some none)
    (n_len : PySem.W.nsIn K mainGlobals "len" = some none)
    (n_range : PySem.W.nsIn K mainGlobals "range" = some none)
    (n_str : PySem.W.nsIn K mainGlobals "str" = some none)
    (c_CONTEXTS : PySem.W.nsIn K mainGlobals "CONTEXTS" = some (some (.int 16 t_CONTEXTS))) :
    ∃ fd : FuncData, (∀ (s : Shared) (v : Value), BindsTo s fd ⟨[v], []⟩ [("script", v)]) ∧ ∀ base : Heap, K.In base → base.Ns mainGlobals mg → FnOk l.prog w K mg base CX0 5 fa fd ["script"] (spLaw K) := by
  have e := hfa.symm.trans (PySem.W.mg_of X G a_law)
  cases e
  have F_Coding_interval := fun_mk (st := s_Coding_interval) l_Coding_interval c_Coding_interval k_Coding_interval
  have F_context := fun_mk (st := s_context) l_context c_context k_context
  have F_Coding_take := fun_mk (st := s_Coding_take) l_Coding_take c_Coding_take k_Coding_take
  have F_Coding___init__ := fun_mk (st := s_Coding___init__) l_Coding___init__ c_Coding___init__ k_Coding___init__
  have F_coding_of := fun_mk (st := s_coding_of) l_coding_of c_coding_of k_coding_of
  have F_interval := fun_mk (st := s_interval) l_interval c_interval k_interval
  have F_law_product := fun_mk (st := s_law_product) l_law_product c_law_product k_law_product
  have F_law_context := fun_mk (st := s_law_context) l_law_context c_law_context k_law_context
  have F_law_draw := fun_mk (st := s_law_draw) l_law_draw c_law_draw k_law_draw
  have F_law_bits := fun_mk (st := s_law_bits) l_law_bits c_law_bits k_law_bits
  have F_law_cell := fun_mk (st := s_law_cell) l_law_cell c_law_cell k_law_cell
  have F_law_digits := fun_mk (st := s_law_digits) l_law_digits c_law_digits k_law_digits
  have F_law := fun_mk (st := s_law) l_law c_law k_law
  exact ⟨PySem.W.fnOf "law" "law" (defArgs s_law) (defBody s_law) (defScope s_law) .none kV_law dc_law pm_law an_law cd_law ct_law, fun s v => .of_eq rfl, fun base _ _ => ok_law (mg := mg) {
    a_Coding := C_Coding,
    cl_Coding := ⟨pg_Coding, hd_Coding, po_Coding, sa_Coding⟩,
    g_Coding := PySem.W.mg_of X G g_Coding,
    mk_Coding := mk_Coding,
    kp_Coding := kc_Coding,
    na_Coding_bits := na_Coding_bits,
    na_Coding__width := na_Coding__width,
    na_Coding__low := na_Coding__low,
    na_Coding__size := na_Coding__size,
    na_Coding__whole := na_Coding__whole,
    na_Coding__zeros := na_Coding__zeros,
    na_Coding__ones := na_Coding__ones,
    Coding_interval := ⟨_, _, F_Coding_interval, F_Coding_interval.binds fun _ _ _ _ _ _ us hl => match us, hl with | [_], _ => rfl, ⟨a_Coding_interval, i_Coding_interval, k_Coding_interval⟩⟩,
    context := ⟨_, _, F_context, PySem.W.mg_of X G a_context, F_context.binds fun _ _ _ _ _ _ us hl => match us, hl with | [_, _, _], _ => rfl⟩,
    Coding_take := ⟨_, _, F_Coding_take, F_Coding_take.binds fun _ _ _ _ _ _ us hl => match us, hl with | [_, _], _ => rfl, ⟨a_Coding_take, i_Coding_take, k_Coding_take⟩⟩,
    Coding___init__ := ⟨_, _, F_Coding___init__, F_Coding___init__.binds fun _ _ _ _ _ _ us hl => match us, hl with | [_, _], _ => rfl, ⟨a_Coding___init__, i_Coding___init__, k_Coding___init__⟩⟩,
    coding_of := ⟨_, _, F_coding_of, PySem.W.mg_of X G a_coding_of, F_coding_of.binds fun _ _ _ _ _ _ us hl => match us, hl with | [_, _], _ => rfl⟩,
    interval := ⟨_, _, F_interval, PySem.W.mg_of X G a_interval, F_interval.binds fun _ _ _ _ _ _ us hl => match us, hl with | [_, _], _ => rfl⟩,
    law_product := ⟨_, _, F_law_product, PySem.W.mg_of X G a_law_product, F_law_product.binds fun _ _ _ _ _ _ us hl => match us, hl with | [_], _ => rfl⟩,
    law_context := ⟨_, _, F_law_context, PySem.W.mg_of X G a_law_context, F_law_context.binds fun _ _ _ _ _ _ us hl => match us, hl with | [_, _, _], _ => rfl⟩,
    law_draw := ⟨_, _, F_law_draw, PySem.W.mg_of X G a_law_draw, F_law_draw.binds fun _ _ _ _ _ _ us hl => match us, hl with | [_, _], _ => rfl⟩,
    law_bits := ⟨_, _, F_law_bits, PySem.W.mg_of X G a_law_bits, F_law_bits.binds fun _ _ _ _ _ _ us hl => match us, hl with | [_, _], _ => rfl⟩,
    law_cell := ⟨_, _, F_law_cell, PySem.W.mg_of X G a_law_cell, F_law_cell.binds fun _ _ _ _ _ _ us hl => match us, hl with | [_, _], _ => rfl⟩,
    law_digits := ⟨_, _, F_law_digits, PySem.W.mg_of X G a_law_digits, F_law_digits.binds fun _ _ _ _ _ _ us hl => match us, hl with | [_, _, _], _ => rfl⟩,
    law := ⟨_, _, F_law, PySem.W.mg_of X G a_law, F_law.binds fun _ _ _ _ _ _ us hl => match us, hl with | [_], _ => rfl⟩,
    n_int := PySem.W.mg_none_of X G n_int,
    n_len := PySem.W.mg_none_of X G n_len,
    n_range := PySem.W.mg_none_of X G n_range,
    n_str := PySem.W.mg_none_of X G n_str,
    t_CONTEXTS := t_CONTEXTS,
    c_CONTEXTS := PySem.W.mg_of X G c_CONTEXTS }⟩
theorem walk {l : PySem.W.OpenLaw} {q : Program} {loose : List Str} {XP : (Str → Option Value) → Heap → Prop} {YP : World → Heap → Prop} {d : DefRec} {K : Params → PySem.W.Frag} (hn : l.most = some 63) (hdf : d.params.defaults = [])
    (hY : ∀ (w : World) (h : Heap), YP w h → (K w.params).In h)
    (F : ∀ (w : World) (mg : Str → Option Value) (fa : Addr) (h : Heap), (K w.params).In h → h.Ns mainGlobals mg → mg d.name = some (.ref fa) →
      ∃ fd : FuncData, (∀ (s : Shared) (u : Value), BindsTo s fd ⟨[u], []⟩ [("script", u)]) ∧ ∀ base : Heap, (K w.params).In base → base.Ns mainGlobals mg → FnOk l.prog w (K w.params) mg base CX0 5 fa fd ["script"] (spLaw (K w.params))) :
    PySem.W.WalkO q loose XP YP l.row.toRowW d [] (fun f vs => PySem.call f vs) :=
  L2.walk_ofB (n := 63) (k := 5) (x := "script") (CX := fun _ => CX0) (sp := fun w => spLaw (K w.params)) hn (by decide) hdf ⟨rfl, by decide, by decide⟩ hY F (fun _ _ a ns hl hb _ hS => ⟨a, ns, rfl, hS, hl, hb, fun _ => rfl⟩) fun _ _ _ _ _ z => z
end My
open PySem PySem.W PyProof.Rows
set_option maxRecDepth 100000 in
set_option maxHeartbeats 0 in
theorem PySem.Challenge.cw_packetpicture_k18_intervals_by_counts_holds : PySem.Challenge.rw_packetpicture_k18_intervals_by_counts.Holds := by
  w_on; o_law; k_head; (case hw => w_witness2)
  k_fill
  refine My.walk (l := PySem.Challenge.rw_packetpicture_k18_intervals_by_counts) rfl rfl (fun w h Y => PySem.W.kIn_of Y) ?F
  case F =>
    intro w mg fa h KX G hmg
    refine' My.all_mk KX G hmg ?g_Coding ?pg_Coding ?hd_Coding ?po_Coding ?sa_Coding ?mk_Coding ?kc_Coding ?na_Coding_bits ?na_Coding__width ?na_Coding__low ?na_Coding__size ?na_Coding__whole ?na_Coding__zeros ?na_Coding__ones ?a_Coding_interval ?i_Coding_interval ?l_Coding_interval ?c_Coding_interval ?k_Coding_interval ?a_context ?l_context ?c_context ?k_context ?a_Coding_take ?i_Coding_take ?l_Coding_take ?c_Coding_take ?k_Coding_take ?a_Coding___init__ ?i_Coding___init__ ?l_Coding___init__ ?c_Coding___init__ ?k_Coding___init__ ?a_coding_of ?l_coding_of ?c_coding_of ?k_coding_of ?a_interval ?l_interval ?c_interval ?k_interval ?a_law_product ?l_law_product ?c_law_product ?k_law_product ?a_law_context ?l_law_context ?c_law_context ?k_law_context ?a_law_draw ?l_law_draw ?c_law_draw ?k_law_draw ?a_law_bits ?l_law_bits ?c_law_bits ?k_law_bits ?a_law_cell ?l_law_cell ?c_law_cell ?k_law_cell ?a_law_digits ?l_law_digits ?c_law_digits ?k_law_digits ?a_law ?l_law ?c_law ?k_law ?n_int ?n_len ?n_range ?n_str ?c_CONTEXTS
    (case g_Coding => k_is)
    (case pg_Coding => k_is)
    (case hd_Coding => k_is)
    (case po_Coding => k_is)
    (case sa_Coding => k_is)
    (case mk_Coding => k_is)
    (case kc_Coding => k_is)
    (case na_Coding_bits => k_is)
    (case na_Coding__width => k_is)
    (case na_Coding__low => k_is)
    (case na_Coding__size => k_is)
    (case na_Coding__whole => k_is)
    (case na_Coding__zeros => k_is)
    (case na_Coding__ones => k_is)
    (case a_Coding_interval => k_is)
    (case i_Coding_interval => k_is)
    (case l_Coding_interval => k_is)
    (case c_Coding_interval => k_is)
    (case k_Coding_interval => k_is)
    (case a_context => k_is)
    (case l_context => k_is)
    (case c_context => k_is)
    (case k_context => k_is)
    (case a_Coding_take => k_is)
    (case i_Coding_take => k_is)
    (case l_Coding_take => k_is)
    (case c_Coding_take => k_is)
    (case k_Coding_take => k_is)
    (case a_Coding___init__ => k_is)
    (case i_Coding___init__ => k_is)
    (case l_Coding___init__ => k_is)
    (case c_Coding___init__ => k_is)
    (case k_Coding___init__ => k_is)
    (case a_coding_of => k_is)
    (case l_coding_of => k_is)
    (case c_coding_of => k_is)
    (case k_coding_of => k_is)
    (case a_interval => k_is)
    (case l_interval => k_is)
    (case c_interval => k_is)
    (case k_interval => k_is)
    (case a_law_product => k_is)
    (case l_law_product => k_is)
    (case c_law_product => k_is)
    (case k_law_product => k_is)
    (case a_law_context => k_is)
    (case l_law_context => k_is)
    (case c_law_context => k_is)
    (case k_law_context => k_is)
    (case a_law_draw => k_is)
    (case l_law_draw => k_is)
    (case c_law_draw => k_is)
    (case k_law_draw => k_is)
    (case a_law_bits => k_is)
    (case l_law_bits => k_is)
    (case c_law_bits => k_is)
    (case k_law_bits => k_is)
    (case a_law_cell => k_is)
    (case l_law_cell => k_is)
    (case c_law_cell => k_is)
    (case k_law_cell => k_is)
    (case a_law_digits => k_is)
    (case l_law_digits => k_is)
    (case c_law_digits => k_is)
    (case k_law_digits => k_is)
    (case a_law => k_is)
    (case l_law => k_is)
    (case c_law => k_is)
    (case k_law => k_is)
    (case n_int => k_is)
    (case n_len => k_is)
    (case n_range => k_is)
    (case n_str => k_is)
    (case c_CONTEXTS => k_is)
