import PyProof.Rows.All
import Wide.All
import OpenK.AllK
import Wide.FinOn
import HandS.ForMost
import HandS.EndBits
import HandS.IsInst
import HandS.Conv
import HandS.RevRange
import HandS.Walk
import HandS.Wide
import HandS.Codes
import HandS.ForExc
import HandS.ExcInit
import HandS.ExcSuper
import KE.KSuper
import KE.RegKSuper
import KE.KExcSuper
import KE.KExcIs
import HandS.ExcField
import HandS.ExcIs
import HandS.FStr
import KE.RegKIsAll
import HandS.ForExc
import HandS.NoneIn
import HandS.SortKw
import HandS.SortRule
import KE.KMinKey
import PySem.Challenge.RW_packetpicture_k45_bound_of_a_plan
set_option Elab.async false
set_option linter.all false
set_option maxRecDepth 100000
set_option maxHeartbeats 4000000
set_option exponentiation.threshold 4000
/-! Steps of a reading, one lemma a construct; `walk_at "go"` tries them one after another. -/
namespace Gx
open PySem L2
section
variable {K : PySem.W.Frag} {σ : L2.St} {H : Hp} {Q : VK} {D : Ends} {ta tb te to ti tv : TE} {t u : TT} {tr : TA} {tu tw : TS} {x y z v : V} {i j : Int} {B : Bool → Hp → Prop} {A1 A2 : Prop} {b : Bool}
/-- a test's answer; a branch -/
def TB (x : V) (H : Hp) (Q : Bool → Hp → Prop) : Prop := ∃ k, x = .bl k ∧ Q k H
def IfP (c : Bool) (A B : Prop) : Prop := if c = true then A else B
theorem tB_ (q : TB (.bl b) H B ) : TB (.bl b) H B := q
theorem tb_go (q : B b H) : TB (.bl b) H B := ⟨b, rfl, q⟩
theorem if_t (q : A1) : IfP true A1 A2 := by unfold IfP; rw [if_pos rfl]; exact q
theorem if_f (q : A2) : IfP false A1 A2 := by unfold IfP; rw [if_neg Bool.false_ne_true]; exact q
theorem if_nt (q : A2) : IfP (!true) A1 A2 := if_f q
theorem if_nf (q : A1) : IfP (!false) A1 A2 := if_t q
theorem if_y {c : Bool} (h : c = true) (q : A1) : IfP c A1 A2 := by subst h; exact if_t q
theorem if_n {c : Bool} (h : c = false) (q : A2) : IfP c A1 A2 := by subst h; exact if_f q
theorem if_b {c : Bool} (q1 : c = true → A1) (q2 : c = false → A2) : IfP c A1 A2 := by
  cases c with
  | true => exact if_t (q1 rfl)
  | false => exact if_f (q2 rfl)
theorem if_d {p : Prop} [Decidable p] (q1 : p → A1) (q2 : ¬ p → A2) : IfP (decide p) A1 A2 := if_b (fun h => q1 (of_decide_eq_true h)) (fun h => q2 (of_decide_eq_false h))
theorem if_dn {p : Prop} [Decidable p] (q1 : ¬ p → A1) (q2 : p → A2) : IfP (!decide p) A1 A2 := by
  by_cases h : p
  · rw [decide_eq_true h]; exact if_f (q2 h)
  · rw [decide_eq_false h]; exact if_t (q1 h)
theorem if_andc {c d : Bool} {X : Prop} {B : Bool → Hp → Prop} {H : Hp} (h : B d H → X) (q : B (c && d) H) : IfP c X (B false H) := by
  cases c with
  | true => exact if_t (h q)
  | false => exact if_f q
theorem if_andf {c : Bool} (h : c = true → A2 → A1) (q : A2) : IfP c A1 A2 := by
  cases c with
  | true => exact if_t (h rfl q)
  | false => exact if_f q
theorem if_orc {c d : Bool} {X : Prop} {B : Bool → Hp → Prop} {H : Hp} (h : B d H → X) (q : B (c || d) H) : IfP c (B true H) X := by
  cases c with
  | true => exact if_t q
  | false => exact if_f (h q)
theorem if_dy {p : Prop} [Decidable p] (h : p) (q : A1) : IfP (decide p) A1 A2 := if_y (decide_eq_true h) q
theorem if_dno {p : Prop} [Decidable p] (h : ¬ p) (q : A2) : IfP (decide p) A1 A2 := if_n (decide_eq_false h) q
theorem if_two {c : Bool} {x y : Int} {σ : L2.St} {H : Hp} {Q' : VK} (q : ∀ n, (n = x ∨ n = y) → Q' (.int n) H) : IfP c (tC (.int x) σ H Q') (tC (.int y) σ H Q') := if_b (fun _ => q x (.inl rfl)) (fun _ => q y (.inr rfl))
/-- names, constants -/
theorem var {i : Nat} (h : σ[i]? = some (some v)) (q : Q v H) : tVar i σ H Q := ⟨v, h, q⟩
theorem cst (q : Q v H) : tC v σ H Q := q
/-- operators -/
theorem op {r : R2} (q : ta σ H fun x H1 => tb σ H1 fun y H2 => r x y H2 Q) : tOp r ta tb σ H Q := q
theorem un {r : V → Hp → VK → Prop} (q : ta σ H fun x H1 => r x H1 Q) : tUn r ta σ H Q := q
theorem i0 {g : Int → Int → V} (q : Q (g i j) H) : rI0 g (.int i) (.int j) H Q := ⟨i, j, rfl, rfl, q⟩
theorem ic {C : Int → Int → Prop} {g : Int → Int → V} (c : C i j) (q : Q (g i j) H) : rI C g (.int i) (.int j) H Q := ⟨i, j, rfl, rfl, c, q⟩
theorem uu {g : Int → V} (q : Q (g i) H) : rU g (.int i) H Q := ⟨i, rfl, q⟩
theorem eqv (q : Q (.bl (decide (x = y))) H) (h : scal x y = true := by rfl) : rEq x y H Q := ⟨h, q⟩
theorem nev (q : Q (.bl (!decide (x = y))) H) (h : scal x y = true := by rfl) : rNe x y H Q := ⟨h, q⟩
theorem eqI {p : Int} {q' : Int} : decide (V.int p = V.int q') = decide (p = q') := by simp
theorem eqS {p q' : Str} : decide (V.str p = V.str q') = decide (p = q') := by simp
theorem eqvI (q : Q (.bl (decide (i = j))) H) : rEq (.int i) (.int j) H Q := eqv (by rw [eqI]; exact q)
theorem nevI (q : Q (.bl (!decide (i = j))) H) : rNe (.int i) (.int j) H Q := nev (by rw [eqI]; exact q)
theorem eqvS {a b : Str} (q : Q (.bl (decide (a = b))) H) : rEq (.str a) (.str b) H Q := eqv (by rw [eqS]; exact q)
theorem nevS {a b : Str} (q : Q (.bl (!decide (a = b))) H) : rNe (.str a) (.str b) H Q := nev (by rw [eqS]; exact q)
/-- tests -/
theorem test (q : te σ H fun x H1 => TB x H1 B) : tTest te σ H B := q
theorem tB (q : te σ H fun x H1 => TB x H1 B) : L2.tB te σ H B := q
theorem and_ (q : t σ H fun c H1 => IfP c (u σ H1 B) (B false H1)) : tAnd t u σ H B := q
theorem or_ (q : t σ H fun c H1 => IfP c (B true H1) (u σ H1 B)) : tOr t u σ H B := q
theorem not_ (q : t σ H fun c H1 => B (!c) H1) : tNot t σ H B := q
theorem ifx (q : t σ H fun c H1 => IfP c (ta σ H1 Q) (tb σ H1 Q)) : tIf t ta tb σ H Q := q
/-- and, or, not as values -/
def BV (x : V) (H : Hp) (Q : Bool → Hp → Prop) : Prop := ∃ c, x = .bl c ∧ Q c H
theorem bv_go (q : B b H) : BV (.bl b) H B := ⟨b, rfl, q⟩
theorem andV (q : ta σ H fun x H1 => BV x H1 fun c H1 => IfP c (tb σ H1 Q) (Q (.bl false) H1)) : tAndV ta tb σ H Q := q
theorem orV (q : ta σ H fun x H1 => BV x H1 fun c H1 => IfP c (Q (.bl true) H1) (tb σ H1 Q)) : tOrV ta tb σ H Q := q
theorem notV (q : ta σ H fun x H1 => BV x H1 fun c H1 => Q (.bl (!c)) H1) : tNotV ta σ H Q := q
/-- or, and as values, both sides looked at without a change: one answer for what follows -/
def tOrW (ta tb : TE) : TE := tOrV ta tb
def tAndW (ta tb : TE) : TE := tAndV ta tb
theorem pe_orW {X : Cx} {e : Expr} (h : PE X e (tOrV ta tb)) : PE X e (tOrW ta tb) := h
theorem pe_andW {X : Cx} {e : Expr} (h : PE X e (tAndV ta tb)) : PE X e (tAndW ta tb) := h
def OrP (c : Bool) (tb : TE) (σ : L2.St) (H : Hp) (Q : VK) : Prop := if c = true then Q (.bl true) H else tb σ H Q
def AndP (c : Bool) (tb : TE) (σ : L2.St) (H : Hp) (Q : VK) : Prop := if c = true then tb σ H Q else Q (.bl false) H
theorem orW (q : ta σ H fun x H1 => BV x H1 fun c H1 => OrP c tb σ H1 Q) : tOrW ta tb σ H Q := q
theorem andW (q : ta σ H fun x H1 => BV x H1 fun c H1 => AndP c tb σ H1 Q) : tAndW ta tb σ H Q := q
theorem orp {c d : Bool} (h : ∀ R : VK, R (.bl d) H → tb σ H R) (q : Q (.bl (c || d)) H) : OrP c tb σ H Q := by
  cases c with
  | true => exact q
  | false => exact h _ q
theorem andp {c d : Bool} (h : ∀ R : VK, R (.bl d) H → tb σ H R) (q : Q (.bl (c && d)) H) : AndP c tb σ H Q := by
  cases c with
  | true => exact h _ q
  | false => exact q
/-- methods of texts -/
def M1P (te : TE) (r : V → List V → Hp → VK → Prop) (σ : L2.St) (x : V) (H : Hp) (Q : VK) : Prop := (∃ a, x = .str a) ∧ te σ H fun y H2 => r x [y] H2 Q
theorem m1 {r : V → List V → Hp → VK → Prop} (q : ta σ H fun x H1 => M1P te r σ x H1 Q) : tM1 r ta te σ H Q := q
theorem m1s {r : V → List V → Hp → VK → Prop} {z : Str} (q : te σ H fun y H2 => r (.str z) [y] H2 Q) : M1P te r σ (.str z) H Q := ⟨⟨z, rfl⟩, q⟩
/-- argument lists, displays -/
theorem nil {R : List V → Hp → Prop} (q : R [] H) : tNil σ H R := q
theorem cons {R : List V → Hp → Prop} (q : ta σ H fun x H1 => tr σ H1 fun xs H2 => R (x :: xs) H2) : tCons ta tr σ H R := q
/-- a new object -/
def NewP (H : Hp) (o : HO) (Q : VK) : Prop := ∀ p, H p = none → Q (.ref p) (upd H p o)
def LstP (xs : List V) (H : Hp) (Q : VK) : Prop := xs.length ≤ sizeLine ∧ NewP H (.lst xs) Q
def TupP (xs : List V) (H : Hp) (Q : VK) : Prop := xs.length ≤ sizeLine ∧ NewP H (.tup xs) Q
theorem lst (q : tr σ H fun xs H1 => LstP xs H1 Q) : tLst tr σ H Q := q
theorem tup (q : tr σ H fun xs H1 => TupP xs H1 Q) : tTup tr σ H Q := q
theorem lstP {xs : List V} (h : xs.length ≤ sizeLine) (q : ∀ p, H p = none → Q (.ref p) (upd H p (.lst xs))) : LstP xs H Q := ⟨h, q⟩
theorem tupP {xs : List V} (h : xs.length ≤ sizeLine) (q : ∀ p, H p = none → Q (.ref p) (upd H p (.tup xs))) : TupP xs H Q := ⟨h, q⟩
/-- calls -/
def CP (sp : Sp) (vs dvs : List V) (H : Hp) (Q : VK) (E : XK) : Prop := sp (vs ++ dvs) H Q E
theorem call {sp : Sp} {dvs : List V} {E : XK} (q : tr σ H fun vs H1 => CP sp vs dvs H1 Q E) : tCall sp dvs E tr σ H Q := q
theorem cb {r : List V → Hp → VK → Prop} (q : tr σ H fun vs H1 => r vs H1 Q) : tCB r tr σ H Q := q
/-- statements -/
theorem seq (q : tu { D with nx := tw D } σ H) : tSeq tu tw D σ H := q
theorem next (q : D.nx σ H) : tNext D σ H := q
theorem ret (q : te σ H D.rt) : tRet te D σ H := q
theorem retN (q : D.rt .non H) : tRetN D σ H := q
theorem drop (q : te σ H fun _ H1 => D.nx σ H1) : tDrop te D σ H := q
theorem asg {g : TG} (q : te σ H fun x H1 => g x σ H1 D.nx) : tAsg te g D σ H := q
theorem name {i : Nat} {R : L2.St → Hp → Prop} (q : R (σ.set i (some v)) H) : gName i v σ H R := q
theorem ifs {c : TT} (q : c σ H fun b H1 => IfP b (tu D σ H1) (tw D σ H1)) : tIfS c tu tw D σ H := q
theorem brk (q : D.bk σ H) : tBreak D σ H := q
theorem cnt (q : D.ct σ H) : tCont D σ H := q
def AugP (i : Nat) (x y : V) (ip : TIp) (D : Ends) (σ : L2.St) (H : Hp) : Prop := ip x y H fun z H2 => D.nx (σ.set i (some z)) H2
theorem aug {i : Nat} {tip : TIp} (h : σ[i]? = some (some x)) (q : te σ H fun y H1 => AugP i x y tip D σ H1) : tAug i te tip D σ H := ⟨x, h, q⟩
theorem augI {n : Nat} {f : Int → Int → Int} (q : D.nx (σ.set n (some (.int (f i j)))) H) : AugP n (.int i) (.int j) (ipI f) D σ H := ⟨i, j, rfl, rfl, q⟩
/-- loops: what walks (FW), for a range -/
def FW (J : It) (g : TG) (tb : TS) (D : Ends) (σ : L2.St) (H : Hp) : Prop := ∃ W : Nat → Nat → L2.St → Hp → Prop, (∃ m, W 0 m σ H) ∧ ∀ i m σ H, W i m σ H →
  (J.stop i H ∧ D.nx σ H) ∨ (J.go i H ∧ ∃ N : L2.St → Hp → Prop, (∀ σ' H', N σ' H' → ∃ m', m' < m ∧ W (i + 1) m' σ' H') ∧ ∀ x H', J.yld i H x H' → g x σ H' fun σ2 H2 => tb { D with nx := N, ct := N, bk := D.nx } σ2 H2)
theorem for_ {wi : TI} {g : TG} (q : wi σ H fun J H1 => FW J g tu D σ H1) : tFor wi g tu D σ H := q
def R1P (vs : List V) (H : Hp) (R : It → Hp → Prop) : Prop := ∃ j : Int, vs = [.int j] ∧ -(2 ^ 62) ≤ j ∧ j < 2 ^ 62 ∧ R (Itr 0 j.toNat) H
def R2P (vs : List V) (H : Hp) (R : It → Hp → Prop) : Prop := ∃ i j : Int, vs = [.int i, .int j] ∧ (-(2 ^ 62) ≤ i ∧ i < 2 ^ 62 ∧ -(2 ^ 62) ≤ j ∧ j < 2 ^ 62) ∧ R (Itr i (j - i).toNat) H
theorem rng1 {R : It → Hp → Prop} (q : tr σ H fun vs H1 => R1P vs H1 R) : iRng1 tr σ H R := q
theorem rng2 {R : It → Hp → Prop} (q : tr σ H fun vs H1 => R2P vs H1 R) : iRng2 tr σ H R := q
def R3P (vs : List V) (H : Hp) (R : It → Hp → Prop) : Prop := ∃ (i j c : Int) (n : Nat), vs = [.int i, .int j, .int c] ∧ RgC i j c n ∧ R (Itc i c n) H
theorem rng3 {R : It → Hp → Prop} (q : tr σ H fun vs H1 => R3P vs H1 R) : iRng3 tr σ H R := q
theorem r3 {R : It → Hp → Prop} {c : Int} {n : Nat} (h : RgC i j c n) (q : R (Itc i c n) H) : R3P [.int i, .int j, .int c] H R := ⟨i, j, c, n, rfl, h, q⟩
theorem r1 {R : It → Hp → Prop} (h1 : -(2 ^ 62) ≤ j) (h2 : j < 2 ^ 62) (q : R (Itr 0 j.toNat) H) : R1P [.int j] H R := ⟨j, rfl, h1, h2, q⟩
theorem r2 {R : It → Hp → Prop} (h1 : -(2 ^ 62) ≤ i ∧ i < 2 ^ 62 ∧ -(2 ^ 62) ≤ j ∧ j < 2 ^ 62) (q : R (Itr i (j - i).toNat) H) : R2P [.int i, .int j] H R := ⟨i, j, rfl, h1, q⟩
theorem fwR {lo : Int} {n : Nat} {g : TG} (Pv : Nat → L2.St → Hp → Prop) (h0 : Pv 0 σ H) (hs : ∀ i σ H, i < n → Pv i σ H → g (.int (lo + i)) σ H fun σ2 H2 => tu { D with nx := Pv (i + 1), ct := Pv (i + 1), bk := D.nx } σ2 H2) (hd : ∀ σ H, Pv n σ H → D.nx σ H) :
    FW (Itr lo n) g tu D σ H := for_range Pv h0 hs hd
def LP (K : PySem.W.Frag) (x : V) (H : Hp) (R : It → Hp → Prop) : Prop := ∃ a, x = .ref a ∧ (∃ xs, SqL K H a xs) ∧ R (Itl K a) H
theorem lwk {R : It → Hp → Prop} (q : te σ H fun x H1 => LP K x H1 R) : iList K te σ H R := q
theorem lp {a : Addr} {xs : List V} {R : It → Hp → Prop} (h : SqL K H a xs) (q : R (Itl K a) H) : LP K (.ref a) H R := ⟨a, rfl, ⟨xs, h⟩, q⟩
theorem fwL {a : Addr} {g : TG} (xs : List V) (Pv : Nat → L2.St → Hp → Prop) (h0 : Pv 0 σ H) (hl : ∀ i σ H, i ≤ xs.length → Pv i σ H → SqL K H a xs)
    (hs : ∀ i x σ H, xs[i]? = some x → Pv i σ H → g x σ H fun σ2 H2 => tu { D with nx := Pv (i + 1), ct := Pv (i + 1), bk := D.nx } σ2 H2) (hd : ∀ σ H, Pv xs.length σ H → D.nx σ H) : FW (Itl K a) g tu D σ H := for_list Pv h0 hl hs hd
/-- built-in functions, under names of their own -/
def rInt1 : List V → Hp → VK → Prop := fun xs H Q => (∃ i, xs = [.int i] ∧ Q (.int i) H) ∨ ∃ k, xs = [.bl k] ∧ Q (.int (if k then 1 else 0)) H
def rAbs : List V → Hp → VK → Prop := fun xs H Q => ∃ i, xs = [.int i] ∧ Q (.int (if i < 0 then -i else i)) H
def rStrI : List V → Hp → VK → Prop := fun xs H Q => ∃ i, xs = [.int i] ∧ i.natAbs.log2 < 1920 ∧ Q (.str (toString i)) H
def rLen (K : PySem.W.Frag) : List V → Hp → VK → Prop := fun xs H Q => ∃ x n, xs = [x] ∧ LenV K x H n ∧ Q (.int n) H
theorem int1 (q : Q (.int i) H) : rInt1 [.int i] H Q := .inl ⟨i, rfl, q⟩
theorem intB {k : Bool} (q : Q (.int (if k then 1 else 0)) H) : rInt1 [.bl k] H Q := .inr ⟨k, rfl, q⟩
theorem abs1 (q : Q (.int (if i < 0 then -i else i)) H) : rAbs [.int i] H Q := ⟨i, rfl, q⟩
theorem strI (h : i.natAbs.log2 < 1920) (q : Q (.str (toString i)) H) : rStrI [.int i] H Q := ⟨i, rfl, h, q⟩
theorem lenS {s : Str} (h : s.length ≤ sizeLine) (q : Q (.int (s.length : Nat)) H) : rLen K [.str s] H Q := ⟨_, _, rfl, ⟨h, rfl⟩, q⟩
theorem lenL {p : Addr} {xs : List V} (h : SqL K H p xs) (q : Q (.int (xs.length : Nat)) H) : rLen K [.ref p] H Q := ⟨_, _, rfl, .inl ⟨_, h, rfl⟩, q⟩
theorem lenT {p : Addr} {xs : List V} (h : SqT K H p xs) (q : Q (.int (xs.length : Nat)) H) : rLen K [.ref p] H Q := ⟨_, _, rfl, .inr ⟨_, h, rfl⟩, q⟩
/-- xs[i], s[i] -/
theorem ixL {p : Addr} {xs : List V} (h : SqL K H p xs) (ha : atI xs i = some v) (q : Q v H) : rIx K (.ref p) (.int i) H Q := .inl ⟨p, xs, i, v, rfl, rfl, h, ha, q⟩
theorem ixT {p : Addr} {xs : List V} (h : SqT K H p xs) (ha : atI xs i = some v) (q : Q v H) : rIx K (.ref p) (.int i) H Q := .inr (.inl ⟨p, xs, i, v, rfl, rfl, h, ha, q⟩)
theorem ixS {s : Str} {c : Nat} (h : s.length ≤ sizeLine) (ha : atI s.cps.toList i = some c) (q : Q (.str ⟨#[c]⟩) H) : rIx K (.str s) (.int i) H Q := .inr (.inr ⟨s, i, c, rfl, rfl, h, ha, q⟩)
/-- a, b = t -/
theorem gtup {n : Nat} {a : Addr} {xs : List V} {tg : TGs} {R : L2.St → Hp → Prop} (h : SqT K H a xs) (hl : xs.length = n) (q : tg xs σ H R) : gTup K n tg (.ref a) σ H R := ⟨a, xs, rfl, h, hl, q⟩
theorem gcons {g : TG} {tg : TGs} {xs : List V} {R : L2.St → Hp → Prop} (q : g v σ H fun σ' H' => tg xs σ' H' R) : gCons g tg (v :: xs) σ H R := ⟨v, xs, rfl, q⟩
theorem gnil {R : L2.St → Hp → Prop} (q : R σ H) : gNil [] σ H R := ⟨rfl, q⟩
/-- n.bit_length() -/
def BiP (x : V) (H : Hp) (Q : VK) : Prop := ∃ i, x = .int i ∧ Q (.int (Builtin.Int.intBits i : Nat)) H
/-- o.f, o.f = v, o.m(..), C(..) -/
def FP (K : PySem.W.Frag) (f : Str) (x : V) (H : Hp) (Q : VK) : Prop := ∃ a C dx fs v, x = .ref a ∧ H a = some (.ins C dx fs) ∧ Cls K C ∧ NoAttr K C f ∧ fs.lookup f = some v ∧ Q v H
theorem fld {f : Str} (q : ta σ H fun x H1 => FP K f x H1 Q) : tFld K ta f σ H Q := q
theorem fp {f : Str} {a C dx : Addr} {fs : List (Str × V)} (h : H a = some (.ins C dx fs)) (c : Cls K C) (n : NoAttr K C f) (l : fs.lookup f = some v) (q : Q v H) : FP K f (.ref a) H Q := ⟨a, C, dx, fs, v, rfl, h, c, n, l, q⟩
def SFP (K : PySem.W.Frag) (f : Str) (y x : V) (D : Ends) (σ : L2.St) (H : Hp) : Prop := ∃ a C dx fs, x = .ref a ∧ H a = some (.ins C dx fs) ∧ Cls K C ∧ NoAttr K C f ∧ fs.length < 1000 ∧ D.nx σ (upd H a (.ins C dx (putF f y fs)))
theorem sfld {f : Str} (q : tv σ H fun y H1 => ta σ H1 fun x H2 => SFP K f y x D σ H2) : sFld K ta tv f D σ H := q
theorem sfp {f : Str} {a C dx : Addr} {fs gs : List (Str × V)} (h : H a = some (.ins C dx fs)) (c : Cls K C) (n : NoAttr K C f) (l : fs.length < 1000) (e : putF f y fs = gs) (q : D.nx σ (upd H a (.ins C dx gs))) : SFP K f y (.ref a) D σ H := ⟨a, C, dx, fs, rfl, h, c, n, l, by rw [e]; exact q⟩
theorem few {f : Str} {v : V} : ∀ {fs : List (Str × V)} {k : Nat}, fs.length ≤ k → (putF f v fs).length ≤ k + 1
  | [], k, _ => Nat.succ_le_succ (Nat.zero_le k)
  | (g, u) :: r, k, h => by
    unfold putF
    split
    · exact Nat.le_succ_of_le h
    · cases k with
      | zero => cases h
      | succ k => exact Nat.succ_le_succ (few (Nat.le_of_succ_le_succ h))
def MP (C : Addr) (m : Str) (sp : Sp) (dvs : List V) (E : XK) (t : TA) (σ : L2.St) (x : V) (H : Hp) (Q : VK) : Prop := ∃ a dx fs, x = .ref a ∧ H a = some (.ins C dx fs) ∧ fs.lookup m = none ∧ t σ H fun vs H2 => sp (x :: (vs ++ dvs)) H2 Q E
theorem meth {C : Addr} {m : Str} {sp : Sp} {dvs : List V} {E : XK} (q : ta σ H fun x H1 => MP C m sp dvs E tr σ x H1 Q) : tMeth C m sp dvs E ta tr σ H Q := q
theorem mp {C a dx : Addr} {m : Str} {sp : Sp} {dvs : List V} {E : XK} {fs : List (Str × V)} (h : H a = some (.ins C dx fs)) (n : fs.lookup m = none) (q : tr σ H fun vs H2 => CP sp (.ref a :: vs) dvs H2 Q E) : MP C m sp dvs E tr σ (.ref a) H Q := ⟨a, dx, fs, rfl, h, n, q⟩
def MkP (C : Addr) (sp : Sp) (vs dvs : List V) (H : Hp) (Q : VK) (E : XK) : Prop := ∀ x dx, H x = none → H dx = none → dx ≠ x → CP sp (.ref x :: vs) dvs (upd (upd H dx (.own x)) x (.ins C dx [])) (fun v H2 => v = .non ∧ Q (.ref x) H2) E
theorem make {C : Addr} {sp : Sp} {dvs : List V} {E : XK} (q : tr σ H fun vs H1 => MkP C sp vs dvs H1 Q E) : tMake C sp dvs E tr σ H Q := q
/-- [v] * n -/
def rRepN : R2 := fun x y H Q => ∃ l k xs, x = .ref l ∧ y = .int k ∧ H l = some (.lst xs) ∧ -(2 ^ 63) ≤ k ∧ k < 2 ^ 63 ∧ xs.length * k.toNat ≤ sizeLine ∧ ∀ p, H p = none → Q (.ref p) (upd H p (.lst (List.replicate k.toNat xs).flatten))
theorem repN {l : Addr} {n : Nat} (h : H l = some (.lst [v])) (hn : n ≤ 100000) (q : ∀ p, H p = none → Q (.ref p) (upd H p (.lst (List.replicate n v)))) : rRepN (.ref l) (.int (n : Int)) H Q :=
  ⟨l, n, [v], rfl, rfl, h, by omega, by omega, by rw [Int.toNat_natCast, sizeLine_eq]; show 1 * n ≤ _; omega, fun p hp => by
    rw [Int.toNat_natCast, show (List.replicate n [v]).flatten = List.replicate n v by simp]; exact q p hp⟩
/-- xs[i] op= e -/
def rGetN (K : PySem.W.Frag) : V → V → Hp → VK → Prop := fun x y H Q => ∃ (p : Addr) (xs : List V) (i : Nat) (v : V), x = .ref p ∧ y = .int (i : Int) ∧ SqL K H p xs ∧ i < 1000000 ∧ xs[i]? = some v ∧ Q v H
def AgP (tip : TIp) (tset : TSet) (o i x y : V) (D : Ends) (σ : L2.St) (H : Hp) : Prop := tip x y H fun z H5 => tset o i z H5 fun H6 => D.nx σ H6
theorem augS {tget : V → V → Hp → VK → Prop} {tip : TIp} {tset : TSet} (q : to σ H fun o H1 => ti σ H1 fun i H2 => tget o i H2 fun x H3 => te σ H3 fun y H4 => AgP tip tset o i x y D σ H4) : tAugS to ti te tget tip tset D σ H := q
theorem getN {p : Addr} {xs : List V} {i : Nat} (h : SqL K H p xs) (hi : i < 1000000) (hx : xs[i]? = some v) (q : Q v H) : rGetN K (.ref p) (.int (i : Int)) H Q := ⟨p, xs, i, v, rfl, rfl, h, hi, hx, q⟩
theorem agL {l : Addr} {xs : List V} {k : Nat} {f : Int → Int → Int} (h : H l = some (.lst xs)) (hk : k < xs.length) (q : D.nx σ (upd H l (.lst (xs.set k (.int (f i j)))))) : AgP (ipI f) rSetL (.ref l) (.int (k : Int)) (.int i) (.int j) D σ H :=
  ⟨i, j, rfl, rfl, l, xs, k, k, rfl, rfl, h, by unfold ixN; rw [if_pos (by omega), if_pos (by omega)]; rfl, q⟩
/-- o[i] = v -/
def SbP (ti : TE) (t : TSet) (v : V) (σ : L2.St) (o : V) (H : Hp) (R : L2.St → Hp → Prop) : Prop := ti σ H fun i H2 => t o i v H2 fun H3 => R σ H3
theorem sub {ts : TSet} {R : L2.St → Hp → Prop} (q : to σ H fun o H1 => SbP ti ts v σ o H1 R) : gSub to ti ts v σ H R := q
theorem sbp {ts : TSet} {R : L2.St → Hp → Prop} (q : ti σ H fun i H2 => ts x i v H2 fun H3 => R σ H3) : SbP ti ts v σ x H R := q
theorem setL {l : Addr} {xs : List V} {k : Int} {j : Nat} {R : Hp → Prop} (h : H l = some (.lst xs)) (hk : ixN xs.length k = some j) (q : R (upd H l (.lst (xs.set j v)))) : rSetL (.ref l) (.int k) v H R := ⟨l, xs, k, j, rfl, rfl, h, hk, q⟩
/-- slices -/
def PtP (x : V) (H : Hp) (R : Option Int → Hp → Prop) : Prop := ∃ i, x = .int i ∧ R (some i) H
theorem slc {r : V → Option Int → Option Int → Hp → VK → Prop} {tl th : TO} (q : te σ H fun x H1 => tl σ H1 fun a H2 => th σ H2 fun b H3 => r x a b H3 Q) : tSl r te tl th σ H Q := q
theorem noP {R : Option Int → Hp → Prop} (q : R none H) : tNoPart σ H R := q
theorem part {R : Option Int → Hp → Prop} (q : te σ H fun x H1 => PtP x H1 R) : tPart te σ H R := q
theorem ptp {R : Option Int → Hp → Prop} (q : R (some i) H) : PtP (.int i) H R := ⟨i, rfl, q⟩
theorem slS {z : Str} {lo hi : Option Int} (h : z.length ≤ sizeLine) (q : Q (.str (cutS z lo hi)) H) : rSlS (.str z) lo hi H Q := ⟨z, rfl, h, q⟩
/-- texts put together -/
def rCatS : R2 := fun x y H Q => ∃ i j, x = .str i ∧ y = .str j ∧ i.length + j.length ≤ sizeLine ∧ Q (.str (i ++ j)) H
theorem addS {a b : Str} (h : a.length + b.length ≤ sizeLine) (q : Q (.str (a ++ b)) H) : rCatS (.str a) (.str b) H Q := ⟨a, b, rfl, rfl, h, q⟩
theorem at_map {ns : List Int} {k : Nat} (h : k < ns.length) : atI (ns.map V.int) (k : Int) = some (.int (ns.getD k 0)) := by
  refine atI_nat ?_
  rw [List.getElem?_map, List.getElem?_eq_getElem h]
  simp [List.getD_eq_getElem?_getD, List.getElem?_eq_getElem h]
/-- methods of built-in types -/
def BmP (K : PySem.W.Frag) (T : String) (r : V → List V → Hp → VK → Prop) (t : TA) (σ : L2.St) (x : V) (H : Hp) (Q : VK) : Prop := tyV K T x H ∧ t σ H fun xs H2 => r x xs H2 Q
theorem bm {T : String} {r : V → List V → Hp → VK → Prop} (q : to σ H fun x H1 => BmP K T r tr σ x H1 Q) : tBM K T r to tr σ H Q := q
theorem bmS {T : String} {r : V → List V → Hp → VK → Prop} (h : tyV K T x H) (q : tr σ H fun xs H2 => r x xs H2 Q) : BmP K T r tr σ x H Q := ⟨h, q⟩
theorem app {l : Addr} {xs : List V} (h : H l = some (.lst xs)) (hz : xs.length < sizeLine) (q : Q .non (upd H l (.lst (xs ++ [y])))) : rAppend (.ref l) [y] H Q := ⟨l, xs, y, rfl, rfl, h, hz, q⟩
theorem tyL {p : Addr} {xs : List V} (h : SqL K H p xs) : tyV K "list" (.ref p) H := .inl ⟨rfl, _, h⟩
/-- what follows is shown once, from the word between -/
theorem cut {tz : TS} (M : L2.St → Hp → Prop) (h : tu { D with nx := M } σ H) (k : ∀ σ' H', M σ' H' → tz D σ' H') : C8.tCut tu tz D σ H := ⟨M, h, k⟩
/-- while: a word that falls -/
def WhI (W : Nat → L2.St → Hp → Prop) (m : Nat) (tb : TS) (D : Ends) (σ : L2.St) (b : Bool) (H : Hp) : Prop :=
  if b = true then ∃ N : L2.St → Hp → Prop, (∀ σ' H', N σ' H' → ∃ m', m' < m ∧ W m' σ' H') ∧ tb { D with nx := N, ct := N, bk := D.nx } σ H else D.nx σ H
theorem whI_t {W : Nat → L2.St → Hp → Prop} {m : Nat} (q : tu { D with nx := fun σ' H' => ∃ m', m' < m ∧ W m' σ' H', ct := fun σ' H' => ∃ m', m' < m ∧ W m' σ' H', bk := D.nx } σ H) : WhI W m tu D σ true H := by
  unfold WhI; rw [if_pos rfl]; exact ⟨_, fun _ _ h => h, q⟩
theorem whI_f {W : Nat → L2.St → Hp → Prop} {m : Nat} (q : D.nx σ H) : WhI W m tu D σ false H := by
  unfold WhI; rw [if_neg Bool.false_ne_true]; exact q
theorem whI_d {W : Nat → L2.St → Hp → Prop} {m : Nat} {p : Prop} [Decidable p] (q1 : p → WhI W m tu D σ true H) (q2 : ¬ p → WhI W m tu D σ false H) : WhI W m tu D σ (decide p) H := by
  by_cases h : p
  · rw [decide_eq_true h]; exact q1 h
  · rw [decide_eq_false h]; exact q2 h
theorem whI_b {W : Nat → L2.St → Hp → Prop} {m : Nat} (q1 : b = true → WhI W m tu D σ true H) (q2 : b = false → WhI W m tu D σ false H) : WhI W m tu D σ b H := by
  cases b with
  | true => exact q1 rfl
  | false => exact q2 rfl
theorem whl (W : Nat → L2.St → Hp → Prop) (m0 : Nat) (h0 : W m0 σ H) (hs : ∀ m σ' H', W m σ' H' → t σ' H' fun b H1 => WhI W m tu D σ' b H1) : tWhile t tu D σ H := ⟨W, ⟨m0, h0⟩, hs⟩
/-- any walk -/
theorem fw {J : It} {n : Nat} {G : Hp → Prop} {Y : Nat → Hp → V → Hp → Prop} {g : TG} (w : Walk J n G Y) (Pv : Nat → L2.St → Hp → Prop) (h0 : Pv 0 σ H) (hG : ∀ i σ H, i ≤ n → Pv i σ H → G H)
    (hs : ∀ i x σ H H', i < n → Pv i σ H → Y i H x H' → g x σ H' fun σ2 H2 => tu { D with nx := Pv (i + 1), ct := Pv (i + 1), bk := D.nx } σ2 H2) (hd : ∀ σ H, Pv n σ H → D.nx σ H) : FW J g tu D σ H := for_it w Pv h0 hG hs hd
def StrP (x : V) (H : Hp) (R : It → Hp → Prop) : Prop := ∃ z, x = .str z ∧ R (Its z) H
theorem strw {R : It → Hp → Prop} (q : te σ H fun x H1 => StrP x H1 R) : iStr te σ H R := q
theorem strp {z : Str} {R : It → Hp → Prop} (q : R (Its z) H) : StrP (.str z) H R := ⟨z, rfl, q⟩
/-- comprehensions -/
def LcP (J : It) (g : TG) (tt : TT) (te : TE) (vs : List Nat) (σ : L2.St) (Q : VK) (H1 : Hp) : Prop := ∀ D, H1 D = none → ∃ W : Nat → Nat → Hp → Prop, (∃ m, W 0 m (upd H1 D (.lst []))) ∧ ∀ i m H, W i m H →
  (J.stop i H ∧ Q (.ref D) H) ∨ (J.go i H ∧ ∃ Nx : Hp → Prop, (∀ H', Nx H' → ∃ m', m' < m ∧ W (i + 1) m' H') ∧ ∀ x H', J.yld i H x H' → g x (wipe σ vs) H' fun σ2 H2 => wipe σ2 vs = wipe σ vs ∧ tt σ2 H2 fun b H3 =>
    if b = true then te σ2 H3 fun y H4 => ∃ acc, H4 D = some (.lst acc) ∧ acc.length < sizeLine ∧ Nx (upd H4 D (.lst (acc ++ [y]))) else Nx H3)
theorem lc {wi : TI} {g : TG} {vs : List Nat} (q : wi σ H fun J H1 => LcP J g t te vs σ Q H1) : tLc wi g t te vs σ H Q := q
def WP (A B : Prop) : Prop := A ∧ B
theorem wp (h : A1) (q : A2) : WP A1 A2 := ⟨h, q⟩
theorem yes (q : B true H) : tYes σ H B := q
theorem same_up {H H' : Hp} {p : Addr} {o : HO} (h : H p = none) (s : Same H H') : Same H (upd H' p o) := fun a u e => by rw [upd_ne (ne_of_none e h)]; exact s a u e
theorem same_new {H : Hp} {p : Addr} {o : HO} (h : H p = none) : Same H (upd H p o) := same_up h (Same.refl H)
theorem snoc {H : Hp} {p : Addr} {xs : List Int} {z : Int} : upd H p (.lst (xs.map V.int ++ [.int z])) p = some (.lst ((xs ++ [z]).map V.int)) := by rw [upd_same, List.map_append]; rfl
/-- a comprehension whose turns leave what stands: the list of the turns that are kept -/
theorem lcFil {J : It} {n : Nat} {G : Hp → Prop} {Y : Nat → Hp → V → Hp → Prop} {g : TG} {vs : List Nat} (w : Walk J n G Y) (hn : n < 16777216) (c : Nat → Bool) (f : Nat → V) (hG : ∀ H', Same H H' → G H') (hY : ∀ i H x H', Y i H x H' → Same H H')
    (hs : ∀ i x H1 H' (R : V → Hp → Prop) (R0 : Hp → Prop), i < n → Same H H1 → Y i H1 x H' → (c i = true → ∀ H4, Same H' H4 → R (f i) H4) → (c i = false → ∀ H4, Same H' H4 → R0 H4) →
      g x (wipe σ vs) H' fun σ2 H2 => WP (wipe σ2 vs = wipe σ vs) (t σ2 H2 fun b H3 => IfP b (te σ2 H3 R) (R0 H3)))
    (q : ∀ p H2, H p = none → Same H H2 → H2 p = some (.lst (((List.range n).filter c).map f)) → Q (.ref p) H2) : LcP J g t te vs σ Q H := fun p hp => by
  refine lc_it w (fun i H' => Same H H' ∧ H' p = some (.lst (((List.range i).filter c).map f))) ⟨same_new hp, upd_same⟩ (fun i H' _ h => hG H' h.1) (fun i x H1 H' hi h y => ?_) (fun H' h => q p H' hp h.1 h.2)
  obtain ⟨h1, h2⟩ := h
  have s1 := hY i H1 x H' y
  refine hs i x H1 H' _ _ hi h1 y (fun hc H4 s4 => ⟨_, s4 _ _ (s1 _ _ h2), ?_, same_up hp (h1.trans (s1.trans s4)), ?_⟩) (fun hc H4 s4 => ⟨h1.trans (s1.trans s4), ?_⟩)
  · rw [List.length_map]
    have := List.length_filter_le c (List.range i)
    rw [List.length_range] at this
    rw [sizeLine_eq]; omega
  · rw [upd_same, List.range_succ, List.filter_append, List.map_append, List.filter_cons, if_pos hc]; rfl
  · rw [List.range_succ, List.filter_append, List.map_append, List.filter_cons, if_neg (by rw [hc]; decide)]
    rw [s4 _ _ (s1 _ _ h2)]; simp
theorem lcMap {J : It} {n : Nat} {G : Hp → Prop} {Y : Nat → Hp → V → Hp → Prop} {g : TG} {vs : List Nat} (w : Walk J n G Y) (hn : n < 16777216) (f : Nat → V) (hG : ∀ H', Same H H' → G H') (hY : ∀ i H x H', Y i H x H' → Same H H')
    (hs : ∀ i x H1 H' (R : V → Hp → Prop) (R0 : Hp → Prop), i < n → Same H H1 → Y i H1 x H' → (∀ H4, Same H' H4 → R (f i) H4) →
      g x (wipe σ vs) H' fun σ2 H2 => WP (wipe σ2 vs = wipe σ vs) (t σ2 H2 fun b H3 => IfP b (te σ2 H3 R) (R0 H3)))
    (q : ∀ p H2, H p = none → Same H H2 → H2 p = some (.lst ((List.range n).map f)) → Q (.ref p) H2) : LcP J g t te vs σ Q H := by
  refine lcFil w hn (fun _ => true) f hG hY (fun i x H1 H' R R0 hi h1 y hr _ => hs i x H1 H' R R0 hi h1 y (hr rfl)) ?_
  rw [List.filter_eq_self.mpr (fun _ _ => rfl)]
  exact q
theorem sameFn {f : Nat → V} : ∀ i H x H', YFn f i H x H' → Same H H' := fun _ _ _ _ y => y.1 ▸ Same.refl _
theorem sameAt {xs : List V} : ∀ i H x H', YAt xs i H x H' → Same H H' := fun _ _ _ _ y => y.1 ▸ Same.refl _
/-- reversed ranges -/
def RrP (a b : Int) (H : Hp) (R : It → Hp → Prop) : Prop := -(2 ^ 62) ≤ a ∧ a < 2 ^ 62 ∧ -(2 ^ 62) ≤ b ∧ b < 2 ^ 62 ∧ R (Itc (a + (((b - a).toNat : Nat) : Int) - 1) (-1) (b - a).toNat) H
def Rg1P (x : V) (H : Hp) (R : Int → Int → Hp → Prop) : Prop := ∃ j, x = .int j ∧ R 0 j H
theorem rrv {tr : L2.St → Hp → (Int → Int → Hp → Prop) → Prop} {R : It → Hp → Prop} (q : tr σ H fun a b H1 => RrP a b H1 R) : iRevR tr σ H R := q
theorem rr {a b : Int} {R : It → Hp → Prop} (h : -(2 ^ 62) ≤ a ∧ a < 2 ^ 62 ∧ -(2 ^ 62) ≤ b ∧ b < 2 ^ 62) (q : R (Itc (a + (((b - a).toNat : Nat) : Int) - 1) (-1) (b - a).toNat) H) : RrP a b H R := ⟨h.1, h.2.1, h.2.2.1, h.2.2.2, q⟩
theorem rg1 {R : Int → Int → Hp → Prop} (q : ta σ H fun x H1 => Rg1P x H1 R) : tRg1 ta σ H R := q
theorem rg1p {R : Int → Int → Hp → Prop} (q : R 0 j H) : Rg1P (.int j) H R := ⟨j, rfl, q⟩
/-- isinstance with a built-in class -/
theorem isi {n : String} {tv : Value} (ty : TyX K H x tv) (q : Q (.bl b) H) (e : PySem.W.kitOne K tv (.type n) = some b) : rIsi K [x, .ty n] H Q := ⟨x, .ty n, tv, .type n, b, rfl, .ty n, ty, e, q⟩
theorem isiI {n : String} (q : Q (.bl b) H) (e : kitB "int" n = some b) : rIsi K [.int i, .ty n] H Q := isi (.base (.int i)) q (kit_ty e)
theorem isiS {n : String} {z : Str} (q : Q (.bl b) H) (e : kitB "str" n = some b) : rIsi K [.str z, .ty n] H Q := isi (.base (.str z)) q (kit_ty e)
theorem isiB {n : String} {k : Bool} (q : Q (.bl b) H) (e : kitB "bool" n = some b) : rIsi K [.bl k, .ty n] H Q := isi (.base (.bl k)) q (kit_ty e)
theorem isiN {n : String} (q : Q (.bl b) H) (e : kitB "NoneType" n = some b) : rIsi K [.non, .ty n] H Q := isi (.base .non) q (kit_ty e)
/-- int of a text, order of texts -/
def rIntS : List V → Hp → VK → Prop := fun xs H Q => ∃ a n, xs = [.str a] ∧ PySem.intText? a = some n ∧ a.length ≤ 640 ∧ Q (.int n) H
theorem intS {a : Str} {n : Int} (h : PySem.intText? a = some n) (hl : a.length ≤ 640) (q : Q (.int n) H) : rIntS [.str a] H Q := ⟨a, n, rfl, h, hl, q⟩
def rLtS : R2 := fun x y H Q => ∃ i j, x = .str i ∧ y = .str j ∧ Q (.bl (decide (i.cps.toList < j.cps.toList))) H
theorem ltS {a b : Str} (q : Q (.bl (decide (a.cps.toList < b.cps.toList))) H) : rLtS (.str a) (.str b) H Q := ⟨a, b, rfl, rfl, q⟩
theorem eqB {p q' : Bool} : decide (V.bl p = V.bl q') = decide (p = q') := by simp
theorem eqvB {a b : Bool} (q : Q (.bl (decide (a = b))) H) : rEq (.bl a) (.bl b) H Q := eqv (by rw [eqB]; exact q)
def rMin2 : List V → Hp → VK → Prop := fun xs H Q => ∃ i j, xs = [.int i, .int j] ∧ Q (.int (if j < i then j else i)) H
def rMax2 : List V → Hp → VK → Prop := fun xs H Q => ∃ i j, xs = [.int i, .int j] ∧ Q (.int (if j > i then j else i)) H
theorem min2 (q : Q (.int (if j < i then j else i)) H) : rMin2 [.int i, .int j] H Q := ⟨i, j, rfl, q⟩
theorem max2 (q : Q (.int (if j > i then j else i)) H) : rMax2 [.int i, .int j] H Q := ⟨i, j, rfl, q⟩
/-- x in (..), of ints -/
theorem inL {p : Addr} {xs : List V} {neg : Bool} (h : SqL K H p xs) (f : xs.all flatV = true) (q : Q (.bl (if neg then !inV (.int i) xs else inV (.int i) xs)) H) : rIn K neg (.int i) (.ref p) H Q := ⟨p, xs, rfl, .inl h, rfl, f, q⟩
theorem flat_ints : ∀ xs : List Int, (xs.map V.int).all flatV = true
  | [] => rfl
  | _ :: xs => by rw [List.map_cons, List.all_cons, flat_ints xs]; rfl
theorem notin_ints {z : Int} : ∀ xs : List Int, (∀ y ∈ xs, y ≠ z) → inV (.int z) (xs.map V.int) = false
  | [], _ => rfl
  | y :: xs, h => by
    have ih := notin_ints xs fun u hu => h u (List.mem_cons_of_mem _ hu)
    unfold inV at *
    rw [List.map_cons, List.any_cons, ih, Bool.or_false]
    show (y == z) = false
    exact beq_eq_false_iff_ne.mpr (h y List.mem_cons_self)
theorem inT {p : Addr} {xs : List V} {neg : Bool} (h : SqT K H p xs) (f : xs.all flatV = true) (q : Q (.bl (if neg then !inV (.int i) xs else inV (.int i) xs)) H) : rIn K neg (.int i) (.ref p) H Q := ⟨p, xs, rfl, .inr h, rfl, f, q⟩
/-- x in (..), of texts -/
theorem inLS {p : Addr} {xs : List Str} {z : Str} {neg : Bool} (h : SqL K H p (xs.map V.str)) (q : Q (.bl (if neg then !decide (z ∈ xs) else decide (z ∈ xs))) H) : rIn K neg (.str z) (.ref p) H Q := by
  have fl : ∀ xs : List Str, (xs.map V.str).all flatV = true := fun xs => by simp [flatV]
  have e : ∀ xs : List Str, inV (.str z) (xs.map V.str) = decide (z ∈ xs) := fun xs => by
    rw [Bool.eq_iff_iff, decide_eq_true_iff]
    unfold inV
    rw [List.any_map, List.any_eq_true]
    constructor
    · rintro ⟨y, hy, e⟩
      have : y = z := by simpa [eqV] using e
      rw [← this]; exact hy
    · intro hz
      exact ⟨z, hz, by simp [eqV]⟩
  exact ⟨p, _, rfl, .inl h, rfl, fl xs, by rw [e]; exact q⟩
theorem inTS {p : Addr} {xs : List Str} {z : Str} {neg : Bool} (h : SqT K H p (xs.map V.str)) (q : Q (.bl (if neg then !decide (z ∈ xs) else decide (z ∈ xs))) H) : rIn K neg (.str z) (.ref p) H Q := by
  have fl : ∀ xs : List Str, (xs.map V.str).all flatV = true := fun xs => by simp [flatV]
  have e : ∀ xs : List Str, inV (.str z) (xs.map V.str) = decide (z ∈ xs) := fun xs => by
    rw [Bool.eq_iff_iff, decide_eq_true_iff]
    unfold inV
    rw [List.any_map, List.any_eq_true]
    constructor
    · rintro ⟨y, hy, e⟩
      have : y = z := by simpa [eqV] using e
      rw [← this]; exact hy
    · intro hz
      exact ⟨z, hz, by simp [eqV]⟩
  exact ⟨p, _, rfl, .inr h, rfl, fl xs, by rw [e]; exact q⟩
/-- == of lists of ints -/
theorem eqvAll_int : ∀ xs ys : List Int, PyData.eqvAll (xs.map .int) (ys.map .int) = decide (xs = ys)
  | [], [] => by simp [PyData.eqvAll]
  | [], _ :: _ => by simp [PyData.eqvAll]
  | _ :: _, [] => by simp [PyData.eqvAll]
  | x :: xs, y :: ys => by
    simp only [List.map_cons, PyData.eqvAll, PyData.eqv, eqvAll_int xs ys]
    by_cases h : x = y
    · subst h; simp
    · simp [h]
theorem canLay_ints : ∀ xs : List Int, PyData.canLayAll0 (xs.map .int) = true
  | [] => rfl
  | _ :: xs => by simp [PyData.canLayAll0, PyData.canLay0, canLay_ints xs]
theorem depth_ints : ∀ xs : List Int, PyData.depthAll (xs.map .int) = 0
  | [] => rfl
  | _ :: xs => by simp [PyData.depthAll, PyData.depth, depth_ints xs]
theorem shaped_ints (xs : List Int) : SeqAt.shaped (.list (xs.map .int)) = true := by
  simp [SeqAt.shaped, PyData.canLay0, PyData.depth, canLay_ints, depth_ints]
theorem shaped_tints (xs : List Int) : SeqAt.shaped (.tuple (xs.map .int)) = true := by
  simp [SeqAt.shaped, PyData.canLay0, PyData.depth, canLay_ints, depth_ints]
theorem dpAll_int : ∀ xs : List Int, DpAll K H (xs.map V.int) (xs.map PyData.int)
  | [] => .nil
  | x :: xs => .cons (.int x) (dpAll_int xs)
theorem eqDI {p q' : Addr} {xs ys : List Int} (h1 : SqL K H p (xs.map V.int)) (h2 : SqL K H q' (ys.map V.int)) (q : Q (.bl (decide (xs = ys))) H) : rEqD K (.ref p) (.ref q') H Q :=
  ⟨_, _, .lst h1 (dpAll_int xs), .lst h2 (dpAll_int ys), shaped_ints xs, shaped_ints ys, by rw [show PyData.eqv (.list (xs.map .int)) (.list (ys.map .int)) = decide (xs = ys) from eqvAll_int xs ys]; exact q⟩
theorem neDI {p q' : Addr} {xs ys : List Int} (h1 : SqL K H p (xs.map V.int)) (h2 : SqL K H q' (ys.map V.int)) (q : Q (.bl (!decide (xs = ys))) H) : rNeD K (.ref p) (.ref q') H Q :=
  ⟨_, _, .lst h1 (dpAll_int xs), .lst h2 (dpAll_int ys), shaped_ints xs, shaped_ints ys, by rw [show PyData.eqv (.list (xs.map .int)) (.list (ys.map .int)) = decide (xs = ys) from eqvAll_int xs ys]; exact q⟩
theorem eqDT {p q' : Addr} {xs ys : List Int} (h1 : SqT K H p (xs.map V.int)) (h2 : SqT K H q' (ys.map V.int)) (q : Q (.bl (decide (xs = ys))) H) : rEqD K (.ref p) (.ref q') H Q :=
  ⟨_, _, .tup h1 (dpAll_int xs), .tup h2 (dpAll_int ys), shaped_tints xs, shaped_tints ys, by rw [show PyData.eqv (.tuple (xs.map .int)) (.tuple (ys.map .int)) = decide (xs = ys) from eqvAll_int xs ys]; exact q⟩
theorem neDT {p q' : Addr} {xs ys : List Int} (h1 : SqT K H p (xs.map V.int)) (h2 : SqT K H q' (ys.map V.int)) (q : Q (.bl (!decide (xs = ys))) H) : rNeD K (.ref p) (.ref q') H Q :=
  ⟨_, _, .tup h1 (dpAll_int xs), .tup h2 (dpAll_int ys), shaped_tints xs, shaped_tints ys, by rw [show PyData.eqv (.tuple (xs.map .int)) (.tuple (ys.map .int)) = decide (xs = ys) from eqvAll_int xs ys]; exact q⟩
/-- all, any, sum, list(..) of a list -/
theorem allP {p : Addr} {bs : List Bool} (h : SqL K H p (bs.map V.bl)) (q : Q (.bl (bs.all id)) H) : L2.rAll K [.ref p] H Q := ⟨p, bs, rfl, h, q⟩
theorem anyP {p : Addr} {bs : List Bool} (h : SqL K H p (bs.map V.bl)) (q : Q (.bl (bs.any id)) H) : L2.rAny K [.ref p] H Q := ⟨p, bs, rfl, h, q⟩
theorem sumP {p : Addr} {ns : List Int} (h : SqL K H p (ns.map V.int)) (q : Q (.int ns.sum) H) : L2.rSum K [.ref p] H Q := ⟨p, ns, rfl, h, q⟩
def rList (K : PySem.W.Frag) : List V → Hp → VK → Prop := fun xs H Q => ∃ p ys, xs = [.ref p] ∧ (SqL K H p ys ∨ SqT K H p ys) ∧ ∀ l, H l = none → Q (.ref l) (upd H l (.lst ys))
theorem listL {p : Addr} {xs : List V} (h : SqL K H p xs) (q : ∀ l, H l = none → Q (.ref l) (upd H l (.lst xs))) : rList K [.ref p] H Q := ⟨p, xs, rfl, .inl h, q⟩
theorem listT {p : Addr} {xs : List V} (h : SqT K H p xs) (q : ∀ l, H l = none → Q (.ref l) (upd H l (.lst xs))) : rList K [.ref p] H Q := ⟨p, xs, rfl, .inr h, q⟩
def rDivmod : List V → Hp → VK → Prop := fun xs H Q => ∃ i j, xs = [.int i, .int j] ∧ CDiv i j ∧ ∀ p, H p = none → Q (.ref p) (upd H p (.tup [.int (i / j), .int (i % j)]))
theorem dvm (c : CDiv i j) (q : ∀ p, H p = none → Q (.ref p) (upd H p (.tup [.int (i / j), .int (i % j)]))) : rDivmod [.int i, .int j] H Q := ⟨i, j, rfl, c, q⟩
theorem cat {l b : Addr} {xs zs : List V} (h1 : H l = some (.lst xs)) (h2 : H b = some (.lst zs)) (hz : xs.length + zs.length ≤ sizeLine) (q : ∀ p, H p = none → Q (.ref p) (upd H p (.lst (xs ++ zs)))) : rCat (.ref l) (.ref b) H Q := ⟨l, b, xs, zs, rfl, rfl, h1, h2, hz, q⟩
def TwP (K : PySem.W.Frag) (x : V) (H : Hp) (R : It → Hp → Prop) : Prop := ∃ a, x = .ref a ∧ (∃ xs, SqT K H a xs) ∧ R (Itt K a) H
theorem twk {R : It → Hp → Prop} (q : te σ H fun x H1 => TwP K x H1 R) : iTup K te σ H R := q
theorem twp {a : Addr} {xs : List V} {R : It → Hp → Prop} (h : SqT K H a xs) (q : R (Itt K a) H) : TwP K (.ref a) H R := ⟨a, rfl, ⟨xs, h⟩, q⟩
/-- a list of tuples of ints -/
def TL (H : Hp) (l : Addr) (n : Nat) (f : Nat → List Int) : Prop := ∃ ps : List Addr, H l = some (.lst (ps.map V.ref)) ∧ ps.length = n ∧ ∀ j a, ps[j]? = some a → H a = some (.tup ((f j).map V.int))
theorem TL.keep {H' : Hp} {l : Addr} {n : Nat} {f : Nat → List Int} (t : TL H l n f) (s : Same H H') : TL H' l n f := by
  obtain ⟨ps, h1, h2, h3⟩ := t
  exact ⟨ps, s _ _ h1, h2, fun j a e => s _ _ (h3 j a e)⟩
theorem TL.nil {l : Addr} {f : Nat → List Int} (h : H l = some (.lst [])) : TL H l 0 f := ⟨[], h, rfl, fun j a e => by cases e⟩
theorem TL.snoc {l t : Addr} {n : Nat} {f : Nat → List Int} (x : TL H l n f) (h : H t = some (.tup ((f n).map V.int))) : ∃ xs, H l = some (.lst xs) ∧ xs.length = n ∧ TL (upd H l (.lst (xs ++ [.ref t]))) l (n + 1) f := by
  obtain ⟨ps, h1, h2, h3⟩ := x
  have ne : ∀ {a : Addr} {ys : List V}, H a = some (.tup ys) → a ≠ l := fun e => ne_of e h1 (by intro z; cases z)
  refine ⟨_, h1, by rw [List.length_map]; exact h2, ps ++ [t], by rw [upd_same, List.map_append]; rfl, by rw [List.length_append, h2]; rfl, fun j a e => ?_⟩
  by_cases hj : j < ps.length
  · rw [List.getElem?_append_left hj] at e
    rw [upd_ne (ne (h3 j a e))]; exact h3 j a e
  · rw [List.getElem?_append_right (by omega)] at e
    have hj2 : j - ps.length = 0 := by
      rcases Nat.eq_zero_or_pos (j - ps.length) with z | z
      · exact z
      · rw [List.getElem?_eq_none (by show 1 ≤ _; omega)] at e; cases e
    rw [hj2] at e
    have e2 : t = a := Option.some.inj e
    subst e2
    rw [upd_ne (ne h), show j = n by omega]; exact h
theorem TL.len {l : Addr} {n : Nat} {f : Nat → List Int} (x : TL H l n f) : ∃ xs, H l = some (.lst xs) ∧ xs.length = n := by
  obtain ⟨ps, h1, h2, h3⟩ := x
  exact ⟨_, h1, by rw [List.length_map]; exact h2⟩
theorem TL.get {l : Addr} {n j : Nat} {f : Nat → List Int} (x : TL H l n f) (hj : j < n) : ∃ xs a, H l = some (.lst xs) ∧ atI xs (j : Int) = some (.ref a) ∧ H a = some (.tup ((f j).map V.int)) := by
  obtain ⟨ps, h1, h2, h3⟩ := x
  have hj2 : j < ps.length := by omega
  refine ⟨_, ps[j], h1, atI_nat ?_, h3 j _ (List.getElem?_eq_getElem hj2)⟩
  rw [List.getElem?_map, List.getElem?_eq_getElem hj2]; rfl
theorem dp_tups : ∀ (ps : List Addr) (g : Nat → List Int), (∀ j a, ps[j]? = some a → H a = some (.tup ((g j).map V.int))) → DpAll K H (ps.map V.ref) ((List.range ps.length).map fun j => PyData.tuple ((g j).map PyData.int))
  | [], _, _ => .nil
  | a :: ps, g, h => by
    rw [List.length_cons, List.range_succ_eq_map, List.map_cons, List.map_cons, List.map_map]
    exact .cons (.tup (SqT.of (h 0 a rfl)) (dpAll_int _)) (dp_tups ps (fun j => g (j + 1)) fun j b e => h (j + 1) b (by simpa using e))
theorem lay_tups : ∀ rows : List (List Int), PyData.canLayAll0 (rows.map fun r => PyData.tuple (r.map PyData.int)) = true ∧ PyData.depthAll (rows.map fun r => PyData.tuple (r.map PyData.int)) ≤ 1 ∧ PyData.eqvAll (rows.map fun r => PyData.tuple (r.map PyData.int)) (rows.map fun r => PyData.tuple (r.map PyData.int)) = true
  | [] => ⟨rfl, by simp [PyData.depthAll], by simp [PyData.eqvAll]⟩
  | r :: rows => by
    obtain ⟨h1, h2, h3⟩ := lay_tups rows
    refine ⟨by simp [PyData.canLayAll0, PyData.canLay0, canLay_ints, h1], ?_, ?_⟩
    · simp only [List.map_cons, PyData.depthAll, PyData.depth, depth_ints]; omega
    · simp [PyData.eqvAll, PyData.eqv, eqvAll_int, h3]
theorem TL.dp {l : Addr} {n : Nat} {f : Nat → List Int} (x : TL H l n f) : Dp K H (.ref l) (.list (((List.range n).map f).map fun r => PyData.tuple (r.map PyData.int))) := by
  obtain ⟨ps, h1, h2, h3⟩ := x
  have := dp_tups (K := K) ps f h3
  rw [h2] at this
  rw [List.map_map]
  exact .lst (SqL.of h1) this
theorem shaped_tups (rows : List (List Int)) : SeqAt.shaped (.list (rows.map fun r => PyData.tuple (r.map PyData.int))) = true := by
  obtain ⟨h1, h2, _⟩ := lay_tups rows
  unfold SeqAt.shaped
  simp only [PyData.canLay0, PyData.depth, h1, Bool.true_and]
  exact decide_eq_true (by omega)
theorem eqTL {l m : Addr} {n : Nat} {f : Nat → List Int} (x : TL H l n f) (y : TL H m n f) (q : Q (.bl true) H) : rEqD K (.ref l) (.ref m) H Q :=
  ⟨_, _, x.dp, y.dp, shaped_tups _, shaped_tups _, by rw [show PyData.eqv (.list (((List.range n).map f).map fun r => PyData.tuple (r.map PyData.int))) (.list (((List.range n).map f).map fun r => PyData.tuple (r.map PyData.int))) = true from (lay_tups _).2.2]; exact q⟩
theorem neTL {l m : Addr} {n : Nat} {f : Nat → List Int} (x : TL H l n f) (y : TL H m n f) (q : Q (.bl false) H) : rNeD K (.ref l) (.ref m) H Q :=
  ⟨_, _, x.dp, y.dp, shaped_tups _, shaped_tups _, by rw [show PyData.eqv (.list (((List.range n).map f).map fun r => PyData.tuple (r.map PyData.int))) (.list (((List.range n).map f).map fun r => PyData.tuple (r.map PyData.int))) = true from (lay_tups _).2.2]; exact q⟩
/-- a comprehension whose turns make a tuple each -/
theorem lcTup {J : It} {n : Nat} {G : Hp → Prop} {Y : Nat → Hp → V → Hp → Prop} {g : TG} {vs : List Nat} (w : Walk J n G Y) (hn : n < 16777216) (f : Nat → List Int) (hG : ∀ H', Same H H' → G H') (hY : ∀ i H x H', Y i H x H' → Same H H')
    (hs : ∀ i x H1 H' (R : V → Hp → Prop) (R0 : Hp → Prop), i < n → Same H H1 → Y i H1 x H' → (∀ p H4, Same H' H4 → H4 p = some (.tup ((f i).map V.int)) → R (.ref p) H4) →
      g x (wipe σ vs) H' fun σ2 H2 => WP (wipe σ2 vs = wipe σ vs) (t σ2 H2 fun b H3 => IfP b (te σ2 H3 R) (R0 H3)))
    (q : ∀ p H2, H p = none → Same H H2 → TL H2 p n f → Q (.ref p) H2) : LcP J g t te vs σ Q H := fun p hp => by
  refine lc_it w (fun i H' => Same H H' ∧ TL H' p i f) ⟨same_new hp, TL.nil upd_same⟩ (fun i H' _ h => hG H' h.1) (fun i x H1 H' hi h y => ?_) (fun H' h => q p H' hp h.1 h.2)
  obtain ⟨h1, h2⟩ := h
  have s1 := hY i H1 x H' y
  refine hs i x H1 H' _ _ hi h1 y (fun a H4 s4 ha => ?_)
  obtain ⟨xs, e1, e2, e3⟩ := (h2.keep (s1.trans s4)).snoc ha
  exact ⟨xs, e1, by rw [sizeLine_eq]; omega, same_up hp (h1.trans (s1.trans s4)), e3⟩
/-- a list of lists of ints -/
def LL (H : Hp) (l : Addr) (n : Nat) (f : Nat → List Int) : Prop := ∃ ps : List Addr, H l = some (.lst (ps.map V.ref)) ∧ ps.length = n ∧ ∀ j a, ps[j]? = some a → H a = some (.lst ((f j).map V.int))
theorem LL.keep {H' : Hp} {l : Addr} {n : Nat} {f : Nat → List Int} (t : LL H l n f) (s : Same H H') : LL H' l n f := by
  obtain ⟨ps, h1, h2, h3⟩ := t
  exact ⟨ps, s _ _ h1, h2, fun j a e => s _ _ (h3 j a e)⟩
theorem LL.nil {l : Addr} {f : Nat → List Int} (h : H l = some (.lst [])) : LL H l 0 f := ⟨[], h, rfl, fun j a e => by cases e⟩
theorem LL.snoc {l t : Addr} {n : Nat} {f : Nat → List Int} (x : LL H l n f) (h : H t = some (.lst ((f n).map V.int))) (ne : t ≠ l) : ∃ xs, H l = some (.lst xs) ∧ xs.length = n ∧ LL (upd H l (.lst (xs ++ [.ref t]))) l (n + 1) f := by
  obtain ⟨ps, h1, h2, h3⟩ := x
  have nl : ∀ {j : Nat} {a : Addr}, ps[j]? = some a → a ≠ l := fun {j a} e z => by
    have e2 := h3 j a e
    rw [z, h1] at e2
    have e3 : ps.map V.ref = (f j).map V.int := by injection e2 with e2; injection e2
    cases hp : ps with
    | nil => rw [hp] at e; cases e
    | cons b r =>
      rw [hp] at e3
      cases hf : f j with
      | nil => rw [hf] at e3; cases e3
      | cons z zs => rw [hf] at e3; injection e3 with e4; cases e4
  refine ⟨_, h1, by rw [List.length_map]; exact h2, ps ++ [t], by rw [upd_same, List.map_append]; rfl, by rw [List.length_append, h2]; rfl, fun j a e => ?_⟩
  by_cases hj : j < ps.length
  · rw [List.getElem?_append_left hj] at e
    rw [upd_ne (nl e)]; exact h3 j a e
  · rw [List.getElem?_append_right (by omega)] at e
    have hj2 : j - ps.length = 0 := by
      rcases Nat.eq_zero_or_pos (j - ps.length) with z | z
      · exact z
      · rw [List.getElem?_eq_none (by show 1 ≤ _; omega)] at e; cases e
    rw [hj2] at e
    have e2 : t = a := Option.some.inj e
    subst e2
    rw [upd_ne ne, show j = n by omega]; exact h
theorem LL.len {l : Addr} {n : Nat} {f : Nat → List Int} (x : LL H l n f) : ∃ xs, H l = some (.lst xs) ∧ xs.length = n := by
  obtain ⟨ps, h1, h2, h3⟩ := x
  exact ⟨_, h1, by rw [List.length_map]; exact h2⟩
theorem LL.all {l : Addr} {n : Nat} {f : Nat → List Int} (x : LL H l n f) : ∃ xs, H l = some (.lst xs) ∧ xs.length = n ∧ ∀ j v, xs[j]? = some v → ∃ a, v = .ref a ∧ H a = some (.lst ((f j).map V.int)) := by
  obtain ⟨ps, h1, h2, h3⟩ := x
  refine ⟨_, h1, by rw [List.length_map]; exact h2, fun j v e => ?_⟩
  rw [List.getElem?_map] at e
  cases ea : ps[j]? with
  | none => rw [ea] at e; cases e
  | some a => rw [ea] at e; exact ⟨a, (Option.some.inj e).symm, h3 j a ea⟩
theorem LL.get {l : Addr} {n j : Nat} {f : Nat → List Int} (x : LL H l n f) (hj : j < n) : ∃ xs a, H l = some (.lst xs) ∧ atI xs (j : Int) = some (.ref a) ∧ H a = some (.lst ((f j).map V.int)) := by
  obtain ⟨ps, h1, h2, h3⟩ := x
  have hj2 : j < ps.length := by omega
  refine ⟨_, ps[j], h1, atI_nat ?_, h3 j _ (List.getElem?_eq_getElem hj2)⟩
  rw [List.getElem?_map, List.getElem?_eq_getElem hj2]; rfl
theorem LL.congr {l : Addr} {n : Nat} {f g : Nat → List Int} (x : LL H l n f) (h : ∀ j, j < n → f j = g j) : LL H l n g := by
  obtain ⟨ps, h1, h2, h3⟩ := x
  refine ⟨ps, h1, h2, fun j a e => ?_⟩
  have hj : j < ps.length := by
    rcases Nat.lt_or_ge j ps.length with z | z
    · exact z
    · rw [List.getElem?_eq_none z] at e; cases e
  rw [← h j (by omega)]; exact h3 j a e
theorem dp_lists : ∀ (ps : List Addr) (g : Nat → List Int), (∀ j a, ps[j]? = some a → H a = some (.lst ((g j).map V.int))) → DpAll K H (ps.map V.ref) ((List.range ps.length).map fun j => PyData.list ((g j).map PyData.int))
  | [], _, _ => .nil
  | a :: ps, g, h => by
    rw [List.length_cons, List.range_succ_eq_map, List.map_cons, List.map_cons, List.map_map]
    exact .cons (.lst (SqL.of (h 0 a rfl)) (dpAll_int _)) (dp_lists ps (fun j => g (j + 1)) fun j b e => h (j + 1) b (by simpa using e))
theorem lay_lists : ∀ rows : List (List Int), PyData.canLayAll0 (rows.map fun r => PyData.list (r.map PyData.int)) = true ∧ PyData.depthAll (rows.map fun r => PyData.list (r.map PyData.int)) ≤ 1 ∧ PyData.eqvAll (rows.map fun r => PyData.list (r.map PyData.int)) (rows.map fun r => PyData.list (r.map PyData.int)) = true
  | [] => ⟨rfl, by simp [PyData.depthAll], by simp [PyData.eqvAll]⟩
  | r :: rows => by
    obtain ⟨h1, h2, h3⟩ := lay_lists rows
    refine ⟨by simp [PyData.canLayAll0, PyData.canLay0, canLay_ints, h1], ?_, ?_⟩
    · simp only [List.map_cons, PyData.depthAll, PyData.depth, depth_ints]; omega
    · simp [PyData.eqvAll, PyData.eqv, eqvAll_int, h3]
theorem LL.dp {l : Addr} {n : Nat} {f : Nat → List Int} (x : LL H l n f) : Dp K H (.ref l) (.list (((List.range n).map f).map fun r => PyData.list (r.map PyData.int))) := by
  obtain ⟨ps, h1, h2, h3⟩ := x
  have := dp_lists (K := K) ps f h3
  rw [h2] at this
  rw [List.map_map]
  exact .lst (SqL.of h1) this
theorem shaped_lists (rows : List (List Int)) : SeqAt.shaped (.list (rows.map fun r => PyData.list (r.map PyData.int))) = true := by
  obtain ⟨h1, h2, _⟩ := lay_lists rows
  unfold SeqAt.shaped
  simp only [PyData.canLay0, PyData.depth, h1, Bool.true_and]
  exact decide_eq_true (by omega)
theorem eqLL {l m : Addr} {n : Nat} {f : Nat → List Int} (x : LL H l n f) (y : LL H m n f) (q : Q (.bl true) H) : rEqD K (.ref l) (.ref m) H Q :=
  ⟨_, _, x.dp, y.dp, shaped_lists _, shaped_lists _, by rw [show PyData.eqv (.list (((List.range n).map f).map fun r => PyData.list (r.map PyData.int))) (.list (((List.range n).map f).map fun r => PyData.list (r.map PyData.int))) = true from (lay_lists _).2.2]; exact q⟩
/-- a comprehension whose turns make a list each -/
theorem lcLst {J : It} {n : Nat} {G : Hp → Prop} {Y : Nat → Hp → V → Hp → Prop} {g : TG} {vs : List Nat} (w : Walk J n G Y) (hn : n < 16777216) (f : Nat → List Int) (hG : ∀ H', Same H H' → G H') (hY : ∀ i H x H', Y i H x H' → Same H H')
    (hs : ∀ i x H1 H' (R : V → Hp → Prop) (R0 : Hp → Prop), i < n → Same H H1 → Y i H1 x H' → (∀ p H4, H' p = none → Same H' H4 → H4 p = some (.lst ((f i).map V.int)) → R (.ref p) H4) →
      g x (wipe σ vs) H' fun σ2 H2 => WP (wipe σ2 vs = wipe σ vs) (t σ2 H2 fun b H3 => IfP b (te σ2 H3 R) (R0 H3)))
    (q : ∀ p H2, H p = none → Same H H2 → LL H2 p n f → Q (.ref p) H2) : LcP J g t te vs σ Q H := fun p hp => by
  refine lc_it w (fun i H' => Same H H' ∧ LL H' p i f) ⟨same_new hp, LL.nil upd_same⟩ (fun i H' _ h => hG H' h.1) (fun i x H1 H' hi h y => ?_) (fun H' h => q p H' hp h.1 h.2)
  obtain ⟨h1, h2⟩ := h
  have s1 := hY i H1 x H' y
  refine hs i x H1 H' _ _ hi h1 y (fun a H4 hf s4 ha => ?_)
  obtain ⟨ys, hy, _⟩ := h2.len
  obtain ⟨xs, e1, e2, e3⟩ := (h2.keep (s1.trans s4)).snoc ha (ne_of_none (s1 _ _ hy) hf).symm
  exact ⟨xs, e1, by rw [sizeLine_eq]; omega, same_up hp (h1.trans (s1.trans s4)), e3⟩
theorem cutV_ints (xs : List Int) {b n : Nat} (h : b + n ≤ xs.length) : cutV (xs.map V.int) (some (b : Int)) (some ((b + n : Nat) : Int)) = ((xs.drop b).take n).map V.int := by
  unfold cutV
  rw [HT.sIx_nat, HT.sIx_nat, List.length_map, Nat.min_eq_left h, Nat.min_eq_left (show b ≤ xs.length by omega), Nat.add_sub_cancel_left, List.map_take, List.map_drop]
/-- a comprehension whose turns give ints that are told by a property alone -/
theorem lcInt {J : It} {n : Nat} {G : Hp → Prop} {Y : Nat → Hp → V → Hp → Prop} {g : TG} {vs : List Nat} (w : Walk J n G Y) (hn : n < 16777216) (P : Nat → Int → Prop) (hG : ∀ H', Same H H' → G H') (hY : ∀ i H x H', Y i H x H' → Same H H')
    (hs : ∀ i x H1 H' (R : V → Hp → Prop) (R0 : Hp → Prop), i < n → Same H H1 → Y i H1 x H' → (∀ z H4, P i z → Same H' H4 → R (.int z) H4) →
      g x (wipe σ vs) H' fun σ2 H2 => WP (wipe σ2 vs = wipe σ vs) (t σ2 H2 fun b H3 => IfP b (te σ2 H3 R) (R0 H3)))
    (q : ∀ (xs : List Int) (p : Addr) H2, xs.length = n → (∀ j z, xs[j]? = some z → P j z) → H p = none → Same H H2 → H2 p = some (.lst (xs.map V.int)) → Q (.ref p) H2) : LcP J g t te vs σ Q H := fun p hp => by
  refine lc_it w (fun i H' => Same H H' ∧ ∃ xs : List Int, xs.length = i ∧ (∀ j z, xs[j]? = some z → P j z) ∧ H' p = some (.lst (xs.map V.int))) ⟨same_new hp, [], rfl, (fun j z e => nomatch e), upd_same⟩ (fun i H' _ h => hG H' h.1) (fun i x H1 H' hi h y => ?_) (fun H' h => ?_)
  · obtain ⟨h1, xs, hl, hP, h2⟩ := h
    have s1 := hY i H1 x H' y
    refine hs i x H1 H' _ _ hi h1 y (fun z H4 hz s4 => ⟨_, s4 _ _ (s1 _ _ h2), by rw [List.length_map, hl, sizeLine_eq]; omega, same_up hp (h1.trans (s1.trans s4)), xs ++ [z], by rw [List.length_append, hl]; rfl, fun j u e => ?_, by rw [upd_same, List.map_append]; rfl⟩)
    by_cases hj : j < xs.length
    · rw [List.getElem?_append_left hj] at e; exact hP j u e
    · rw [List.getElem?_append_right (by omega)] at e
      have hj2 : j - xs.length = 0 := by
        rcases Nat.eq_zero_or_pos (j - xs.length) with c | c
        · exact c
        · rw [List.getElem?_eq_none (by show 1 ≤ _; omega)] at e; cases e
      rw [hj2] at e
      cases e
      rw [show j = i by omega]; exact hz
  · obtain ⟨h1, xs, hl, hP, h2⟩ := h
    exact q xs p H' hl hP hp h1 h2
/-- a comprehension over two ranges -/
def Lc2In (J1 : It) (g1 : TG) (tt1 : TT) (te : TE) (vs1 : List Nat) (D : Addr) (Nx : Hp → Prop) (σ2 : L2.St) (H4 : Hp) : Prop := ∃ W1 : Nat → Nat → Hp → Prop, (∃ m, W1 0 m H4) ∧ ∀ j k H, W1 j k H →
      (J1.stop j H ∧ Nx H) ∨ (J1.go j H ∧ ∃ Nx1 : Hp → Prop, (∀ H', Nx1 H' → ∃ k', k' < k ∧ W1 (j + 1) k' H') ∧ ∀ x H', J1.yld j H x H' → g1 x (wipe σ2 vs1) H' fun σ3 H5 => wipe σ3 vs1 = wipe σ2 vs1 ∧ tt1 σ3 H5 fun b H6 =>
        if b = true then te σ3 H6 fun y H7 => ∃ acc, H7 D = some (.lst acc) ∧ acc.length < sizeLine ∧ Nx1 (upd H7 D (.lst (acc ++ [y]))) else Nx1 H6)
def Lc2P (J : It) (g : TG) (tt : TT) (wi1 : TI) (g1 : TG) (tt1 : TT) (te : TE) (vs vs1 : List Nat) (σ : L2.St) (Q : VK) (H1 : Hp) : Prop := ∀ D, H1 D = none → ∃ W : Nat → Nat → Hp → Prop, (∃ m, W 0 m (upd H1 D (.lst []))) ∧ ∀ i m H, W i m H →
  (J.stop i H ∧ Q (.ref D) H) ∨ (J.go i H ∧ ∃ Nx : Hp → Prop, (∀ H', Nx H' → ∃ m', m' < m ∧ W (i + 1) m' H') ∧ ∀ x H', J.yld i H x H' → g x (wipe σ vs) H' fun σ2 H2 => wipe σ2 vs = wipe σ vs ∧ tt σ2 H2 fun b H3 =>
    if b = true then wi1 σ2 H3 fun J1 H4 => Lc2In J1 g1 tt1 te vs1 D Nx σ2 H4 else Nx H3)
theorem lc2 {wi wi1 : TI} {g g1 : TG} {tt tt1 : TT} {vs vs1 : List Nat} (q : wi σ H fun J H1 => Lc2P J g tt wi1 g1 tt1 te vs vs1 σ Q H1) : tLc2 wi g tt wi1 g1 tt1 te vs vs1 σ H Q := q
/-- what is made after i whole turns of the outer walk -/
def made (m : Nat) (f : Nat → Nat → V) (i : Nat) : List V := (List.range i).flatMap fun i => (List.range m).map (f i)
theorem made_len (m : Nat) (f : Nat → Nat → V) : ∀ i, (made m f i).length = i * m
  | 0 => by simp [made]
  | i + 1 => by
    have := made_len m f i
    unfold made at *
    rw [List.range_succ, List.flatMap_append, List.length_append, this, Nat.succ_mul]; simp
theorem made_succ (m : Nat) (f : Nat → Nat → V) (i : Nat) : made m f (i + 1) = made m f i ++ (List.range m).map (f i) := by
  unfold made
  rw [List.range_succ, List.flatMap_append]; simp
theorem lc2O {J : It} {n : Nat} {wi1 : TI} {g g1 : TG} {tt tt1 : TT} {vs vs1 : List Nat} {G : Hp → Prop} {Y : Nat → Hp → V → Hp → Prop} (w : Walk J n G Y) (Pv : Addr → Nat → Hp → Prop) (h0 : ∀ D, H D = none → Pv D 0 (upd H D (.lst []))) (hG : ∀ D i H', i ≤ n → Pv D i H' → G H')
    (hs : ∀ D i x H1 H', i < n → Pv D i H1 → Y i H1 x H' → g x (wipe σ vs) H' fun σ2 H2 => WP (wipe σ2 vs = wipe σ vs) (tt σ2 H2 fun b H3 => IfP b (wi1 σ2 H3 fun J1 H4 => Lc2In J1 g1 tt1 te vs1 D (Pv D (i + 1)) σ2 H4) (Pv D (i + 1) H3)))
    (hd : ∀ D H', H D = none → Pv D n H' → Q (.ref D) H') : Lc2P J g tt wi1 g1 tt1 te vs vs1 σ Q H := fun D hD => by
  refine ⟨fun i m H => m = n - i ∧ i ≤ n ∧ Pv D i H, ⟨n, by simp, Nat.zero_le _, h0 D hD⟩, ?_⟩
  rintro i m H' ⟨rfl, hi, p⟩
  have q := hG D i H' hi p
  by_cases hlt : i < n
  · refine .inr ⟨w.goes i H' hlt q, Pv D (i + 1), fun H' p' => ⟨n - (i + 1), by omega, rfl, hlt, p'⟩, fun x H2 y => hs D i x H' H2 hlt p (w.yields i H' x H2 hlt q y)⟩
  · have e : i = n := by omega
    subst e
    exact .inl ⟨w.stops H' q, hd D H' hD p⟩
theorem lc2I {J1 : It} {n : Nat} {g1 : TG} {tt1 : TT} {vs1 : List Nat} {D : Addr} {Nx : Hp → Prop} {G : Hp → Prop} {Y : Nat → Hp → V → Hp → Prop} (w : Walk J1 n G Y) (Pv : Nat → Hp → Prop) (h0 : Pv 0 H) (hG : ∀ i H', i ≤ n → Pv i H' → G H')
    (hs : ∀ i x H1 H', i < n → Pv i H1 → Y i H1 x H' → g1 x (wipe σ vs1) H' fun σ3 H5 => WP (wipe σ3 vs1 = wipe σ vs1) (tt1 σ3 H5 fun b H6 => IfP b (te σ3 H6 fun y H7 => ∃ acc, H7 D = some (.lst acc) ∧ acc.length < sizeLine ∧ Pv (i + 1) (upd H7 D (.lst (acc ++ [y])))) (Pv (i + 1) H6)))
    (hd : ∀ H', Pv n H' → Nx H') : Lc2In J1 g1 tt1 te vs1 D Nx σ H := by
  refine ⟨fun i m H => m = n - i ∧ i ≤ n ∧ Pv i H, ⟨n, by simp, Nat.zero_le _, h0⟩, ?_⟩
  rintro i m H' ⟨rfl, hi, p⟩
  have q := hG i H' hi p
  by_cases hlt : i < n
  · refine .inr ⟨w.goes i H' hlt q, Pv (i + 1), fun H' p' => ⟨n - (i + 1), by omega, rfl, hlt, p'⟩, fun x H2 y => hs i x H' H2 hlt p (w.yields i H' x H2 hlt q y)⟩
  · have e : i = n := by omega
    subst e
    exact .inl ⟨w.stops H' q, hd H' p⟩
theorem slL {a : Addr} {xs : List V} {lo hi : Option Int} (h : SqL K H a xs) (q : ∀ p, H p = none → Q (.ref p) (upd H p (.lst (cutV xs lo hi)))) : rSlL K (.ref a) lo hi H Q := ⟨a, xs, rfl, h, q⟩
theorem up_seq {p l : Addr} {xs : List V} {o : HO} (h : SqL K H p xs) (hl : H l = none) : SqL K (upd H l o) p xs := (same_new hl).seq h
end
section
variable {X : Cx}
theorem o_rep : OpR X (binaryOp .Mult) rRepN := op_rep
theorem pget_list : PGet X (rGetN X.K) := by
  intro pins s σ H o i ov iv Q I ro ri h
  obtain ⟨p, xs, k, v, rfl, rfl, hq, hk, hx, q⟩ := h
  cases ro
  obtain ⟨t, rfl⟩ := ri
  obtain ⟨its, r, pl, hz⟩ := I.list hq
  obtain ⟨w, ew, rw'⟩ := r.get hx
  exact wpAny_getItem_list pl.isList (by omega) (by omega) (by rw [Int.toNat_natCast]; simpa using ew) ⟨v, H, I, rw', q⟩
theorem o_addS : OpR X (binaryOp .Add) rCatS := op_add_str
theorem o_ltS : OpR X (compareOp .Lt) rLtS := op_lt_str
theorem c_intS : CallR X (.type "int") rIntS := call_int_str
theorem c_min2 (hc : X.calm = true) : CallR X (.builtin "min") rMin2 := call_min2 hc
theorem c_max2 (hc : X.calm = true) : CallR X (.builtin "max") rMax2 := call_max2 hc
theorem c_divmod : CallR X (.builtin "divmod") rDivmod := call_divmod
theorem c_list : CallR X (.type "list") (rList X.K) := call_list_of
theorem c_listK {K : PySem.W.Frag} (h : X.K = K) : CallR X (.type "list") (rList K) := by subst h; exact call_list_of
theorem c_isiK {K : PySem.W.Frag} (h : X.K = K) : CallR X (.builtin "isinstance") (rIsi K) := by subst h; exact call_isi
theorem c_lenK {K : PySem.W.Frag} (h : X.K = K) : CallR X (.builtin "len") (rLen K) := by subst h; exact call_len
theorem ix_seqK {K : PySem.W.Frag} (h : X.K = K) : IxR X (rIx K) := by subst h; exact ix_seq
theorem sl_listK {K : PySem.W.Frag} (h : X.K = K) : SlR X (rSlL K) := by subst h; exact sl_list
theorem pe_fldK {K : PySem.W.Frag} {e : Expr} {ta : TE} {f : Str} {pos : Pos} (h : X.K = K) (he : PE X e ta) (hb : attributeBase e f X.env (eval e X.env) = eval e X.env) : PE X (.Attribute e f pos) (tFld K ta f) := by subst h; exact pe_fld he hb
theorem c_int : CallR X (.type "int") rInt1 := call_int1
theorem c_abs : CallR X (.builtin "abs") rAbs := call_abs
theorem c_strI : CallR X (.type "str") rStrI := call_str_int
theorem c_len : CallR X (.builtin "len") (rLen X.K) := call_len
end
end Gx
local macro_rules | `(tactic| walk_at "few") => `(tactic| (refine Nat.lt_of_le_of_lt (m := 30) ?_ (by decide); repeat (first | exact Nat.zero_le _ | refine Gx.few ?_)))
local macro_rules | `(tactic| walk_at "side") => `(tactic| ((try dsimp only [L2.CMul, L2.CDiv, L2.CPow, L2.CDivN]); first | omega | decide | assumption))
local macro_rules | `(tactic| walk_at "go1") => `(tactic| (first
  | with_reducible refine Gx.seq ?_
  | with_reducible refine Gx.asg ?_
  | with_reducible refine Gx.op ?_
  | ((with_reducible refine' Gx.var ?h0 ?_); (case h0 => rfl))
  | with_reducible refine Gx.cst ?_
  | with_reducible refine Gx.i0 ?_
  | with_reducible refine Gx.name ?_
  | with_reducible refine Gx.cons ?_
  | with_reducible refine Gx.nil ?_
  | with_reducible refine Gx.call ?_
  | with_reducible refine Gx.cb ?_
  | with_reducible refine Gx.int1 ?_
  | with_reducible refine Gx.intB ?_
  | with_reducible refine Gx.abs1 ?_
  | with_reducible refine Gx.un ?_
  | with_reducible refine Gx.uu ?_
  | with_reducible refine Gx.ifs ?_
  | with_reducible refine Gx.ifx ?_
  | with_reducible refine Gx.test ?_
  | with_reducible refine Gx.tB ?_
  | with_reducible refine Gx.tb_go ?_
  | with_reducible refine Gx.bv_go ?_
  | with_reducible refine Gx.and_ ?_
  | with_reducible refine Gx.or_ ?_
  | with_reducible refine Gx.not_ ?_
  | with_reducible refine Gx.andV ?_
  | with_reducible refine Gx.m1 ?_
  | with_reducible refine Gx.m1s ?_
  | with_reducible refine Gx.orW ?_
  | with_reducible refine Gx.andW ?_
  | with_reducible refine Gx.orV ?_
  | with_reducible refine Gx.notV ?_
  | with_reducible refine Gx.eqvI ?_
  | with_reducible refine Gx.nevI ?_
  | with_reducible refine Gx.eqvS ?_
  | with_reducible refine Gx.eqvB ?_
  | with_reducible refine Gx.ltS ?_
  | with_reducible refine Gx.nevS ?_
  | with_reducible refine Gx.ret ?_
  | with_reducible refine Gx.retN ?_
  | with_reducible refine Gx.drop ?_
  | with_reducible refine Gx.next ?_
  | with_reducible refine Gx.brk ?_
  | with_reducible refine Gx.cnt ?_
  | with_reducible refine Gx.if_t ?_
  | with_reducible refine Gx.if_f ?_
  | with_reducible refine Gx.if_nt ?_
  | with_reducible refine Gx.whI_t ?_
  | with_reducible refine Gx.whI_f ?_
  | with_reducible refine Gx.if_nf ?_
  | with_reducible refine Gx.for_ ?_
  | with_reducible refine Gx.rng1 ?_
  | with_reducible refine Gx.rng2 ?_
  | with_reducible refine Gx.rng3 ?_
  | with_reducible refine Gx.lwk ?_
  | with_reducible refine Gx.twk ?_
  | with_reducible refine Gx.lst ?_
  | with_reducible refine Gx.tup ?_
  | with_reducible refine Gx.bm ?_
  | with_reducible refine Gx.lc ?_
  | with_reducible refine Gx.lc2 ?_
  | with_reducible refine Gx.gcons ?_
  | with_reducible refine Gx.gnil ?_
  | with_reducible refine Gx.strw ?_
  | with_reducible refine Gx.strp ?_
  | with_reducible refine Gx.fld ?_
  | with_reducible refine Gx.sfld ?_
  | with_reducible refine Gx.meth ?_
  | with_reducible refine Gx.make ?_
  | with_reducible refine Gx.augS ?_
  | with_reducible refine Gx.sub ?_
  | with_reducible refine Gx.slc ?_
  | with_reducible refine Gx.noP ?_
  | with_reducible refine Gx.part ?_
  | with_reducible refine Gx.ptp ?_
  | with_reducible refine Gx.sbp ?_
  | ((with_reducible refine' Gx.wp ?h0 ?_); (case h0 => rfl))
  | with_reducible refine Gx.yes ?_
  | with_reducible refine Gx.rrv ?_
  | with_reducible refine Gx.rg1 ?_
  | with_reducible refine Gx.rg1p ?_
  | ((with_reducible refine' Gx.aug ?h0 ?_); (case h0 => rfl))
  | with_reducible refine Gx.augI ?_))
local macro_rules | `(tactic| walk_at "go") => `(tactic| repeat walk_at "go1")

/-! An own exception whose __init__ begins with super().__init__(e), its base chain ending at ValueError: the promise of that __init__. -/
namespace Sx
open PySem PySem.W PySem.Calls PyProof.Rows L2

/-- what the written part says of the class at C and of its __init__ at f -/
structure SupK (P : Program) (K : Frag) (mg : Str → Option Value) (C f : Addr) (fd : FuncData) (qual : Str) (st : Stmt) : Prop where
  ex : ∃ (oc : Value) (od : Option Addr) (kV doc pm ct : Value) (an : Option Addr) (cda cc : Addr) (osl : Array (Option Value)),
    fd = ksFn "__init__" qual (defArgs st) (defBody st) (defScope st) .none kV doc pm an (.ref cda) ct cc ∧ K.lookup f = some ⟨oc, od, .func fd, osl⟩ ∧ codeIn K (.ref cda) qual = true ∧
    (∃ (ccl : Value) (cdd : Option Addr) (vs : Array Value) (ccs : Array (Option Value)) (file : Str) (tf : Tok), K.lookup cda = some ⟨ccl, cdd, .fields vs, ccs⟩ ∧ vs[2]? = some (.str file tf) ∧ ((P.main.file : Str) == file) = true) ∧
    (∃ (cl : Value) (cld : Option Addr) (csl : Array (Option Value)), K.lookup cc = some ⟨cl, cld, .cell (some (.ref C)), csl⟩)
  top : (P.main.scope.names.lookup ("super" : Str)).isSome = false
  ns : mg "super" = none
  sub : mroIn K C (.ref C) = some true
  opq : nsIn K cStatics "thirdparty.any" = some none
  sup : ks_superIn K C C "__init__" = some (some (.builtin "ValueError.__init__"))
  isV : subIn K (.ref C) (.type "ValueError") = some true

/-- the scope of such an __init__ -/
structure SupScope (N P : List Str) (sc : Scope) : Prop where
  kind : sc.kind = .function
  co : sc.isCoroutine = false
  gen : sc.isGenerator = false
  nd : N.Nodup
  pre : N.take P.length = P
  par : ∀ x ∈ P, sc.names.lookup x = some .local
  nocell : ∀ y ∈ sc.names, y.2 ≠ .cell
  free : ∀ y ∈ sc.names, y.2 = .free → y.1 = "__class__"
  ks : sc.names.lookup ("super" : Str) = some .globalImplicit
  kc : sc.names.lookup ("__class__" : Str) = some .free

def cxS (P : Program) (w : World) (K : Frag) (mg : Str → Option Value) (base : Heap) (N : List Str) (qual : Str) (scope : Scope) (f cda cc : Addr) (A : Around) (outer : List Env) (s : Shared) (H : Hp) : Cx where
  prog := P
  w := w
  K := K
  mg := mg
  base := base
  A := A.deeper (ksEnv qual scope s.heap.objs.size f (.ref cda) cc)
  N := N
  s_0 := s
  H_0 := H
  env := ksEnv qual scope s.heap.objs.size f (.ref cda) cc
  outer := outer
  stack := ksEnv qual scope s.heap.objs.size f (.ref cda) cc :: outer
  ex := []
  calm := true
  fn := fun _ => false
  pn := []
  xe := fun _ _ => False

theorem start_at {N : List Str} {vs : List V} {i : Nat} {v : V} (h : (L2.start N vs)[i]? = some (some v)) : vs[i]? = some v := by
  rcases Nat.lt_or_ge i vs.length with q | q
  · simpa [L2.start, List.getElem?_append, q] using h
  · simp [L2.start, List.getElem?_append, Nat.not_lt.mpr q, List.getElem?_replicate] at h
theorem inv_sup {P : Program} {w : World} {K : Frag} {mg : Str → Option Value} {base : Heap} {N ps : List Str} {qual : Str} {scope : Scope} {f cda cc C : Addr} {A : Around} {outer : List Env} {s : Shared} {H : Hp} {us : List Value} {vs : List V} {cl : Value} {cld : Option Addr} {csl : Array (Option Value)} {h1 : Heap} {t : Nat}
    (S : SupScope N ps scope) (hd : A.handled = none) (e0 : Env0 P w K mg base A outer s H) (hl : vs.length = ps.length) (r : Vals vs us) (hcc : K.lookup cc = some ⟨cl, cld, .cell (some (.ref C)), csl⟩)
    (hn : h1.Ns s.heap.objs.size (fun x => (ps.zip us).reverse.lookup x)) (hk : ∀ b o, s.heap.get? b = some o → h1.get? b = some o) :
    Inv (cxS P w K mg base N qual scope f cda cc A outer s H) [] (L2.start N vs) H { s with heap := h1, toks := t } := by
  have hpl : ps.length ≤ N.length := by have := congrArg List.length S.pre; rw [List.length_take] at this; omega
  have noA : ∀ b : Addr, b ∉ (cxS P w K mg base N qual scope f cda cc A outer s H).ex := fun b z => absurd (show b ∈ ([] : List Addr) from z) (by simp)
  have bcc : base.get? cc = some ⟨cl, cld, .cell (some (.ref C)), csl⟩ := e0.mod.kin _ _ hcc
  have one : ∀ {x : Str} {c : Addr}, ([(("__class__" : Str), cc)] : List (Str × Addr)).lookup x = some c → x = "__class__" ∧ c = cc := fun {x c} e => by
    by_cases hx : x = ("__class__" : Str)
    · subst hx
      simp [List.lookup] at e
      exact ⟨rfl, e.symm⟩
    · have hb : (x == ("__class__" : Str)) = false := beq_eq_false_iff_ne.mpr hx
      simp [List.lookup, hb] at e
  refine ⟨⟨e0.mod, S.kind, rfl, rfl, Nat.le_refl _, fun y z c h1 h2 => ?_, fun y hy => ?_, fun y c h _ => (Bool.noConfusion h), fun _ => hd, Around.frames_deeper e0.frames, .inr ⟨rfl, rfl⟩, fun b z => absurd z (noA b), e0.bs, e0.bsz, fun b _ _ => noA b, fun b z => absurd z (noA b), e0.funs, e0.frf⟩,
    rfl, e0.bare, Un.kept hk, ⟨_, hn, fun i y v h1 h2 h3 => ?_⟩, fun y c h => ⟨some (.ref C), ?_⟩, e0.hok.fresh (Nat.le_refl _), fun y c h => ?_, fun p hp => absurd (show p ∈ ([] : List (Addr × Obj)) from hp) (by simp), e0.hok.kept hk, ?_⟩
  · exact (one h1).1.trans (one h2).1.symm
  · have hy : scope.names.lookup y = some .cell ∨ scope.names.lookup y = some .free := hy
    rcases hy with hy | hy
    · exact absurd rfl (S.nocell _ (PySem.mem_of_lookup hy))
    · have := S.free _ (PySem.mem_of_lookup hy) rfl
      dsimp only at this
      subst this
      exact ⟨cc, rfl⟩
  · have ha := start_at h2
    have hi : i < vs.length := (List.getElem?_eq_some_iff.mp ha).1
    obtain ⟨u, hu, rv⟩ := r.get ha
    have hp : ps[i]? = some y := by
      rw [← S.pre, List.getElem?_take_of_lt (by omega)]; exact h1
    have ndP : ps.Nodup := by rw [← S.pre]; exact S.nd.sublist (List.take_sublist _ _)
    refine ⟨u, rv, .inl ⟨S.par y (List.mem_of_getElem? hp), ?_⟩⟩
    have hul : us.length = ps.length := by rw [← r.length]; exact hl
    show (ps.zip us).reverse.lookup y = some u
    have mem : (y, u) ∈ (ps.zip us).reverse := List.mem_reverse.mpr (List.mem_of_getElem? (i := i) (by rw [List.getElem?_zip_eq_some]; exact ⟨hp, hu⟩))
    have keys : ∀ v', (y, v') ∈ (ps.zip us).reverse → v' = u := fun v' hm => by
      rw [List.mem_reverse, List.mem_iff_getElem?] at hm
      obtain ⟨j, hj⟩ := hm
      rw [List.getElem?_zip_eq_some] at hj
      have hij : j = i := by
        have hjl : j < ps.length := (List.getElem?_eq_some_iff.mp hj.1).1
        have hil : i < ps.length := (List.getElem?_eq_some_iff.mp hp).1
        exact (List.getElem?_inj hjl ndP).mp (hj.1.trans hp.symm)
      rw [hij, hu] at hj
      exact (Option.some.inj hj.2).symm
    cases hlk : (ps.zip us).reverse.lookup y with
    | none =>
      exfalso
      have := List.lookup_eq_none_iff.mp hlk _ mem
      simp at this
    | some v' => rw [keys v' (PySem.mem_of_lookup hlk)]
  · obtain ⟨rfl, rfl⟩ := one h
    exact ⟨_, hk _ _ (e0.bs _ _ bcc).1, rfl⟩
  · obtain ⟨rfl, rfl⟩ := one h
    exact (e0.bs _ _ bcc).2
  · show (vs.map some ++ List.replicate (N.length - vs.length) none).length = N.length
    rw [List.length_append, List.length_map, List.length_replicate]; omega

theorem ex_O {C t : Addr} : excObj C t none .none = ({ cls := .ref C, dict := none, data := .fields #[.ref t, .none, .none, .none, .bool false, .none] } : Obj) := rfl

/-- the method-wrapper called: the args are laid anew, nothing of it is told -/
theorem sup_call {X : Cx} {pins : List (Addr × Obj)} {σ : L2.St} {H : Hp} {s : Shared} {a u C : Addr} {us : List Value} {Q : Value → Shared → Prop} {A : Around} {E : Value → Shared → Prop} (T : OexC X.K C) (I : Inv X pins σ H s) (e : H a = some (exo a C none)) (hu : s.heap.get? u = some (kxs_mw "ValueError.__init__" a)) (hl : us.length ≤ sizeLine)
    (h : ∀ s', Inv X pins σ H s' → Q .none s') : wpAny (model X.prog X.w) A (call (.ref u) us) Q E s := by
  obtain ⟨nm, q, N, bs, bm, sn, sub, ab, col, dd, k0, k1, k2, k3, k5, hC, hbm⟩ := T.cls
  obtain ⟨t1, ho⟩ := exo_at I.hok e
  have hCh := I.kIn _ _ hC
  obtain ⟨hp, g, d, t, os⟩ := s
  have fin : ∀ h', (∀ b o, b ≠ a → hp.get? b = some o → h'.get? b = some o) → h'.get? a = some (excObj C hp.objs.size none .none) → h'.get? hp.objs.size = some (excTup us) → Q .none ⟨h', g, d, t, os⟩ := fun h' k hx _ => by
    have J := I.write (t' := t) (x := a) (e := a) (o := exo a C none) (by rw [e]; exact True.intro) (.inl rfl) k ⟨_, hx⟩ (exo_ok hx)
    have eu : upd H a (exo a C none) = H := by
      funext b
      by_cases hb : b = a
      · rw [hb, upd_same, e]
      · rw [upd_ne hb]
    rw [eu] at J
    exact h _ J
  refine wpAny_call (codeAny_of_tree ?_)
  show wpAny _ A.in1 (callAny (.ref u) ⟨us, []⟩) _ _ _
  simp only [callAny]
  refine wpAny_bind (wpAny_load hu ?_)
  simp only [kxs_mw, show (Value.type "method-wrapper" == Value.type "method" || Value.type "method-wrapper" == Value.type "builtin_function_or_method" || Value.type "method-wrapper" == Value.type "method-wrapper") = true by decide, if_true]
  refine KFB.if_so (by decide) ?_
  refine wpAny_bind (check_bound_init F.excBase_ValueError.toExcCallFacts hCh ho rfl ?_)
  refine wpAny_bind (wpAny_pure (wpAny_pure ?_))
  refine ⟨plainId_quiet F.excBase_ValueError.init.plain _, codeAny_builtin F.excBase_ValueError.initEntry ?_⟩
  exact exc_init_tree (cls := .ref C) (t0 := t1) (dv := none) (c2 := .none) (c3 := .none) (b4 := .bool false) ho hl fin

/-- super() in a body -/
theorem sup_base {P : Program} {w : World} {K : Frag} {mg : Str → Option Value} {base : Heap} {N : List Str} {qual : Str} {scope : Scope} {f cda cc C a : Addr} {A : Around} {outer : List Env} {s0 s : Shared} {H0 H : Hp} {pins : List (Addr × Obj)} {σ : L2.St} {fd : FuncData} {ar : Arg} {body : List Stmt} {p0 p1 : Pos} {attr : Str} {whole : Sem Value}
    {oc cl ccl : Value} {od cld cdd : Option Addr} {osl csl ccs : Array (Option Value)} {vs : Array Value} {file : Str} {tf : Tok} {Q : Value → Shared → Prop} {E : Value → Shared → Prop} {N0 ps : List Str}
    (S : SupScope N0 ps scope) (T : OexC K C) (I : Inv (cxS P w K mg base N qual scope f cda cc A outer s0 H0) pins σ H s) (e : H a = some (exo a C none)) (lkf : K.lookup f = some ⟨oc, od, .func fd, osl⟩) (hp : (fd.params.posonlyargs ++ fd.params.args).head? = some ar) (hlo : scope.names.lookup ar.arg = some .local)
    (hN : N[0]? = some ar.arg) (hσ : σ[0]? = some (some (.ref a)))
    (hcode : K.lookup cda = some ⟨ccl, cdd, .fields vs, ccs⟩) (hvs : vs[2]? = some (.str file tf)) (hfile : ((P.main.file : Str) == file) = true) (hcc : K.lookup cc = some ⟨cl, cld, .cell (some (.ref C)), csl⟩) (hsub : mroIn K C (.ref C) = some true) (hns : mg "super" = none)
    (htop : (P.main.scope.names.lookup ("super" : Str)).isSome = false) (hat : (attr == ("__class__" : Str)) = false)
    (h : ∀ so h', (∀ b o, s.heap.get? b = some o → h'.get? b = some o) → h'.get? so = some (ks_superObj C a C) → Q (.ref so) { s with heap := h' }) :
    PySem.wpAt (model P w) (A.deeper (ksEnv qual scope s0.heap.objs.size f (.ref cda) cc)) (.func body (ksEnv qual scope s0.heap.objs.size f (.ref cda) cc))
      (attributeBase (.Call (.Name "super" p0) [] [] p1) attr (ksEnv qual scope s0.heap.objs.size f (.ref cda) cc) whole) Q E s := by
  have KX : K.In s.heap := I.kIn
  obtain ⟨nm, q, NN, bs, bm, sn, sub, ab, col, dd, k0, k1, k2, k3, k5, hC, hbm⟩ := T.cls
  have hCh := KX _ _ hC
  obtain ⟨t1, ho⟩ := exo_at I.hok e
  obtain ⟨m, hm, hlook⟩ := I.loc
  obtain ⟨mb, b1, b2⟩ := I.ok.mod.blt
  have hv : m ar.arg = some (.ref a) := by
    obtain ⟨u, ru, lk⟩ := hlook 0 _ _ hN hσ (.inl hlo)
    obtain rfl : u = .ref a := ru
    rcases lk with ⟨_, z⟩ | ⟨z, _⟩
    · exact z
    · have z : scope.names.lookup ar.arg = some .cell ∨ scope.names.lookup ar.arg = some .free := z
      rw [hlo] at z
      rcases z with z | z <;> cases z
  have hglob : s.heap.Ns mainGlobals mg := I.ok.mod.glob.keeps I.bk
  have hblt : s.heap.Ns builtinsNs mb := b1.keeps I.bk
  obtain ⟨hh, g, d, t, os⟩ := s
  refine ks_wpAt_super_base (env := ksEnv qual scope s0.heap.objs.size f (.ref cda) cc) S.ks S.kc hat rfl (KX _ _ lkf) rfl hp rfl (KX _ _ hcode) rfl hvs hfile htop ?_
  refine ks_loadName_global S.kind S.ks (loadGlobal_builtin (env := ksEnv qual scope s0.heap.objs.size f (.ref cda) cc) hglob hns hblt ((b2 "super" (by decide)).trans (by first | rfl | kernel_rfl)) ⟨rfl, ?_⟩)
  refine wpAny_loadName_free S.kind S.kc rfl ⟨_, KX _ _ hcc, rfl⟩ ?_
  refine wpAny_loadName_local S.kind hlo hm hv ?_
  refine ks_wpAny_isType_cls hCh rfl ⟨rfl, ?_⟩
  refine ks_wpAny_call_super hCh rfl ho rfl (fun c e => by cases e) (looks_mroIn KX hsub) (fun h' e' k => ?_)
  exact h _ _ (fun b o x => k b o x) e'

/-- THE RULE for an __init__ that begins with super().__init__(e, ..) -/
theorem fn_sup {P : Program} {w : World} {K : Frag} {mg : Str → Option Value} {base : Heap} {k : Nat} {C f : Addr} {fd : FuncData} {qual : Str} {st : Stmt} {N ps : List Str} {sp : Sp} {e : Expr} {es : List Expr} {p0 p1 p2 p3 p4 : Pos} {rest : List Stmt} {ar : Arg}
    (T : OexC K C) (F : SupK P K mg C f fd qual st) (S : SupScope N ps (defScope st)) (len : ∀ vs H Q E, sp vs H Q E → vs.length = ps.length)
    (hbd : defBody st = .Expr (.Call (.Attribute (.Call (.Name "super" p0) [] [] p1) "__init__" p2) (e :: es) [] p3) p4 :: rest)
    (har : ((defArgs st).posonlyargs ++ (defArgs st).args).head? = some ar) (hlo : (defScope st).names.lookup ar.arg = some .local) (hN : N[0]? = some ar.arg)
    (he : ∀ env, starEach (e :: es) env = (false, eval e env) :: starEach es env) (hev : ∀ env, ∃ pl : Sem Bool, eval (.Call (.Attribute (.Call (.Name "super" p0) [] [] p1) "__init__" p2) (e :: es) [] p3) env = (do
      let ov ← attributeBase (.Call (.Name "super" p0) [] [] p1) "__init__" env (eval (.Call (.Name "super" p0) [] [] p1) env)
      standAt p2.atName
      let (f, first) ← holding [ov] (getMethod ov "__init__" pl)
      callWith p3 f first (backTo p3 (starEach (e :: es) env)) []))
    (hpl : ∀ env, (backTo p3 (starEach es env)).any (·.1) = false)
    (hbody : ∀ (cda cc : Addr) (A : Around) (outer : List Env) (s : Shared) (H : Hp) (vs : List V) (Q : VK) (E : XK), sp vs H Q E →
      ∃ ta t a ws, PA (cxS P w K mg base N qual (defScope st) f cda cc A outer s H) (e :: es) ta ∧ PSs (cxS P w K mg base N qual (defScope st) f cda cc A outer s H) rest t ∧ vs = .ref a :: ws ∧ H a = some (exo a C none) ∧
        ta (L2.start N vs) H fun us H1 => us.length ≤ 1000 ∧ H1 a = some (exo a C none) ∧ t { nx := fun _ H' => Q .non H', rt := Q } (L2.start N vs) H1) :
    FnOk P w K mg base CX0 (k + 1) f fd ps sp := by
  obtain ⟨oc, od, kV, doc, pm, ct, an, cda, cc, osl, rfl, lk, hcd, ⟨ccl, cdd, vsC, ccs, file, tf, lcode, hvs, hfile⟩, cl, cld, csl, lcell⟩ := F.ex
  refine ⟨len, fun A outer s H args us vs Q E hr e0 hb r hsp => ?_⟩
  have hl := len _ _ _ _ hsp
  have KX : K.In s.heap := e0.mod.kin.keeps fun b o e => (e0.bs b o e).1
  have lim : s.heap.NoLimit := e0.mod.nolimit.keeps fun b o e => (e0.bs b o e).1
  refine ks_codeAny_call_defAt (body := .Expr (.Call (.Attribute (.Call (.Name "super" p0) [] [] p1) "__init__" p2) (e :: es) [] p3) p4 :: rest) (binds := ps.zip us) hr.depth (KX _ _ lk) rfl lim (codeRec_of KX hcd) (by show FuncBody.stmts (defBody st) = _; rw [hbd]) hb S.nocell
    (fun y hy => S.par _ (List.of_mem_zip hy).1) (fun h₁ hns hk₁ => ?_) S.co S.gen S.kind
  have I := inv_sup (t := s.toks + (ps.zip us).length) (f := f) (cda := cda) (qual := qual) (w := w) S hr.hd e0 hl r lcell hns hk₁
  obtain ⟨ta, t, a, ws, hA, hS, rfl, ea, hta⟩ := hbody cda cc A outer s H vs Q E hsp
  have hσ : (L2.start N (.ref a :: ws))[0]? = some (some (.ref a)) := rfl
  obtain ⟨pl, hev⟩ := hev (ksEnv qual (defScope st) s.heap.objs.size f (.ref cda) cc)
  refine ks_wpAt_execs_cons (ks_wpAt_Expr_any (ks_wpAt_MethodCall ?_ hev) (hi := I.quiet))
  refine sup_base S T I ea lk har hlo hN hσ lcode hvs hfile lcell F.sub F.ns F.top (by decide) fun so h' k hso => ?_
  have I1 := I.kept (t' := s.toks + (ps.zip us).length) k
  have KX1 : K.In h' := I1.kIn
  obtain ⟨nm, q, NN, bs, bm, sn, sub, ab, col, dd, k0, k1, k2, k3, k5, hC, hbm⟩ := T.cls
  obtain ⟨t1, ho⟩ := exo_at I1.hok ea
  have hI : Looks (model P w) h' (isInstance (.ref a) (.type "ValueError")) true := (show InstAt h' a _ C none from ⟨ho, rfl, rfl, trivial⟩).type.andThen (looks_subIn KX1 F.isV)
  have hcl : clsIn K C = some { name := nm, bases := bs, mro := .ref C :: bm, ns := NN, qualname := q, hasDict := true, slotNames := sn, subclasses := sub, abstract := ab, collection := col, hasDel := false } := by unfold clsIn; rw [hC] <;> rfl
  have hsup := F.sup
  unfold ks_superIn at hsup
  rw [hcl, Option.bind_some] at hsup
  have hxC : a ≠ C := fun z => by
    have h1 := KX1 _ _ hC
    have h2 := ho
    rw [z] at h2
    rw [show h'.get? C = _ from h2] at h1
    cases h1
  refine kxs_getMethod kxs_ValueError hso (looks_opaque KX1 F.opq) (l₀ := .ref C :: bm) (fun A Q E s k q => wpAny_bind ((looks_clsIn KX1 hcl) A _ E s k (wpAny_pure q))) rfl KX1 hsup hI hxC (by decide) ?_
  have I2 := I1.kept (h' := h'.push (kxs_mw "ValueError.__init__" a)) (t' := s.toks + (ps.zip us).length + 1) fun b o e => Heap.get?_push_of_some _ e
  have hu : (h'.push (kxs_mw "ValueError.__init__" a)).get? h'.objs.size = some (kxs_mw "ValueError.__init__" a) := Heap.get?_push_at rfl rfl
  have hfr : H h'.objs.size = none := I1.hok.fresh (Nat.le_refl _)
  have I3 := I2.pins_of (pins' := [(h'.objs.size, kxs_mw "ValueError.__init__" a)]) fun p hp => by
    rcases List.mem_singleton.mp hp with rfl
    exact ⟨hu, hfr, fun z => absurd I1.lt (by rw [← show h'.objs.size = _ from z]; exact Nat.lt_irrefl _), I1.nofs (Nat.le_refl _), fun v z => by cases z⟩
  refine kxs_callWith (i := "ValueError.__init__") (x := a) ?_ ?_
  · rw [he]; exact (show (false || (backTo p3 (starEach es (ksEnv qual (defScope st) s.heap.objs.size f (.ref cda) cc))).any (·.1)) = false from by rw [Bool.false_or]; exact hpl _)
  rw [he]
  refine evalArgs_plain ?_
  have hAr := hA.run p3 _ _ _ _ _ I3 hta
  rw [he] at hAr
  refine wpAny_mono hAr (fun vs1 s1 h1 => ?_) (fun _ _ z => False.elim z)
  obtain ⟨xs, H1, J, rv, hle, ea1, hrest⟩ := h1
  have pu := J.pin (h'.objs.size, kxs_mw "ValueError.__init__" a) (List.mem_append_right _ (List.mem_singleton.mpr rfl))
  refine ⟨pu.1, ?_⟩
  refine sup_call (X := cxS P w K mg base N qual (defScope st) f cda cc A outer s H) T J ea1 pu.1 (show vs1.length ≤ sizeLine by rw [← show xs.length = vs1.length from Paired.length rv, sizeLine_eq]; omega) fun s2 J2 => ?_
  refine wpAt_of_any (wpAny_mono (hS.run _ _ _ _ _ J2 hrest) (fun fl s3 h3 => ?_) fun _ _ z => False.elim z)
  have fin : ∀ {σ' : L2.St} {H' : Hp} {v : V} {u : Value}, Inv (cxS P w K mg base N qual (defScope st) f cda cc A outer s H) [(h'.objs.size, kxs_mw "ValueError.__init__" a)] σ' H' s3 → RelV v u → Q v H' → CE outer P w H s Q u s3 :=
    fun {σ' H' v u} J rv q => ⟨v, H', J.os, J.bare, J.base, J.hok, rv, q⟩
  cases fl with
  | ret u =>
    obtain ⟨v, σ', H', J, rv, q⟩ := h3
    exact fin J rv q
  | next =>
    obtain ⟨σ', H', J, q⟩ := h3
    exact fin (v := V.non) (u := Value.none) J rfl q
  | brk =>
    obtain ⟨_, _, _, q⟩ := h3
    exact q.elim
  | cont =>
    obtain ⟨_, _, _, q⟩ := h3
    exact q.elim

/-! ### an own class E(Base) with def __init__(self, x): super().__init__(f"..") ; self.f = x -/
/-- what isinstance asks of the class -/
structure IsC (K : Frag) (C : Addr) : Prop where
  cl : (clsIn K C).isSome = true
  ga : findIn K (.ref C) "__getattribute__" = some (some (.builtin "BaseException.__getattribute__"))
  gg : findIn K (.ref C) "__getattr__" = some none
  bs : subIn K (.ref C) (.type "BaseException") = some true
  ca : findIn K (.ref C) "__class__" = some (some (.builtin "object.__class__"))
  sp : specialIn K (.builtin "object.__class__") "__get__" = some (some (.builtin "getset_descriptor.__get__"))
  tk : takesIn K (.builtin "object.__class__") = some true
  ob : mroIn K C (.type "object") = some true
structure ExcAt (P : Program) (K : Frag) (mg : Str → Option Value) (x q : Str) (st : Stmt) (ps : List Str) where
  C : Addr
  a : Addr
  d : FuncData
  g : mg x = some (.ref C)
  o : OexC K C
  s : SupK P K mg C a d q st
  i : findIn K (.ref C) "__init__" = some (some (.ref a))
  t : typeIn K (.ref a) = some (.type "function")
  b : Binds K d ps []
  xf : XfC K C
  is : IsC K C
  te : exmOne K (.ref C) (.ref C) = some true
/-- an own class without an __init__ -/
structure BareAt (K : Frag) (mg : Str → Option Value) (x : Str) where
  C : Addr
  g : mg x = some (.ref C)
  k : keepIn K (.ref C) = true
  x : excIn K C [.type "ValueError", .type "Exception", .type "BaseException", .type "object"] "ValueError.__new__" = true
  b : subIn K (.ref C) (.type "BaseException") = some true
  t : typeIn K (.ref C) = some (.type "type")
  te : exmOne K (.ref C) (.ref C) = some true
/-- such an __init__ with one text field -/
def sp1 (C : Addr) (f : Str) : Sp := fun vs H Q _ => ∃ (a : Addr) (z : Str), vs = [.ref a, .str z] ∧ z.length ≤ 1000 ∧ H a = some (exo a C none) ∧ ∀ dx, H dx = none → dx ≠ a → Q .non (upd (upd H dx (exd dx [(f, .str z)])) a (exo a C (some dx)))
theorem mkO {C : Addr} {f z : Str} {H : Hp} {Q : XK} (hz : z.length ≤ 1000) (q : ∀ d, H d = none → Q (.ref C) (some d) (upd H d (.xd [(f, .str z)]))) {σ : L2.St} {ta : TA} (hta : ∀ R : List V → Hp → Prop, R [.str z] H → ta σ H R) : tMkO C (sp1 C f) [] ta σ H Q := by
  refine hta _ ⟨by show 1 ≤ 1000; decide, fun a ha => ⟨a, z, rfl, hz, upd_same, fun dx hd hne => ⟨rfl, dx, [(f, .str z)], upd_same, ?_, ?_, ?_⟩⟩⟩
  · rw [upd_ne hne, upd_same]
  · rw [upd_ne hne] at hd; exact hd
  · rw [upd_ne hne] at hd
    have e : upd (L2.del (upd (upd (upd H a (exo a C none)) dx (exd dx [(f, .str z)])) a (exo a C (some dx))) a) dx (.xd [(f, .str z)]) = upd H dx (.xd [(f, .str z)]) := by
      funext b
      by_cases hb : b = dx
      · rw [hb, upd_same, upd_same]
      · rw [upd_ne hb, upd_ne hb]
        by_cases hba : b = a
        · rw [hba, L2.del_same, ha]
        · rw [L2.del_ne hba, upd_ne hba, upd_ne hb, upd_ne hba]
    rw [e]
    exact q dx hd
/-- isinstance(e, c) of the caught exception, its dict known -/
def rIsD (K : Frag) (D a : Addr) (cls : Value) (d : Option Addr) : List V → Hp → VK → Prop := fun xs H Q => ∃ (c : V) (cv : Value) (b : Bool) (dd : Addr) (fs : List (Str × V)), xs = [.ref a, c] ∧ cls = .ref D ∧ d = some dd ∧ H dd = some (.xd fs) ∧ (∀ u, RelV c u → u = cv) ∧ kitOne K (.ref D) cv = some b ∧ Q (.bl b) H
theorem call_isD {X : Cx} {a D : Addr} {oe : Obj} {cls : Value} {d : Option Addr} {pn : List (Addr × Obj)} (T : IsC X.K D) (hz : Zc cls d oe) (hf : ∃ vs, oe.data = .fields vs) : CallR (X.suite a ((a, oe) :: pn)) (.builtin "isinstance") (rIsD X.K D a cls d) := by
  intro pins s σ H xs us Q I r h
  obtain ⟨c, cv, b, dd, fs, rfl, rfl, rfl, hd, hcv, e, q⟩ := h
  cases r with
  | cons rx rr =>
    cases rr with
    | cons rt rr =>
      cases rr
      cases rx
      obtain rfl := hcv _ rt
      have pe := (I.pin (a, oe) (List.mem_append_left _ List.mem_cons_self)).1
      obtain ⟨vs, hv⟩ := hf
      have hx : ObjOk X.prog X.w H s.heap dd (.xd fs) := I.hok dd _ hd
      obtain ⟨mA, hns, _⟩ := hx
      obtain ⟨od, ho, _⟩ := lookIn_ns hns
      have J : InstAt s.heap a oe D (some od) := ⟨pe, hz.1, by unfold notCls; rw [hv] <;> rfl, by rw [hz.2]; exact ho⟩
      exact kia_one (kitx_exc T.cl T.ga T.gg T.bs T.ca T.sp T.tk T.ob) I.kIn J e (fun z => nomatch z) fun tk => ⟨.bl b, H, I.kept (t' := tk) fun _ _ z => z, rfl, q⟩

/-! ### calls whose wish about exceptions knows the caller's slots -/
section
variable {X : Cx} {CX : CXT} {k : Nat} {f C : Addr} {fd : FuncData} {ps : List Str} {sp : Sp} {E : L2.St → XK} {x m : Str} {p pos apos : Pos} {e o : Expr} {es : List Expr} {ta : TE} {t : TA}
def tMakeS (C : Addr) (sp : Sp) (E : L2.St → XK) (t : TA) : TE := fun σ H Q => t σ H fun vs H1 => ∀ x dx, H1 x = none → H1 dx = none → dx ≠ x → sp (.ref x :: vs) (upd (upd H1 dx (.own x)) x (.ins C dx [])) (fun v H2 => v = .non ∧ Q (.ref x) H2) (E σ)
theorem makeS_run {pins : List (Addr × Obj)} {σ : L2.St} {H : Hp} {s : Shared} {Q : VK} {us : List Value} {vs : List V} (M : Mk X.K C f) (F : FnOk X.prog X.w X.K X.mg X.base CX k f fd ps sp) (hr : Room (k + 1) X.A) (hb : Binds X.K fd ps []) (hx : PassesAt CX X σ (E σ)) (I : Inv X pins σ H s) (r : Vals vs us)
    (h : ∀ x dx, H x = none → H dx = none → dx ≠ x → sp (.ref x :: vs) (upd (upd H dx (.own x)) x (.ins C dx [])) (fun v H2 => v = .non ∧ Q (.ref x) H2) (E σ)) : wpAny (model X.prog X.w) X.A (call (.ref C) us) (EP X pins σ Q) X.xe s := by
  generalize hn : s.heap.objs.size = n
  have q0 := h (n + 1) n (I.hok.fresh (by omega)) (I.hok.fresh (by omega)) (by show ¬ (n : Nat) = n + 1; omega)
  subst hn
  have J := Inv.made (C := C) I
  have rv : Vals (V.ref (s.heap.objs.size + 1) :: vs) (Value.ref (s.heap.objs.size + 1) :: us) := .cons (show RelV (V.ref (s.heap.objs.size + 1)) (Value.ref (s.heap.objs.size + 1)) from rfl) r
  have hl := (Paired.length rv).symm.trans (F.len _ _ _ _ q0)
  have bd := hb _ (Value.ref (s.heap.objs.size + 1) :: us) J.kIn (by rw [List.append_nil]; exact hl)
  rw [List.append_nil] at bd
  refine wpAny_call (make_map (f := f) I.kIn M.makes M.init (beq_iff_eq.mp M.fn) ?_)
  refine codeAny_mono (F.run _ X.stack _ _ _ _ _ _ (E σ) (hr.make C us []) (J.env0.make C us []) bd rv q0) fun res s' hq => ?_
  match res, hq with
  | .error e, hq => exact hx pins _ _ e s' J hq
  | .ok (.ret u), hq =>
    obtain ⟨v, H', I3, rv, ev, q3⟩ := J.after hq
    subst ev
    exact ⟨rv, V.ref (s.heap.objs.size + 1), H', I3, rfl, q3⟩
  | .ok .next, hq => exact hq.elim
  | .ok .brk, hq => exact hq.elim
  | .ok .cont, hq => exact hq.elim
theorem pe_makeS (M : Mk X.K C f) (F : FnOk X.prog X.w X.K X.mg X.base CX k f fd ps sp) (hr : Room (k + 1) X.A) (hg : Gl X x) (hm : X.mg x = some (.ref C)) (hb : Binds X.K fd ps []) (hx : ∀ σ, PassesAt CX X σ (E σ)) (ha : PA X (e :: es) t)
    (hdb : (x == ("__debug__" : Str)) = false := by decide) (he : starEach (e :: es) X.env = (false, eval e X.env) :: starEach es X.env := by rfl) (hpl : (backTo pos (starEach es X.env)).any (·.1) = false := by rfl) : PE X (.Call (.Name x p) (e :: es) [] pos) (tMakeS C sp E t) :=
  ⟨fun pins s σ H Q I h => wpAny_Call_Name_kw (ld_glob I hg hm (callWith_K (h₀ := X.base) I.ok.mod.kin M.kp (thn (ha.run pos pins s σ H _ I h) fun us s1 ⟨vs, H1, I1, r, q⟩ => ⟨I1.kIn, makeS_run M F hr hb (hx σ) I1 r q⟩) he hpl) hdb)⟩
def tMethS (C : Addr) (m : Str) (sp : Sp) (E : L2.St → XK) (ta : TE) (t : TA) : TE := fun σ H Q => ta σ H fun x H1 => ∃ a dx fs, x = .ref a ∧ H1 a = some (.ins C dx fs) ∧ fs.lookup m = none ∧ t σ H1 fun vs H2 => sp (x :: vs) H2 Q (E σ)
theorem pe_methS {pl : Sem Bool} (he : PE X o ta) (c : Cls X.K C) (hm : Meth X.K C m f) (F : FnOk X.prog X.w X.K X.mg X.base CX k f fd ps sp) (hr : Room k X.A) (hb : Binds X.K fd ps []) (hx : ∀ σ, PassesAt CX X σ (E σ)) (ha : PA X (e :: es) t)
    (hst : starEach (e :: es) X.env = (false, eval e X.env) :: starEach es X.env := by rfl) (hpl : (backTo pos (starEach es X.env)).any (·.1) = false := by rfl)
    (ht : eval (.Call (.Attribute o m apos) (e :: es) [] pos) X.env = (eval o X.env >>= fun ov => standAt apos.atName >>= fun _ => holding [ov] (getMethod ov m pl) >>= fun z => callWith pos z.1 z.2 (backTo pos (starEach (e :: es) X.env)) (backToKw pos (keywordEach [] X.env))) := by rfl) :
    PE X (.Call (.Attribute o m apos) (e :: es) [] pos) (tMethS C m sp E ta t) := by
  refine ⟨fun pins s σ H Q I h => methodCall_KW (pl := pl) (thn (he.run pins s σ H _ I h) fun u s1 ⟨x, H1, I1, rx, a, dx, fs, ex, ea, l, q⟩ => ?_) ht⟩
  subst ex
  obtain rfl : u = Value.ref a := rx
  exact getmeth_ok I1 ea c hm l (callWith_K (first := [.ref a]) (h₀ := X.base) I.ok.mod.kin hm.kp (thn (ha.run pos pins s1 σ H1 _ I1 q) fun us s2 ⟨vs, H2, I2, r, q2⟩ => ⟨I2.kIn, run_fnS (us := .ref a :: us) (vs := .ref a :: vs) F hr hb (hx σ) I2 (.cons rfl r) q2⟩) hst hpl)
end
/-- an error with this name is raised, whatever was made before -/
def Err (C : Addr) (H : Hp) (z : Str) (E : XK) : Prop := ∀ (H' : Hp) (d : Addr), Same H H' → H' d = none → E (.ref C) (some d) (upd H' d (.xd [("name", .str z)]))
theorem Err.mono {C : Addr} {H H1 : Hp} {z : Str} {E : XK} (h : Err C H z E) (s : Same H H1) : Err C H1 z E := fun H' d s2 hd => h H' d (s.trans s2) hd
theorem Err.now {C : Addr} {H : Hp} {z : Str} {E : XK} (h : Err C H z E) : ∀ d, H d = none → E (.ref C) (some d) (upd H d (.xd [("name", .str z)])) := fun d hd => h H d (Same.refl H) hd
/-- the first number out of its bounds -/
def kindBad (w h d c : Int) : Option Str := if ¬ (1 ≤ w ∧ w ≤ 64) then some "width" else if ¬ (1 ≤ h ∧ h ≤ 64) then some "height" else if ¬ (1 ≤ d ∧ d ≤ 8) then some "depth" else if ¬ (c = 1 ∨ c = 3) then some "channels" else none
def frameBad (w h d c t : Int) : Option Str := match kindBad w h d c with
  | some z => some z
  | none => if ¬ (1 ≤ t ∧ t ≤ 16) then some "tile" else if w * h * c > 3072 then some "size" else none
theorem kindBad_none {w h d c : Int} : kindBad w h d c = none ↔ (1 ≤ w ∧ w ≤ 64) ∧ (1 ≤ h ∧ h ≤ 64) ∧ (1 ≤ d ∧ d ≤ 8) ∧ (c = 1 ∨ c = 3) := by
  unfold kindBad
  by_cases h1 : 1 ≤ w ∧ w ≤ 64 <;> by_cases h2 : 1 ≤ h ∧ h ≤ 64 <;> by_cases h3 : 1 ≤ d ∧ d ≤ 8 <;> by_cases h4 : c = 1 ∨ c = 3 <;> simp [h1, h2, h3, h4]
theorem frameBad_none {w h d c t : Int} : frameBad w h d c t = none ↔ (1 ≤ w ∧ w ≤ 64) ∧ (1 ≤ h ∧ h ≤ 64) ∧ (1 ≤ d ∧ d ≤ 8) ∧ (c = 1 ∨ c = 3) ∧ (1 ≤ t ∧ t ≤ 16) ∧ w * h * c ≤ 3072 := by
  unfold frameBad
  cases e : kindBad w h d c with
  | some z =>
    constructor
    · intro h; cases h
    · rintro ⟨a, b, c', d', _⟩
      rw [kindBad_none.mpr ⟨a, b, c', d'⟩] at e; cases e
  | none =>
    obtain ⟨a, b, c', d'⟩ := kindBad_none.mp e
    by_cases h5 : 1 ≤ t ∧ t ≤ 16 <;> by_cases h6 : w * h * c > 3072 <;> simp [a, b, c', d', h5, h6] <;> omega
theorem frameBad_ne {w h d c t : Int} {z : Str} (e : frameBad w h d c t = some z) : z ≠ "" ∧ z.length ≤ 100 := by
  have key : z = "width" ∨ z = "height" ∨ z = "depth" ∨ z = "channels" ∨ z = "tile" ∨ z = "size" := by
    unfold frameBad kindBad at e
    by_cases h1 : 1 ≤ w ∧ w ≤ 64 <;> by_cases h2 : 1 ≤ h ∧ h ≤ 64 <;> by_cases h3 : 1 ≤ d ∧ d ≤ 8 <;> by_cases h4 : c = 1 ∨ c = 3 <;> by_cases h5 : 1 ≤ t ∧ t ≤ 16 <;> by_cases h6 : w * h * c > 3072 <;> simp [h1, h2, h3, h4, h5, h6] at e <;> simp [← e]
  rcases key with e | e | e | e | e | e <;> subst e <;> exact ⟨by decide +kernel, by decide +kernel⟩
/-- the first part of a key, of a channel and a pixel, that is out of its bounds -/
def keyBad (c n d : Nat) (ch ti pl : Int) : Option Str := if ¬ (0 ≤ ch ∧ ch ≤ (c : Int) - 1) then some "channel" else if ¬ (0 ≤ ti ∧ ti ≤ (n : Int) - 1) then some "tile" else if ¬ (0 ≤ pl ∧ pl ≤ (d : Int) - 1) then some "plane" else none
def pixBad (c n : Nat) (ch px : Int) : Option Str := if ¬ (0 ≤ ch ∧ ch ≤ (c : Int) - 1) then some "channel" else if ¬ (0 ≤ px ∧ px ≤ (n : Int) - 1) then some "pixel" else none
theorem kit_self (K : Frag) (v : Value) : kitOne K v v = some true := by unfold kitOne; rw [if_pos (by simp)]
/-! ### steps of a reading -/
section
variable {K : Frag} {σ : L2.St} {H : Hp} {Q : VK} {D : Ends} {ta te : TE} {t : TA} {sp : Sp} {E : L2.St → XK} {C a : Addr} {m f : Str} {cls : Value} {d : Option Addr} {v : V}
def CS (sp : Sp) (vs : List V) (H : Hp) (Q : VK) (E : XK) : Prop := sp vs H Q E
theorem callS (q : t σ H fun vs H1 => CS sp vs H1 Q (E σ)) : tCallS sp E t σ H Q := q
def MkS (C : Addr) (sp : Sp) (vs : List V) (H : Hp) (Q : VK) (E : XK) : Prop := ∀ x dx, H x = none → H dx = none → dx ≠ x → CS sp (.ref x :: vs) (upd (upd H dx (.own x)) x (.ins C dx [])) (fun v H2 => v = .non ∧ Q (.ref x) H2) E
theorem makeS (q : t σ H fun vs H1 => MkS C sp vs H1 Q (E σ)) : tMakeS C sp E t σ H Q := q
def MtS (C : Addr) (m : Str) (sp : Sp) (E : L2.St → XK) (t : TA) (σ : L2.St) (x : V) (H : Hp) (Q : VK) : Prop := ∃ a dx fs, x = .ref a ∧ H a = some (.ins C dx fs) ∧ fs.lookup m = none ∧ t σ H fun vs H2 => sp (x :: vs) H2 Q (E σ)
theorem methS (q : ta σ H fun x H1 => MtS C m sp E t σ x H1 Q) : tMethS C m sp E ta t σ H Q := q
theorem mts {dx : Addr} {fs : List (Str × V)} (h : H a = some (.ins C dx fs)) (n : fs.lookup m = none) (q : t σ H fun vs H2 => CS sp (.ref a :: vs) H2 Q (E σ)) : MtS C m sp E t σ (.ref a) H Q := ⟨a, dx, fs, rfl, h, n, q⟩
def XfP (a : Addr) (cls : Value) (d : Option Addr) (C : Addr) (f : Str) (x : V) (H : Hp) (Q : VK) : Prop := x = .ref a ∧ cls = .ref C ∧ ∃ (dd : Addr) (fs : List (Str × V)) (v : V), d = some dd ∧ H dd = some (.xd fs) ∧ fs.lookup f = some v ∧ Q v H
theorem xf (q : te σ H fun x H1 => XfP a cls d C f x H1 Q) : tXf a cls d C f te σ H Q := q
theorem xfp {dd : Addr} (h : H dd = some (.xd [(f, v)])) (q : Q v H) : XfP a (.ref C) (some dd) C f (.ref a) H Q := ⟨rfl, rfl, dd, _, v, rfl, h, by simp [List.lookup], q⟩
theorem isD {dd : Addr} {fs : List (Str × V)} {D2 : V} {cv : Value} {b : Bool} (h : H dd = some (.xd fs)) (r : ∀ u, RelV D2 u → u = cv) (k : kitOne K (.ref C) cv = some b) (q : Q (.bl b) H) : rIsD K C a (.ref C) (some dd) [.ref a, D2] H Q := ⟨D2, cv, b, dd, fs, rfl, rfl, rfl, h, r, k, q⟩
theorem isR {dd c : Addr} {fs : List (Str × V)} {b : Bool} (h : H dd = some (.xd fs)) (k : kitOne K (.ref C) (.ref c) = some b) (q : Q (.bl b) H) : rIsD K C a (.ref C) (some dd) [.ref a, .ref c] H Q := isD h (fun u e => e) k q
theorem isT {dd : Addr} {n : String} {fs : List (Str × V)} {b : Bool} (h : H dd = some (.xd fs)) (k : kitOne K (.ref C) (.type n) = some b) (q : Q (.bl b) H) : rIsD K C a (.ref C) (some dd) [.ref a, .ty n] H Q := isD h (fun u e => e) k q
/-- the except clause takes it -/
theorem took {c : Value} {i : Nat} {ts : Addr → Value → Option Addr → TS} {Wout : WX} {H' : Hp} (h : exmOne K cls c = some true) (q : ∀ a, H' a = none → ts a cls d { nx := fun σ' H' => D.nx (σ'.set i none) H', rt := D.rt, bk := fun σ' H' => D.bk (σ'.set i none) H', ct := fun σ' H' => D.ct (σ'.set i none) H' } (σ.set i (some (.ref a))) H') : WE (wAs K c i ts Wout D) σ cls d H' :=
  ⟨true, h, fun _ => q, fun z => Bool.noConfusion z⟩
end
end Sx
local macro_rules | `(tactic| walk_at "go1") => `(tactic| (first
  | with_reducible refine Sx.callS ?_
  | with_reducible refine Sx.makeS ?_
  | with_reducible refine Sx.methS ?_
  | with_reducible refine Sx.xf ?_))

/-! The frame: a call sees a part R of what is tracked; the part S beside it stays as it is. -/
namespace Fx
open PySem L2
/-- what may stand beside: lists, dicts, sets, instances with their own dicts -/
def Fit (S : Hp) (a : Addr) : HO → Prop
  | .lst _ => True
  | .dK _ => True
  | .dT _ => True
  | .set _ _ => True
  | .own y => ∃ C fs, S y = some (.ins C a fs)
  | .ins _ dx _ => S dx = some (.own a)
  | _ => False
structure Own (R H S : Hp) : Prop where
  eq : ∀ a, H a = match S a with | some o => some o | none => R a
  dj : ∀ a o, S a = some o → R a = none
  ft : ∀ a o, S a = some o → Fit S a o
section
variable {R H S R' : Hp} {a b : Addr} {o u : HO}
theorem Own.at (O : Own R H S) (h : S a = some o) : H a = some o := by rw [O.eq, h]
theorem Own.off (O : Own R H S) (h : S a = none) : H a = R a := by rw [O.eq, h]
theorem Own.nos (O : Own R H S) (h : R a = some o) : S a = none := by
  cases e : S a with
  | none => rfl
  | some u => rw [O.dj a u e] at h; cases h
theorem Own.same (O : Own R H S) : Same R H := fun a o h => by rw [O.off (O.nos h)]; exact h
theorem Own.non (O : Own R H S) (h : H a = none) : R a = none ∧ S a = none := by
  have := O.eq a
  cases e : S a with
  | none => rw [e] at this; exact ⟨this.symm.trans h, rfl⟩
  | some u => rw [e] at this; rw [this] at h; cases h
theorem Own.tup {xs : List V} (O : Own R H S) (h : H a = some (.tup xs)) : R a = some (.tup xs) := by
  cases e : S a with
  | none => rw [← O.off e]; exact h
  | some u =>
    rw [O.at e] at h
    cases h
    exact (O.ft a _ e).elim
theorem Own.frz {ob : Obj} {w : HO} (O : Own R H S) (h : H a = some (.frz ob w)) : R a = some (.frz ob w) := by
  cases e : S a with
  | none => rw [← O.off e]; exact h
  | some u =>
    rw [O.at e] at h
    cases h
    exact (O.ft a _ e).elim
theorem Own.tbl {ps} (O : Own R H S) (h : H a = some (.tbl ps)) : R a = some (.tbl ps) := by
  cases e : S a with
  | none => rw [← O.off e]; exact h
  | some u =>
    rw [O.at e] at h
    cases h
    exact (O.ft a _ e).elim
def over (R S : Hp) : Hp := fun a => match S a with | some o => some o | none => R a
theorem over_own (dj : ∀ a o, S a = some o → R a = none) (ft : ∀ a o, S a = some o → Fit S a o) : Own R (over R S) S := ⟨fun _ => rfl, dj, ft⟩
theorem Own.eq_over (O : Own R H S) : H = over R S := funext O.eq
end
section
variable {P : Program} {w : World} {R H S R' : Hp} {h h' : Heap}
theorem down (O : Own R H S) (x : HOk P w H h) : HOk P w R h := fun a o e => by
  refine (x a o (O.same a o e)).stay (fun _ _ _ q => q) (fun b q => ?_) (fun _ _ q => O.tup q)
  cases es : S b with
  | none => rw [← O.off es]; exact q
  | some u =>
    have q2 := (O.at es).symm.trans q
    cases q2
    obtain ⟨C, fs, z⟩ := O.ft b _ es
    rw [O.dj a _ z] at e; cases e
theorem there {a : Addr} {o : HO} (x : ObjOk P w H h a o) (f : Fit S a o) : ∃ ob, h.get? a = some ob := by
  cases o with
  | lst xs => obtain ⟨z, its, n, r, q⟩ := x; exact ⟨_, q⟩
  | dK kvs => obtain ⟨z, y, vs, r, ob, es, ep, q, c⟩ := x; exact ⟨_, q⟩
  | set _ _ => obtain ⟨ob, es, ep, t, q, c⟩ := x; exact ⟨_, q⟩
  | dT kvs => obtain ⟨z, y, xs, r, ob, es, ep, q, c⟩ := x; exact ⟨_, q⟩
  | own y => exact x
  | ins C dx fs => obtain ⟨d, z, ne, q, r⟩ := x; exact ⟨_, q⟩
  | tup _ => exact f.elim
  | xd _ => exact f.elim
  | rng _ _ => exact f.elim
  | frz _ _ => exact f.elim
  | tbl _ => exact f.elim
  | met _ _ => exact f.elim
  | ext _ => exact f.elim
theorem stays (O : Own R H S) (O' : Own R' (over R' S) S) (kp : ∀ b u, h.get? b = some u → R b = none → S b ≠ none → h'.get? b = some u) (tp : ∀ b xs, R b = some (.tup xs) → R' b = some (.tup xs)) {a : Addr} {o : HO} (e : S a = some o) (x : ObjOk P w H h a o) : ObjOk P w (over R' S) h' a o := by
  have ka : ∀ u, h.get? a = some u → h'.get? a = some u := fun u q => kp a u q (O.dj a o e) (by rw [e]; exact fun z => nomatch z)
  have fit := O.ft a o e
  cases o with
  | lst xs => obtain ⟨z, its, n, r, q⟩ := x; exact ⟨z, its, n, r, ka _ q⟩
  | dK kvs => obtain ⟨z, y, vs, r, ob, es, ep, q, c⟩ := x; exact ⟨z, y, vs, r, ob, es, ep, ka _ q, c⟩
  | set _ _ => obtain ⟨ob, es, ep, t, q, c⟩ := x; exact ⟨ob, es, ep, t, ka _ q, c⟩
  | dT kvs =>
    obtain ⟨z, y, xs, r, ob, es, ep, q, c⟩ := x
    exact ⟨z, y, xs, Paired.mapP r fun p q z => ⟨z.1, O'.same _ _ (tp _ _ (O.tup z.2.1)), z.2.2⟩, ob, es, ep, ka _ q, c⟩
  | own y => obtain ⟨ob, q⟩ := x; exact ⟨ob, ka _ q⟩
  | ins C dx fs =>
    obtain ⟨d, z, ne, q, mA, ⟨od, es, ep, e2, c⟩, r⟩ := x
    have f : S dx = some (.own a) := fit
    exact ⟨O'.at f, z, ne, ka _ q, mA, ⟨od, es, ep, kp dx od e2 (O.dj dx _ f) (by rw [f]; exact fun z => nomatch z), c⟩, r⟩
  | tup _ => exact fit.elim
  | xd _ => exact fit.elim
  | rng _ _ => exact fit.elim
  | frz _ _ => exact fit.elim
  | tbl _ => exact fit.elim
  | met _ _ => exact fit.elim
  | ext _ => exact fit.elim
theorem up (O' : Own R' (over R' S) S) (x : HOk P w R' h') (st : ∀ a o, S a = some o → ObjOk P w (over R' S) h' a o) : HOk P w (over R' S) h' := fun a o e => by
  cases es : S a with
  | some u => rw [O'.at es] at e; cases e; exact st a _ es
  | none =>
    rw [O'.off es] at e
    exact (x a o e).stay (fun _ _ _ q => q) (fun b q => O'.same _ _ q) (fun b xs q => O'.same _ _ q)
end
def fr (sp : Sp) : Sp := fun vs H Q E => ∃ R S, Own R H S ∧ sp vs R (fun v R' => ∀ H', Own R' H' S → Q v H') (fun c d R' => ∀ H', Own R' H' S → E c d H')
section
variable {P : Program} {w : World} {K : PySem.W.Frag} {mg : Str → Option Value} {base : Heap} {k : Nat} {f : Addr} {fd : FuncData} {ps : List Str} {sp : Sp}
theorem env (O : Own R H S) {A : Around} {outer : List Env} {s : Shared} (e : Env0 P w K mg base A outer s H) : Env0 P w K mg base A outer s R :=
  ⟨e.frames, e.mod, fun b o q => ⟨(e.bs b o q).1, (O.non (e.bs b o q).2).1⟩, e.bsz, e.funs, fun b q => (O.non (e.frf b q)).1, down O e.hok, e.bare⟩
theorem nofs {O : Own R H S} {A : Around} {outer : List Env} {s : Shared} (e : Env0 P w K mg base A outer s H) {b : Addr} (h : S b ≠ none) : b ∉ frs outer := fun q => by
  have := (O.non (e.frf b q)).2
  exact h this
theorem ce {O : Own R H S} {A : Around} {outer : List Env} {s s' : Shared} {Q : VK} {u : Value} (e : Env0 P w K mg base A outer s H) (c : CE outer P w R s (fun v R' => ∀ H', Own R' H' S → Q v H') u s') : CE outer P w H s Q u s' := by
  obtain ⟨v, R', h1, h2, un, hok, rv, q⟩ := c
  have dj : ∀ a o, S a = some o → R' a = none := fun a o ea => by
    obtain ⟨ob, hob⟩ := there (e.hok a o (O.at ea)) (O.ft a o ea)
    exact un.free a ob hob (O.dj a o ea) (fun z => nomatch z)
  have O' := over_own dj O.ft
  refine ⟨v, over R' S, h1, h2, ⟨fun b o q n nf nx => un.keep b o q (O.non n).1 nf nx, fun b o q n nf nx => un.slot b o q (O.non n).1 nf nx, fun b o q n nx => ?_, un.there, fun b xs q => O'.same _ _ (un.tups b xs (O.tup q)), fun b o xs q => O'.same _ _ (un.frzs b o xs (O.frz q)), fun b ps q => ?_⟩, up O' hok fun a o ea => ?_, rv, q _ O'⟩
  · rw [O'.off (O.non n).2]; exact un.free b o q (O.non n).1 nx
  · obtain ⟨more, z⟩ := un.tbls b ps (O.tbl q)
    exact ⟨more, O'.same _ _ z⟩
  · exact stays O O' (fun b u q n nn => un.keep b u q n (nofs (O := O) e nn) (fun z => nomatch z)) un.tups ea (e.hok a o (O.at ea))
theorem cx {O : Own R H S} {A : Around} {outer : List Env} {s s' : Shared} {E : XK} {u : Value} (e : Env0 P w K mg base A outer s H) (c : L2.CX P w outer R s (fun c d R' => ∀ H', Own R' H' S → E c d H') u s') : L2.CX P w outer H s E u s' := by
  obtain ⟨a, B, R', cls, d, rfl, fl, hok, ub, na, h1, h2, q⟩ := c
  have kp : ∀ b o, s.heap.get? b = some o → R b = none → S b ≠ none → B.get? b = some o := fun b o q n nn => ub.keep b o q n (nofs (O := O) e nn)
  have thr : ∀ a o, S a = some o → ∃ ob, s.heap.get? a = some ob := fun a o ea => there (e.hok a o (O.at ea)) (O.ft a o ea)
  have dj : ∀ a o, S a = some o → R' a = none := fun a o ea => by
    obtain ⟨ob, hob⟩ := thr a o ea
    exact ub.free a ob hob (O.dj a o ea)
  have O' := over_own dj O.ft
  refine ⟨a, B, over R' S, cls, d, rfl, fl, up O' hok fun b o eb => ?_, ⟨fun b o q n nf => ub.keep b o q (O.non n).1 nf, ub.slot, fun b o q n => ?_, ub.there, fun b xs q => O'.same _ _ (ub.tups b xs (O.tup q)), fun b o xs q => O'.same _ _ (ub.frzs b o xs (O.frz q)), fun b ps q => ?_⟩, ?_, h1, h2, q _ O'⟩
  · exact stays O O' kp ub.tups eb (e.hok b o (O.at eb))
  · rw [O'.off (O.non n).2]; exact ub.free b o q (O.non n).1
  · obtain ⟨more, z⟩ := ub.tbls b ps (O.tbl q)
    exact ⟨more, O'.same _ _ z⟩
  · cases es : S a with
    | none => rw [O'.off es]; exact na
    | some o =>
      obtain ⟨ob, hob⟩ := thr a o es
      have := kp a ob hob (O.dj a o es) (by rw [es]; exact fun z => nomatch z)
      rw [fl.2.1] at this; cases this
theorem frame0 (F : FnOk P w K mg base CX0 k f fd ps sp) : FnOk P w K mg base CX0 k f fd ps (fr sp) := by
  refine ⟨fun vs H Q E ⟨R, S, O, h⟩ => F.len _ _ _ _ h, fun A outer s H args us vs Q E hr e bt rv ⟨R, S, O, h⟩ => ?_⟩
  refine codeAny_mono (F.run A outer s R args us vs _ _ hr (env O e) bt rv h) fun r s' c => ?_
  match r, c with
  | .ok (.ret u), c => exact ce (O := O) e c
  | .ok .next, c => exact c
  | .ok .brk, c => exact c
  | .ok .cont, c => exact c
  | .error er, c => exact c
theorem frameX (F : FnOk P w K mg base (L2.CX P w) k f fd ps sp) : FnOk P w K mg base (L2.CX P w) k f fd ps (fr sp) := by
  refine ⟨fun vs H Q E ⟨R, S, O, h⟩ => F.len _ _ _ _ h, fun A outer s H args us vs Q E hr e bt rv ⟨R, S, O, h⟩ => ?_⟩
  refine codeAny_mono (F.run A outer s R args us vs _ _ hr (env O e) bt rv h) fun r s' c => ?_
  match r, c with
  | .ok (.ret u), c => exact ce (O := O) e c
  | .ok .next, c => exact c
  | .ok .brk, c => exact c
  | .ok .cont, c => exact c
  | .error er, c => exact cx (O := O) e c
end
end Fx
/-! Steps with a part beside. -/
namespace Nx
open PySem L2 Fx
def e0 : Hp := fun _ => none
def one (b : Addr) (o : HO) : Hp := fun a => if a = b then some o else none
section
variable {K : PySem.W.Frag} {R H S R0 R1 R2 S1 S2 H1 H2 H3 : Hp} {a b p l : Addr} {o u : HO} {xs ys : List V} {σ : L2.St} {Q : VK} {E : XK} {sp : Sp} {vs dvs : List V} {v : V}
theorem one_at : one b o b = some o := if_pos rfl
theorem one_ne (h : a ≠ b) : one b o a = none := if_neg h
theorem one_some {x : HO} (h : one b o a = some x) : a = b ∧ x = o := by
  unfold one at h
  by_cases e : a = b
  · rw [if_pos e] at h; exact ⟨e, (Option.some.inj h).symm⟩
  · rw [if_neg e] at h; cases h
theorem own0 : Own H H e0 := ⟨fun _ => rfl, (fun a o e => nomatch e), fun a o e => nomatch e⟩
theorem own0_eq (O : Own R H e0) : H = R := funext fun a => by rw [O.eq]; rfl
theorem at1 (O : Own R H (one b o)) : H b = some o := O.at one_at
theorem no1 (O : Own R H (one b o)) : R b = none := O.dj b o one_at
theorem off1 (O : Own R H (one b o)) (h : a ≠ b) : H a = R a := O.off (one_ne h)
theorem mk1 (h : R b = none) (f : Fit (one b o) b o) (e : H b = some o) (k : ∀ a, a ≠ b → H a = R a) : Own R H (one b o) := ⟨fun a => by
    by_cases c : a = b
    · rw [c, one_at]; exact e
    · rw [one_ne c]; exact k a c, fun a x q => by obtain ⟨c, _⟩ := one_some q; rw [c]; exact h, fun a x q => by obtain ⟨c, d⟩ := one_some q; subst c; subst d; exact f⟩
theorem top1 (h : H p = none) : Own H (upd H p (.lst xs)) (one p (.lst xs)) := mk1 h trivial upd_same fun _ c => upd_ne c
theorem put1 (O : Own R H (one b (.lst xs))) : Own R (upd H b (.lst ys)) (one b (.lst ys)) := mk1 (no1 O) trivial upd_same fun _ c => (upd_ne c).trans (off1 O c)
/-- a new object is laid below -/
theorem new (O : Own R H S) (h : H p = none) : Own (upd R p o) (upd H p o) S := ⟨fun a => by
    by_cases c : a = p
    · rw [c, upd_same, (O.non h).2, upd_same]
    · rw [upd_ne c, O.eq, upd_ne c], (fun a x q => by
      by_cases c : a = p
      · rw [c, (O.non h).2] at q; cases q
      · rw [upd_ne c]; exact O.dj a x q), O.ft⟩
/-- two parts beside as one -/
theorem nest (O : Own R H S) (O2 : Own R2 R S2) : Own R2 H (over S2 S) := ⟨fun a => by
    unfold over
    cases e : S a with
    | some x => exact O.at e
    | none => rw [O.off e]; exact O2.eq a, fun a x q => by
      unfold over at q
      cases e : S a with
      | some y => exact (O2.non (O.dj a y e)).1
      | none => rw [e] at q; exact O2.dj a x q, fun a x q => by
      have up : ∀ b y, S2 b = some y → over S2 S b = some y := fun b y z => by
        unfold over; rw [O.nos (O2.at z)]; exact z
      have up2 : ∀ b y, S b = some y → over S2 S b = some y := fun b y z => by unfold over; rw [z]
      have key : Fit S a x ∨ Fit S2 a x := by
        unfold over at q
        cases e : S a with
        | some y => rw [e] at q; cases q; exact .inl (O.ft a _ e)
        | none => rw [e] at q; exact .inr (O2.ft a _ q)
      cases x with
      | ins C dx fs =>
        rcases key with z | z
        · exact up2 _ _ z
        · exact up _ _ z
      | own y =>
        rcases key with ⟨C, fs, z⟩ | ⟨C, fs, z⟩
        · exact ⟨C, fs, up2 _ _ z⟩
        · exact ⟨C, fs, up _ _ z⟩
      | _ => rcases key with z | z <;> exact z⟩
theorem split (O : Own R H S) (O2 : Own R2 R S2) {R2' H' : Hp} (N : Own R2' H' (over S2 S)) : Own R2' (over R2' S2) S2 ∧ Own (over R2' S2) H' S := by
  have dj2 : ∀ a o, S2 a = some o → R2' a = none := fun a o e => N.dj a o (by unfold over; rw [O.nos (O2.at e)]; exact e)
  refine ⟨over_own dj2 O2.ft, ⟨fun a => ?_, fun a x e => ?_, O.ft⟩⟩
  · rw [N.eq]
    unfold over
    cases S a <;> rfl
  · have e2 := N.dj a x (by unfold over; rw [e])
    have e3 := (O2.non (O.dj a x e)).2
    unfold over; rw [e3]; exact e2
/-- the upper part comes below -/
theorem sink (O : Own R0 R S) (O2 : Own R H S2) : Own R0 (over R0 S2) S2 ∧ Own (over R0 S2) H S := by
  have dj2 : ∀ a o, S2 a = some o → R0 a = none := fun a o e => (O.non (O2.dj a o e)).1
  refine ⟨over_own dj2 O2.ft, ⟨fun a => ?_, fun a x e => ?_, O.ft⟩⟩
  · rw [O2.eq, O.eq]
    unfold over
    cases e : S2 a with
    | none => rfl
    | some x => rw [(O.non (O2.dj a x e)).2]
  · unfold over
    rw [O2.nos (O.at e)]
    exact O.dj a x e
theorem whole (q : Gx.CP sp vs dvs H Q E) : Gx.CP (fr sp) vs dvs H Q E := ⟨H, e0, own0, by
  have e1 : (fun v R' => ∀ H', Own R' H' e0 → Q v H') = Q := by
    funext v R'
    exact propext ⟨fun h => h R' own0, fun h H' O => by rw [own0_eq O]; exact h⟩
  have e2 : (fun c d R' => ∀ H', Own R' H' e0 → E c d H') = E := by
    funext c d R'
    exact propext ⟨fun h => h R' own0, fun h H' O => by rw [own0_eq O]; exact h⟩
  rw [e1, e2]; exact q⟩
def Mono (sp : Sp) : Prop := ∀ vs H (Q Q' : VK) (E E' : XK), (∀ v H', Q v H' → Q' v H') → (∀ c d H', E c d H' → E' c d H') → sp vs H Q E → sp vs H Q' E'
theorem inF (O : Own R H S) (q : Gx.CP sp vs dvs R (fun v R' => ∀ H', Own R' H' S → Q v H') (fun c d R' => ∀ H', Own R' H' S → E c d H')) : Gx.CP (fr sp) vs dvs H Q E := ⟨R, S, O, q⟩
theorem inF2 (O : Own R H S) (O2 : Own R2 R S2) (q : Gx.CP sp vs dvs R2 (fun v R2' => ∀ H', Own R2' (over R2' S2) S2 → Own (over R2' S2) H' S → Q v H') (fun c d R2' => ∀ H', Own R2' (over R2' S2) S2 → Own (over R2' S2) H' S → E c d H')) : Gx.CP (fr sp) vs dvs H Q E := by
  refine ⟨R2, over S2 S, nest O O2, ?_⟩
  have e1 : (fun v R2' => ∀ H', Own R2' (over R2' S2) S2 → Own (over R2' S2) H' S → Q v H') = fun v R2' => ∀ H', Own R2' H' (over S2 S) → Q v H' := by
    funext v R'
    exact propext ⟨fun h H' N => h H' (split O O2 N).1 (split O O2 N).2, fun h H' A B => h H' (nest B A)⟩
  have e2 : (fun c d R2' => ∀ H', Own R2' (over R2' S2) S2 → Own (over R2' S2) H' S → E c d H') = fun c d R2' => ∀ H', Own R2' H' (over S2 S) → E c d H' := by
    funext c d R'
    exact propext ⟨fun h H' N => h H' (split O O2 N).1 (split O O2 N).2, fun h H' A B => h H' (nest B A)⟩
  rw [← e1, ← e2]; exact q
end
end Nx
namespace Nx
open PySem L2 Fx
section
variable {K : PySem.W.Frag} {R H S R0 R1 R2 S1 S2 H1 H2 H3 : Hp} {a b p l : Addr} {o u : HO} {xs ys : List V} {σ : L2.St} {Q : VK} {E : XK} {v : V}
theorem viaS (s : Same R H) (f : R a = some o) : H a = some o := s a o f
theorem viaL (s : Same R H) (f : SqL K R a xs) : SqL K H a xs := s.seq f
mutual
theorem dpKeep (s : Same R H) : ∀ (d : PyData) (v : V), Dp K R v d → Dp K H v d
  | .none, _, h => by cases h; exact .non
  | .bool b, _, h => by cases h; exact .bl b
  | .int i, _, h => by cases h; exact .int i
  | .str x, _, h => by cases h; exact .str x
  | .list ds, _, h => by
    cases h with
    | lst hs ha => exact .lst (s.seq hs) (dpsKeep s ds _ ha)
  | .tuple ds, _, h => by
    cases h with
    | tup hs ha => exact .tup (by
        rcases hs with (z | ⟨ob, z⟩) | z
        · exact .inl (.inl (s _ _ z))
        · exact .inl (.inr ⟨ob, s _ _ z⟩)
        · exact .inr z) (dpsKeep s ds _ ha)
  | .dict _, _, h => by cases h
theorem dpsKeep (s : Same R H) : ∀ (ds : List PyData) (vs : List V), DpAll K R vs ds → DpAll K H vs ds
  | [], _, h => by cases h; exact .nil
  | d :: ds, _, h => by
    cases h with
    | cons h1 h2 => exact .cons (dpKeep s d _ h1) (dpsKeep s ds _ h2)
end
theorem viaD {d : PyData} (s : Same R H) (h : Dp K R v d) : Dp K H v d := dpKeep s d v h
theorem viaDs {ds : List PyData} {vs : List V} (s : Same R H) (h : DpAll K R vs ds) : DpAll K H vs ds := dpsKeep s ds vs h
/-- new objects, what is made named -/
theorem lst0 (h : xs.length ≤ sizeLine) (q : ∀ p H', H p = none → Same H H' → H' p = some (.lst xs) → Q (.ref p) H') : Gx.LstP xs H Q := Gx.lstP h fun p hp => q p _ hp (Gx.same_new hp) upd_same
theorem tup0 (h : xs.length ≤ sizeLine) (q : ∀ p H', H p = none → Same H H' → H' p = some (.tup xs) → Q (.ref p) H') : Gx.TupP xs H Q := Gx.tupP h fun p hp => q p _ hp (Gx.same_new hp) upd_same
theorem lstN (h : xs.length ≤ sizeLine) (O : Own R H S) (q : ∀ p R' H', R p = none → Own R' H' S → Same R R' → R' p = some (.lst xs) → Q (.ref p) H') : Gx.LstP xs H Q := Gx.lstP h fun p hp => q p _ _ (O.non hp).1 (new O hp) (Gx.same_new (O.non hp).1) upd_same
theorem tupN (h : xs.length ≤ sizeLine) (O : Own R H S) (q : ∀ p R' H', R p = none → Own R' H' S → Same R R' → R' p = some (.tup xs) → Q (.ref p) H') : Gx.TupP xs H Q := Gx.tupP h fun p hp => q p _ _ (O.non hp).1 (new O hp) (Gx.same_new (O.non hp).1) upd_same
/-- a list that is to change, apart -/
theorem lstT (h : xs.length ≤ sizeLine) (q : ∀ p H', Own H H' (one p (.lst xs)) → Q (.ref p) H') : Gx.LstP xs H Q := Gx.lstP h fun p hp => q p _ (top1 hp)
theorem made0 (q : ∀ l H', H l = none → Same H H' → H' l = some o → Q (.ref l) H') : ∀ l, H l = none → Q (.ref l) (upd H l o) := fun l hl => q l _ hl (Gx.same_new hl) upd_same
theorem Own.made (O : Own R H S) (q : ∀ l R' H', R l = none → Own R' H' S → Same R R' → R' l = some o → Q (.ref l) H') : ∀ l, H l = none → Q (.ref l) (upd H l o) := fun l hl => q l _ _ (O.non hl).1 (Nx.new O hl) (Gx.same_new (O.non hl).1) upd_same
variable {b0 : Addr}
theorem slL0 {lo hi : Option Int} (h : SqL K H a xs) (q : ∀ p H', H p = none → Same H H' → H' p = some (.lst (cutV xs lo hi)) → Q (.ref p) H') : rSlL K (.ref a) lo hi H Q := Gx.slL h (made0 q)
theorem slLN {lo hi : Option Int} (h : SqL K H a xs) (O : Own R H S) (q : ∀ p R' H', R p = none → Own R' H' S → Same R R' → R' p = some (.lst (cutV xs lo hi)) → Q (.ref p) H') : rSlL K (.ref a) lo hi H Q := Gx.slL h (Own.made O q)
theorem cat0 {zs : List V} (h1 : H a = some (.lst xs)) (h2 : H b0 = some (.lst zs)) (hz : xs.length + zs.length ≤ sizeLine) (q : ∀ p H', H p = none → Same H H' → H' p = some (.lst (xs ++ zs)) → Q (.ref p) H') : rCat (.ref a) (.ref b0) H Q := Gx.cat h1 h2 hz (made0 q)
theorem catN {zs : List V} (h1 : H a = some (.lst xs)) (h2 : H b0 = some (.lst zs)) (hz : xs.length + zs.length ≤ sizeLine) (O : Own R H S) (q : ∀ p R' H', R p = none → Own R' H' S → Same R R' → R' p = some (.lst (xs ++ zs)) → Q (.ref p) H') : rCat (.ref a) (.ref b0) H Q := Gx.cat h1 h2 hz (Own.made O q)
theorem repN0 {n : Nat} (h : H a = some (.lst [v])) (hn : n ≤ 100000) (q : ∀ p H', H p = none → Same H H' → H' p = some (.lst (List.replicate n v)) → Q (.ref p) H') : Gx.rRepN (.ref a) (.int (n : Int)) H Q := Gx.repN h hn (made0 q)
theorem repNN {n : Nat} (h : H a = some (.lst [v])) (hn : n ≤ 100000) (O : Own R H S) (q : ∀ p R' H', R p = none → Own R' H' S → Same R R' → R' p = some (.lst (List.replicate n v)) → Q (.ref p) H') : Gx.rRepN (.ref a) (.int (n : Int)) H Q := Gx.repN h hn (Own.made O q)
theorem listL0 (h : SqL K H a xs) (q : ∀ p H', H p = none → Same H H' → H' p = some (.lst xs) → Q (.ref p) H') : Gx.rList K [.ref a] H Q := Gx.listL h (made0 q)
theorem listLN (h : SqL K H a xs) (O : Own R H S) (q : ∀ p R' H', R p = none → Own R' H' S → Same R R' → R' p = some (.lst xs) → Q (.ref p) H') : Gx.rList K [.ref a] H Q := Gx.listL h (Own.made O q)
theorem listT0 (h : SqT K H a xs) (q : ∀ p H', H p = none → Same H H' → H' p = some (.lst xs) → Q (.ref p) H') : Gx.rList K [.ref a] H Q := Gx.listT h (made0 q)
theorem listTN (h : SqT K H a xs) (O : Own R H S) (q : ∀ p R' H', R p = none → Own R' H' S → Same R R' → R' p = some (.lst xs) → Q (.ref p) H') : Gx.rList K [.ref a] H Q := Gx.listT h (Own.made O q)
theorem dvm0 {i j : Int} (c : L2.CDiv i j) (q : ∀ p H', H p = none → Same H H' → H' p = some (.tup [.int (i / j), .int (i % j)]) → Q (.ref p) H') : Gx.rDivmod [.int i, .int j] H Q := Gx.dvm c (made0 q)
theorem dvmN {i j : Int} (c : L2.CDiv i j) (O : Own R H S) (q : ∀ p R' H', R p = none → Own R' H' S → Same R R' → R' p = some (.tup [.int (i / j), .int (i % j)]) → Q (.ref p) H') : Gx.rDivmod [.int i, .int j] H Q := Gx.dvm c (Own.made O q)
theorem catT {zs : List V} (h1 : H a = some (.lst xs)) (h2 : H b0 = some (.lst zs)) (hz : xs.length + zs.length ≤ sizeLine) (q : ∀ p H', Own H H' (one p (.lst (xs ++ zs))) → Q (.ref p) H') : rCat (.ref a) (.ref b0) H Q := Gx.cat h1 h2 hz fun p hp => q p _ (top1 hp)
theorem setT {k : Int} {j : Nat} {P : Hp → Prop} (O : Own R H (one l (.lst xs))) (hk : ixN xs.length k = some j) (q : ∀ H', Own R H' (one l (.lst (xs.set j v))) → P H') : rSetL (.ref l) (.int k) v H P := Gx.setL (at1 O) hk (q _ (put1 O))
theorem appT (O : Own R H (one l (.lst xs))) (hz : xs.length < sizeLine) (q : ∀ H', Own R H' (one l (.lst (xs ++ [v]))) → Q .non H') : rAppend (.ref l) [v] H Q := Gx.app (at1 O) hz (q _ (put1 O))
theorem nevB {x y : Bool} (q : Q (.bl (!decide (x = y))) H) : rNe (.bl x) (.bl y) H Q := Gx.nev (by rw [Gx.eqB]; exact q)
theorem cutV_nat (xs : List Nat) (f : Nat → V) (m : Nat) (h : m ≤ xs.length) : cutV (xs.map f) none (some (m : Int)) = (xs.take m).map f := by
  unfold cutV
  rw [HT.sIx_nat, List.length_map, Nat.min_eq_left h]
  show ((xs.map f).drop 0).take (m - 0) = _
  rw [List.drop_zero, Nat.sub_zero, List.map_take]
theorem cutV_from (xs : List Nat) (f : Nat → V) (m : Nat) (h : m ≤ xs.length) : cutV (xs.map f) (some (m : Int)) none = (xs.drop m).map f := by
  unfold cutV
  rw [HT.sIx_nat, List.length_map, Nat.min_eq_left h]
  show ((xs.map f).drop m).take (xs.length - m) = _
  rw [List.map_drop, List.take_of_length_le (by rw [List.length_drop, List.length_map]; omega)]
theorem sl_tupK {X : Cx} (h : X.K = K) : SlR X (rSlT K) := by subst h; exact sl_tup
theorem slT0 {lo hi : Option Int} (h : SqT K H a xs) (nw : ¬ (HT.sIx xs.length 0 lo = 0 ∧ HT.sIx xs.length xs.length hi = xs.length)) (q : ∀ p H', H p = none → Same H H' → H' p = some (.tup (cutV xs lo hi)) → Q (.ref p) H') : rSlT K (.ref a) lo hi H Q := ⟨a, xs, rfl, h, nw, made0 q⟩
theorem Own.grow {H' : Hp} (O : Own R H S) (s : Same H H') : ∃ R', Own R' H' S ∧ Same R R' ∧ ∀ a o, H a = none → H' a = some o → R' a = some o := by
  refine ⟨fun a => match S a with | some _ => none | none => H' a, ⟨fun a => ?_, fun a x e => ?_, O.ft⟩, fun a x e => ?_, fun a x e q => ?_⟩
  · cases e : S a with
    | some x => exact s _ _ (O.at e)
    | none => rfl
  · show (match S a with | some _ => none | none => H' a) = none
    rw [e]
  · show (match S a with | some _ => none | none => H' a) = some x
    rw [O.nos e]; exact s _ _ (O.same _ _ e)
  · show (match S a with | some _ => none | none => H' a) = some x
    rw [(O.non e).2]; exact q
theorem pg_tupK {X : Cx} {es : List Expr} {k : Nat} {t : TGs} {n : Nat} {pos : Pos} (hk : X.K = K) (hc : X.calm = true) (h : PGs X es t) (hn : (assignEach es X.env).length = n) (hst : (assignEach es X.env).findIdx? (·.1) = none) : PG X (.Tuple es k pos) (gTup K n t) := by subst hk; exact pg_tup hc h hn hst
def EnP (K : PySem.W.Frag) (vs : List V) (H : Hp) (T : It → Hp → Prop) : Prop := ∃ a xs, vs = [.ref a] ∧ SqL K H a xs ∧ T (Ite K a) H
theorem enumw {tr : TA} {T : It → Hp → Prop} (q : tr σ H fun vs H1 => EnP K vs H1 T) : iEnum K tr σ H T := q
theorem en {T : It → Hp → Prop} (h : SqL K H a xs) (q : T (Ite K a) H) : EnP K [.ref a] H T := ⟨a, xs, rfl, h, q⟩
theorem eqvAll_str : ∀ xs ys : List Str, PyData.eqvAll (xs.map .str) (ys.map .str) = decide (xs = ys)
  | [], [] => by simp [PyData.eqvAll]
  | [], _ :: _ => by simp [PyData.eqvAll]
  | _ :: _, [] => by simp [PyData.eqvAll]
  | x :: xs, y :: ys => by
    simp only [List.map_cons, PyData.eqvAll, PyData.eqv, eqvAll_str xs ys]
    by_cases h : x = y
    · subst h; simp
    · simp [h]
theorem shaped_strs (xs : List Str) (ok : xs.all PyData.strOk = true) : SeqAt.shaped (.list (xs.map .str)) = true := by
  have c : ∀ xs : List Str, xs.all PyData.strOk = true → PyData.canLayAll0 (xs.map .str) = true := fun xs => by
    induction xs with
    | nil => exact fun _ => rfl
    | cons x xs ih =>
      intro h
      rw [List.all_cons, Bool.and_eq_true] at h
      simp [PyData.canLayAll0, PyData.canLay0, ih h.2, h.1]
  have d : ∀ xs : List Str, PyData.depthAll (xs.map .str) = 0 := fun xs => by
    induction xs with
    | nil => rfl
    | cons x xs ih => simp [PyData.depthAll, PyData.depth, ih]
  simp [SeqAt.shaped, PyData.canLay0, PyData.depth, c xs ok, d]
theorem dpAll_str : ∀ xs : List Str, DpAll K H (xs.map V.str) (xs.map PyData.str)
  | [] => .nil
  | x :: xs => .cons (.str x) (dpAll_str xs)
theorem eqDS {q' : Addr} {xs ys : List Str} (h1 : SqL K H p (xs.map V.str)) (h2 : SqL K H q' (ys.map V.str)) (o1 : xs.all PyData.strOk = true) (o2 : ys.all PyData.strOk = true) (q : Q (.bl (decide (xs = ys))) H) : rEqD K (.ref p) (.ref q') H Q :=
  ⟨_, _, .lst h1 (dpAll_str xs), .lst h2 (dpAll_str ys), shaped_strs xs o1, shaped_strs ys o2, by rw [show PyData.eqv (.list (xs.map .str)) (.list (ys.map .str)) = decide (xs = ys) from eqvAll_str xs ys]; exact q⟩
/-- a list taken out of what stands, to be changed -/
def cutH (H : Hp) (k : Addr) : Hp := fun a => if a = k then none else H a
theorem cutH_ne {k : Addr} (h : a ≠ k) : cutH H k a = H a := if_neg h
theorem cutH_own {k : Addr} (h : H k = some (.lst xs)) : Own (cutH H k) H (one k (.lst xs)) := mk1 (if_pos rfl) trivial h fun a c => (cutH_ne c).symm
theorem cutH_at {k : Addr} {o : HO} (h : H k = some (.lst xs)) (ha : H a = some o) (ne : o ≠ .lst xs) : cutH H k a = some o := by rw [cutH_ne (ne_of ha h ne)]; exact ha
theorem cutH_tl {k l : Addr} {n : Nat} {g : Nat → List Int} (h : H k = some (.lst xs)) (x : Gx.TL H l n g) (ne : l ≠ k) : Gx.TL (cutH H k) l n g := by
  obtain ⟨ps, h1, h2, h3⟩ := x
  exact ⟨ps, by rw [cutH_ne ne]; exact h1, h2, fun j a e => cutH_at h (h3 j a e) (fun z => nomatch z)⟩
theorem pe_bmK {X : Cx} {o : Expr} {e : Expr} {es : List Expr} {T : String} {name : Str} {id : String} {apos cpos : Pos} {to : TE} {t : TA} {r : V → List V → Hp → VK → Prop} (hk : X.K = K) (pa : PlainAttrs T) (slot : Slot T name id) (hty : typeOf (.builtin id) = pure (.type "method_descriptor")) (hm : MtR X id r) (ho : PE X o to) (ha : PA X (e :: es) t)
    (b1 : attributeBase o name X.env (eval o X.env) = eval o X.env) (b2 : ((backTo cpos (starEach (e :: es) X.env)).all (fun x => !x.1) && (backToKw cpos (keywordEach [] X.env)).all (fun x => x.1.isSome) && decide ((e :: es).length + ([] : List Keyword).length + (if ([] : List Keyword).isEmpty then 0 else 1) < 30)) = true)
    (b3 : (apos.endLine == cpos.line) = true) (b4 : starEach (e :: es) X.env = (false, eval e X.env) :: starEach es X.env) (b5 : (backTo cpos (starEach es X.env)).any (·.1) = false) : PE X (.Call (.Attribute o name apos) (e :: es) [] cpos) (tBM K T r to t) := by
  subst hk; exact pe_bm pa slot hty hm ho ha b1 b2 b3 b4 b5
theorem shaped_tstrs (xs : List Str) (ok : xs.all PyData.strOk = true) : SeqAt.shaped (.tuple (xs.map .str)) = true := by
  have h := shaped_strs xs ok
  simpa [SeqAt.shaped, PyData.canLay0, PyData.depth] using h
theorem neTS {q' : Addr} {xs ys : List Str} (h1 : SqT K H p (xs.map V.str)) (h2 : SqT K H q' (ys.map V.str)) (o1 : xs.all PyData.strOk = true) (o2 : ys.all PyData.strOk = true) (q : Q (.bl (!decide (xs = ys))) H) : rNeD K (.ref p) (.ref q') H Q :=
  ⟨_, _, .tup h1 (dpAll_str xs), .tup h2 (dpAll_str ys), shaped_tstrs xs o1, shaped_tstrs ys o2, by rw [show PyData.eqv (.tuple (xs.map .str)) (.tuple (ys.map .str)) = decide (xs = ys) from eqvAll_str xs ys]; exact q⟩
theorem eqTS {q' : Addr} {xs ys : List Str} (h1 : SqT K H p (xs.map V.str)) (h2 : SqT K H q' (ys.map V.str)) (o1 : xs.all PyData.strOk = true) (o2 : ys.all PyData.strOk = true) (q : Q (.bl (decide (xs = ys))) H) : rEqD K (.ref p) (.ref q') H Q :=
  ⟨_, _, .tup h1 (dpAll_str xs), .tup h2 (dpAll_str ys), shaped_tstrs xs o1, shaped_tstrs ys o2, by rw [show PyData.eqv (.tuple (xs.map .str)) (.tuple (ys.map .str)) = decide (xs = ys) from eqvAll_str xs ys]; exact q⟩
/-- isinstance with an own class -/
structure IsO (K : PySem.W.Frag) (C : Addr) : Prop where
  ca : PySem.W.findIn K (.ref C) "__class__" = some (some (.builtin "object.__class__"))
  sp : PySem.W.specialIn K (.builtin "object.__class__") "__get__" = some (some (.builtin "getset_descriptor.__get__"))
  tk : PySem.W.takesIn K (.builtin "object.__class__") = some true
  ob : PySem.W.mroIn K C (.type "object") = some true
theorem isiO {C D dx : Addr} {fs : List (Str × V)} {k : Bool} (I : IsO K C) (cl : Cls K C) (h : H a = some (.ins C dx fs)) (e : PySem.W.kitOne K (.ref C) (.ref D) = some k) (q : Q (.bl k) H) : rIsi K [.ref a, .ref D] H Q := ⟨.ref a, .ref D, .ref C, .ref D, k, rfl, .own D, .base (.ins h cl I.ca I.sp I.tk I.ob), e, q⟩
theorem isiOs {C dx : Addr} {fs : List (Str × V)} (I : IsO K C) (cl : Cls K C) (h : H a = some (.ins C dx fs)) (q : Q (.bl true) H) : rIsi K [.ref a, .ref C] H Q := isiO I cl h (by unfold PySem.W.kitOne; rw [if_pos (by simp)]) q
/-- a comprehension; the values so far stand apart in the list D -/
theorem lcO {J : It} {n : Nat} {G : Hp → Prop} {Y : Nat → Hp → V → Hp → Prop} {g : TG} {t : TT} {te : TE} {vs : List Nat} (w : Walk J n G Y) (I : Nat → List V → Hp → Prop) (hn : n < 16777216) (h0 : I 0 [] H) (hG : ∀ i zs R H', I i zs R → Same R H' → G H')
    (hs : ∀ i x zs R D H1 H2 (Ry : V → Hp → Prop) (Rn : Hp → Prop), i < n → I i zs R → Own R H1 (one D (.lst zs)) → Y i H1 x H2 → (∀ y R' H5, Own R' H5 (one D (.lst zs)) → I (i + 1) (zs ++ [y]) R' → Ry y H5) → (∀ R' H4, Own R' H4 (one D (.lst zs)) → I (i + 1) zs R' → Rn H4) →
      g x (wipe σ vs) H2 fun σ2 H3 => Gx.WP (wipe σ2 vs = wipe σ vs) (t σ2 H3 fun b H4 => Gx.IfP b (te σ2 H4 Ry) (Rn H4)))
    (q : ∀ D zs R H', I n zs R → Own R H' (one D (.lst zs)) → Q (.ref D) H') : Gx.LcP J g t te vs σ Q H := fun D hD => by
  refine lc_it w (fun i H' => ∃ R zs, zs.length ≤ i ∧ Own R H' (one D (.lst zs)) ∧ I i zs R) ⟨H, [], Nat.le_refl 0, top1 hD, h0⟩ (fun i H' _ h => ?_) (fun i x H1 H' hi h y => ?_) (fun H' h => ?_)
  · obtain ⟨R, zs, _, O, hI⟩ := h; exact hG i zs R H' hI O.same
  · obtain ⟨R, zs, hl, O, hI⟩ := h
    exact hs i x zs R D H1 H' _ _ hi hI O y (fun y R' H5 O' hI' => ⟨zs, at1 O', by rw [sizeLine_eq]; omega, R', zs ++ [y], by rw [List.length_append]; show _ + 1 ≤ _; omega, put1 O', hI'⟩) (fun R' H4 O' hI' => ⟨R', zs, by omega, O', hI'⟩)
  · obtain ⟨R, zs, _, O, hI⟩ := h; exact q D zs R H' hI O
end
end Nx
local macro_rules | `(tactic| walk_at "xsame1") => `(tactic| first
  | assumption
  | exact Fx.Own.same (by assumption))
local macro_rules | `(tactic| walk_at "xsame") => `(tactic| first
  | assumption
  | exact L2.Same.refl _
  | (refine' L2.Same.trans ?s1 ?s2; (case s2 => walk_at "xsame1"); (case s1 => walk_at "xsame")))
local macro_rules | `(tactic| walk_at "fact") => `(tactic| first
  | assumption
  | exact Nx.at1 (by assumption)
  | exact L2.upd_same
  | (refine' Nx.viaS ?s ?f; (case s => walk_at "xsame1"); (case f => walk_at "fact"))
  | (refine' L2.SqL.of ?f; (case f => walk_at "fact"))
  | (refine' Nx.viaL ?s ?f; (case s => walk_at "xsame1"); (case f => walk_at "fact"))
  | (refine' L2.SqT.of ?f; (case f => walk_at "fact"))
  | (refine' Nx.viaD ?s ?f; (case s => walk_at "xsame1"); (case f => walk_at "fact")))
local macro_rules | `(tactic| walk_at "run1") => `(tactic| first
  | walk_at "go1"
  | ((with_reducible refine' Gx.ixL ?hf ?ha ?_); (case hf => walk_at "fact"); (case ha => rfl))
  | ((with_reducible refine' Gx.ixT ?hf ?ha ?_); (case hf => walk_at "fact"); (case ha => rfl))
  | with_reducible refine Nx.nevB ?_
  | with_reducible refine Nx.enumw ?_
  | ((with_reducible refine' Gx.ic ?hc ?_); (case hc => walk_at "side"))
  | ((with_reducible refine' Gx.gtup ?hf ?ha ?_); (case hf => walk_at "fact"); (case ha => rfl)))
local macro_rules | `(tactic| walk_at "run") => `(tactic| repeat walk_at "run1")

namespace Ch
open PySem L2
/-! a chain of two comparisons -/
def ChP (r' : R2) (tc : TE) (y z : V) (σ : L2.St) (H : Hp) (Q : VK) : Prop := ∃ k, z = .bl k ∧ Gx.IfP k (tc σ H fun w H4 => r' y w H4 Q) (Q (.bl false) H)
theorem chain {r r' : R2} {ta tb tc : TE} {σ : L2.St} {H : Hp} {Q : VK} (q : ta σ H fun x H1 => tb σ H1 fun y H2 => r x y H2 fun z H3 => ChP r' tc y z σ H3 Q) : tChain r r' ta tb tc σ H Q := q
theorem chp {r' : R2} {tc : TE} {y z : V} {σ : L2.St} {H : Hp} {Q : VK} (k : Bool) (h : z = .bl k) (q : Gx.IfP k (tc σ H fun w H4 => r' y w H4 Q) (Q (.bl false) H)) : ChP r' tc y z σ H Q := ⟨k, h, q⟩
/-- x is None -/
theorem isN_y {H : Hp} {Q : VK} (q : Q (.bl true) H) : V.non = V.non ∧ Q (.bl (decide (V.non = V.non))) H := ⟨rfl, by rw [decide_eq_true rfl]; exact q⟩
theorem isN_n {a : Addr} {H : Hp} {Q : VK} (q : Q (.bl false) H) : V.non = V.non ∧ Q (.bl (decide (V.ref a = V.non))) H := ⟨rfl, by rw [decide_eq_false (by simp)]; exact q⟩
theorem nonA {P : Prop} (q : P) : V.non = V.non ∧ P := ⟨rfl, q⟩
section
variable {A1 A2 : Prop} {a : Addr} {H : Hp} {Q : VK}
theorem ifN_y {inst : Decidable (V.non = V.non)} (q : A1) : Gx.IfP (@decide (V.non = V.non) inst) A1 A2 := Gx.if_y (decide_eq_true rfl) q
theorem ifN_n {inst : Decidable (V.ref a = V.non)} (q : A2) : Gx.IfP (@decide (V.ref a = V.non) inst) A1 A2 := Gx.if_n (decide_eq_false (by simp)) q
theorem ifN_i {b : Int} {inst : Decidable (V.int b = V.non)} (q : A2) : Gx.IfP (@decide (V.int b = V.non) inst) A1 A2 := Gx.if_n (decide_eq_false (by simp)) q
theorem ifN_s {b : Str} {inst : Decidable (V.str b = V.non)} (q : A2) : Gx.IfP (@decide (V.str b = V.non) inst) A1 A2 := Gx.if_n (decide_eq_false (by simp)) q
theorem nfN_y {inst : Decidable (V.non = V.non)} (q : A2) : Gx.IfP (!@decide (V.non = V.non) inst) A1 A2 := Gx.if_n (by rw [decide_eq_true rfl]; rfl) q
theorem nfN_n {inst : Decidable (V.ref a = V.non)} (q : A1) : Gx.IfP (!@decide (V.ref a = V.non) inst) A1 A2 := Gx.if_y (by rw [decide_eq_false (by simp)]; rfl) q
theorem nfN_i {b : Int} {inst : Decidable (V.int b = V.non)} (q : A1) : Gx.IfP (!@decide (V.int b = V.non) inst) A1 A2 := Gx.if_y (by rw [decide_eq_false (by simp)]; rfl) q
theorem nfN_s {b : Str} {inst : Decidable (V.str b = V.non)} (q : A1) : Gx.IfP (!@decide (V.str b = V.non) inst) A1 A2 := Gx.if_y (by rw [decide_eq_false (by simp)]; rfl) q
end
end Ch
local macro_rules | `(tactic| walk_at "run1") => `(tactic| (first
  | with_reducible refine Ch.chain ?_
  | ((with_reducible refine' Ch.chp _ ?h ?_); (case h => rfl))
  | with_reducible refine Ch.nonA ?_
  | with_reducible refine Ch.ifN_y ?_
  | with_reducible refine Ch.ifN_n ?_
  | with_reducible refine Ch.ifN_i ?_
  | with_reducible refine Ch.ifN_s ?_
  | with_reducible refine Ch.nfN_y ?_
  | with_reducible refine Ch.nfN_n ?_
  | with_reducible refine Ch.nfN_i ?_
  | with_reducible refine Ch.nfN_s ?_))

namespace Gd
open PySem L2
/-- tiles beside one another -/
def ac (n t : Nat) : Nat := (n + t - 1) / t
theorem ac_int {n t : Nat} (ht : 0 < t) : ((n : Int) + (t : Int) - 1) / (t : Int) = ((ac n t : Nat) : Int) := by
  unfold ac
  rw [Int.natCast_ediv]
  congr 1
  omega
theorem ac_pos {n t : Nat} (hn : 0 < n) (ht : 0 < t) : 0 < ac n t := by
  unfold ac
  exact Nat.div_pos (by omega) ht
theorem ac_le {n t : Nat} (ht : 0 < t) : ac n t ≤ n := by
  unfold ac
  rcases Nat.eq_zero_or_pos n with h | h
  · subst h; rw [Nat.zero_add]; rw [Nat.div_eq_of_lt (by omega)]; exact Nat.le_refl _
  · have := Nat.div_le_of_le_mul (m := n + t - 1) (k := t) (n := n) (by
      have : t * n = t * (n - 1) + t := by rw [← Nat.mul_succ]; congr 1; omega
      have : n - 1 ≤ t * (n - 1) := Nat.le_mul_of_pos_left _ ht
      omega)
    exact this
/-- so large a picture may be -/
theorem room {w h c : Nat} (hh : h ≤ 3072 / (w * c)) (hp : 0 < w * c) : w * h * c ≤ 3072 := by
  have e := (Nat.le_div_iff_mul_le hp).mp hh
  rw [Nat.mul_right_comm, Nat.mul_comm]; exact e
/-- the side of the k-th tile -/
def sd (n t k : Nat) : Nat := min t (n - k * t)
theorem ac_mul {n t k : Nat} (ht : 0 < t) (hk : k < ac n t) : k * t < n := by
  unfold ac at hk
  have h := (Nat.le_div_iff_mul_le ht).mp (Nat.succ_le_of_lt hk)
  rw [Nat.succ_mul] at h
  omega
theorem sd_int {n t k : Nat} (ht : 0 < t) (hk : k < ac n t) : (if (n : Int) - ((k * t : Nat) : Int) < (t : Int) then (n : Int) - ((k * t : Nat) : Int) else (t : Int)) = ((sd n t k : Nat) : Int) := by
  have := ac_mul ht hk
  unfold sd
  generalize k * t = m at *
  split <;> omega
theorem ac_succ {n t : Nat} (ht : 0 < t) : ac (n + 1) t = ac n t + if n % t = 0 then 1 else 0 := by
  unfold ac
  rw [show n + 1 + t - 1 = (n + t - 1) + 1 by omega, Nat.succ_div]
  congr 1
  have e : n + t - 1 + 1 = n + t := by omega
  rw [e]
  by_cases h : n % t = 0
  · rw [if_pos h, if_pos (Nat.dvd_of_mod_eq_zero (by rw [Nat.add_mod_right]; exact h))]
  · rw [if_neg h, if_neg (fun z => h (by have := Nat.mod_eq_zero_of_dvd z; rwa [Nat.add_mod_right] at this))]
/-- every t-th column begins a tile -/
theorem firsts {t : Nat} (ht : 0 < t) : ∀ n, ((List.range n).filter fun i => decide (i % t = 0)).length = ac n t
  | 0 => by unfold ac; rw [Nat.zero_add, Nat.div_eq_of_lt (by omega)]; rfl
  | n + 1 => by
    rw [List.range_succ, List.filter_append, List.length_append, firsts ht n, ac_succ ht]
    congr 1
    by_cases h : n % t = 0
    · rw [if_pos h, List.filter_cons, if_pos (decide_eq_true h)]; rfl
    · rw [if_neg h, List.filter_cons, if_neg (by simpa using h)]; rfl
/-- the columns of one tile -/
theorem side {t k : Nat} (ht : 0 < t) : ∀ n, ((List.range n).filter fun i => decide (i / t = k)) = List.range' (k * t) (sd n t k)
  | 0 => by unfold sd; rw [Nat.zero_sub, Nat.min_zero]; rfl
  | n + 1 => by
    rw [List.range_succ, List.filter_append, side ht n]
    have d1 := Nat.div_mul_le_self n t
    have d2 := Nat.lt_div_mul_add (a := n) ht
    by_cases h : n / t = k
    · rw [List.filter_cons, if_pos (decide_eq_true h)]
      subst h
      have e1 : sd n t (n / t) = n - n / t * t := by unfold sd; omega
      have e2 : sd (n + 1) t (n / t) = (n - n / t * t) + 1 := by unfold sd; omega
      rw [e1, e2, List.range'_concat]
      congr 2
      omega
    · rw [List.filter_cons, if_neg (by simpa using h)]
      have e : sd (n + 1) t k = sd n t k := by
        unfold sd
        rcases Nat.lt_or_ge n (k * t) with z | z
        · omega
        · have : k < n / t := by
            rcases Nat.lt_trichotomy (n / t) k with y | y | y
            · have := (Nat.div_lt_iff_lt_mul ht).mp y; omega
            · exact absurd y h
            · exact y
          have g := (Nat.le_div_iff_mul_le ht).mp (Nat.succ_le_of_lt this)
          rw [Nat.succ_mul] at g
          omega
      rw [e]
      show List.range' _ _ ++ [] = _
      rw [List.append_nil]
theorem sd_pos {n t k : Nat} (ht : 0 < t) (hk : k < ac n t) : 0 < sd n t k := by
  have := ac_mul ht hk
  unfold sd; omega
end Gd

namespace Gd
/-- the k-th key: channel, tile, plane -/
def ky (T c d k : Nat) : List Int := [(k : Int) / (T : Int) % (c : Int), (k : Int) % (T : Int), (d : Int) - 1 - (k : Int) / (T : Int) / (c : Int)]
theorem ky_of {T c d i j l : Nat} (hj : j < c) (hl : l < T) : ky T c d ((i * c + j) * T + l) = [(j : Int), (l : Int), (d : Int) - 1 - (i : Int)] := by
  have e1 : ((i * c + j) * T + l) / T = i * c + j := by
    rw [Nat.mul_comm, Nat.mul_add_div (by omega), Nat.div_eq_of_lt hl, Nat.add_zero]
  have e2 : ((i * c + j) * T + l) % T = l := by rw [Nat.mul_comm, Nat.mul_add_mod, Nat.mod_eq_of_lt hl]
  have e3 : (i * c + j) / c = i := by rw [Nat.mul_comm, Nat.mul_add_div (by omega), Nat.div_eq_of_lt hj, Nat.add_zero]
  have e4 : (i * c + j) % c = j := by rw [Nat.mul_comm, Nat.mul_add_mod, Nat.mod_eq_of_lt hj]
  unfold ky
  rw [← Int.natCast_ediv, ← Int.natCast_emod, ← Int.natCast_emod, ← Int.natCast_ediv, e1, e2, e3, e4]
theorem ky_at {T c d k : Nat} (hc : 0 < c) : ky T c d k = [((k / T % c : Nat) : Int), ((k % T : Nat) : Int), (d : Int) - 1 - ((k / T / c : Nat) : Int)] := by
  unfold ky
  rw [Int.natCast_emod, Int.natCast_emod, Int.natCast_ediv, Int.natCast_ediv, Int.natCast_ediv]
theorem ky_back {T c k : Nat} : (k / T / c * c + k / T % c) * T + k % T = k := by
  rw [Nat.div_add_mod' (k / T) c, Nat.div_add_mod' k T]
end Gd

namespace Gd
/-- the tile of a pixel, and its place there -/
def tileOf (w t n : Nat) : Nat := n / w / t * ac w t + n % w / t
def placeOf (w t n : Nat) : Nat := n / w % t * sd w t (n % w / t) + n % w % t
theorem lt_ac {n t m : Nat} (ht : 0 < t) (h : m < n) : m / t < ac n t := by
  unfold ac
  refine (Nat.lt_div_iff_mul_lt ht).mpr ?_
  have := Nat.div_mul_le_self m t
  omega
theorem tile_mod {w t n : Nat} (hw : 0 < w) (ht : 0 < t) : tileOf w t n % ac w t = n % w / t := by
  unfold tileOf
  rw [Nat.mul_comm, Nat.mul_add_mod, Nat.mod_eq_of_lt (lt_ac ht (Nat.mod_lt _ hw))]
theorem tile_div {w t n : Nat} (hw : 0 < w) (ht : 0 < t) : tileOf w t n / ac w t = n / w / t := by
  unfold tileOf
  have p := ac_pos hw ht
  rw [Nat.mul_comm, Nat.mul_add_div p, Nat.div_eq_of_lt (lt_ac ht (Nat.mod_lt _ hw)), Nat.add_zero]
theorem tile_lt {w h t n : Nat} (hw : 0 < w) (ht : 0 < t) (hn : n < w * h) : tileOf w t n < ac w t * ac h t := by
  have a := lt_ac (n := w) ht (Nat.mod_lt n hw)
  have b := lt_ac (n := h) ht (Nat.div_lt_of_lt_mul hn)
  have c := Nat.mul_le_mul_right (ac w t) (Nat.succ_le_of_lt b)
  rw [Nat.succ_mul, Nat.mul_comm (ac h t)] at c
  unfold tileOf
  omega
end Gd

namespace Gd
open PySem L2
/-- the m-th pixel of tile k -/
def pix (w t k m : Nat) : Nat := (k / ac w t * t + m / sd w t (k % ac w t)) * w + (k % ac w t * t + m % sd w t (k % ac w t))
theorem made_flat (W : Nat) (hW : 0 < W) (f : Nat → Nat → V) : ∀ i, Gx.made W f i = (List.range (i * W)).map fun m => f (m / W) (m % W)
  | 0 => by simp [Gx.made]
  | i + 1 => by
    rw [Gx.made_succ, made_flat W hW f i, Nat.succ_mul, List.range_add, List.map_append, List.map_map]
    congr 1
    refine List.map_congr_left fun j hj => ?_
    have hj2 := List.mem_range.mp hj
    show f i j = f ((i * W + j) / W) ((i * W + j) % W)
    rw [Nat.mul_comm, Nat.mul_add_div hW, Nat.div_eq_of_lt hj2, Nat.add_zero, Nat.mul_add_mod, Nat.mod_eq_of_lt hj2]
section
variable {w h t k m n : Nat} (hw : 0 < w) (ht : 0 < t) (hk : k < ac w t * ac h t)
include hw ht hk
theorem rows_of (hm : m < sd h t (k / ac w t) * sd w t (k % ac w t)) : m / sd w t (k % ac w t) < sd h t (k / ac w t) ∧ m % sd w t (k % ac w t) < sd w t (k % ac w t) := by
  have p := sd_pos (n := w) ht (Nat.mod_lt k (ac_pos hw ht))
  exact ⟨Nat.div_lt_of_lt_mul (by rw [Nat.mul_comm]; exact hm), Nat.mod_lt _ p⟩
theorem pix_parts (hm : m < sd h t (k / ac w t) * sd w t (k % ac w t)) : pix w t k m / w = k / ac w t * t + m / sd w t (k % ac w t) ∧ pix w t k m % w = k % ac w t * t + m % sd w t (k % ac w t) := by
  obtain ⟨h1, h2⟩ := rows_of hw ht hk hm
  have c : k % ac w t * t + m % sd w t (k % ac w t) < w := by
    generalize m % sd w t (k % ac w t) = j at *
    unfold sd at h2; omega
  unfold pix
  rw [Nat.mul_comm, Nat.mul_add_div hw, Nat.div_eq_of_lt c, Nat.mul_add_mod, Nat.mod_eq_of_lt c]
  exact ⟨rfl, rfl⟩
theorem pix_lt (hm : m < sd h t (k / ac w t) * sd w t (k % ac w t)) : pix w t k m < w * h := by
  obtain ⟨h1, h2⟩ := rows_of hw ht hk hm
  obtain ⟨e1, e2⟩ := pix_parts hw ht hk hm
  have r : pix w t k m / w < h := by
    rw [e1]
    generalize m / sd w t (k % ac w t) = i at *
    unfold sd at h1; omega
  have := (Nat.div_lt_iff_lt_mul hw).mp r
  rw [Nat.mul_comm]; exact this
theorem cut4 {a i : Nat} (hi : i < t) : (a * t + i) / t = a ∧ (a * t + i) % t = i := by
  rw [Nat.mul_comm, Nat.mul_add_div ht, Nat.div_eq_of_lt hi, Nat.mul_add_mod, Nat.mod_eq_of_lt hi]
  exact ⟨rfl, rfl⟩
theorem pix_four (hm : m < sd h t (k / ac w t) * sd w t (k % ac w t)) : pix w t k m / w / t = k / ac w t ∧ pix w t k m / w % t = m / sd w t (k % ac w t) ∧ pix w t k m % w / t = k % ac w t ∧ pix w t k m % w % t = m % sd w t (k % ac w t) := by
  obtain ⟨h1, h2⟩ := rows_of hw ht hk hm
  obtain ⟨e1, e2⟩ := pix_parts hw ht hk hm
  have i1 : m / sd w t (k % ac w t) < t := by
    generalize m / sd w t (k % ac w t) = i at *
    unfold sd at h1; omega
  have i2 : m % sd w t (k % ac w t) < t := by
    generalize m % sd w t (k % ac w t) = i at *
    unfold sd at h2; omega
  rw [e1, e2]
  exact ⟨(cut4 hw ht hk i1).1, (cut4 hw ht hk i1).2, (cut4 hw ht hk i2).1, (cut4 hw ht hk i2).2⟩
theorem pix_tile (hm : m < sd h t (k / ac w t) * sd w t (k % ac w t)) : tileOf w t (pix w t k m) = k ∧ placeOf w t (pix w t k m) = m := by
  obtain ⟨a, b, c, d⟩ := pix_four hw ht hk hm
  unfold tileOf placeOf
  rw [a, b, c, d]
  exact ⟨Nat.div_add_mod' _ _, Nat.div_add_mod' _ _⟩
theorem pix_back (hn : n < w * h) (e : tileOf w t n = k) : placeOf w t n < sd h t (k / ac w t) * sd w t (k % ac w t) ∧ pix w t k (placeOf w t n) = n := by
  have tm := tile_mod (n := n) hw ht
  have td := tile_div (n := n) hw ht
  rw [e] at tm td
  have p := sd_pos (n := w) ht (Nat.mod_lt k (ac_pos hw ht))
  have x1 := Nat.div_add_mod' (n % w) t
  have y1 := Nat.div_add_mod' (n / w) t
  have xm := Nat.mod_lt (n % w) ht
  have ym := Nat.mod_lt (n / w) ht
  have xw := Nat.mod_lt n hw
  have yh : n / w < h := Nat.div_lt_of_lt_mul hn
  have c1 : n % w % t < sd w t (k % ac w t) := by unfold sd; rw [tm]; omega
  have c2 : n / w % t < sd h t (k / ac w t) := by unfold sd; rw [td]; omega
  have pl : placeOf w t n = n / w % t * sd w t (k % ac w t) + n % w % t := by unfold placeOf; rw [← tm]
  have d1 : placeOf w t n / sd w t (k % ac w t) = n / w % t := by rw [pl, Nat.mul_comm, Nat.mul_add_div p, Nat.div_eq_of_lt c1, Nat.add_zero]
  have d2 : placeOf w t n % sd w t (k % ac w t) = n % w % t := by rw [pl, Nat.mul_comm, Nat.mul_add_mod, Nat.mod_eq_of_lt c1]
  refine ⟨?_, ?_⟩
  · have := Nat.mul_le_mul_right (sd w t (k % ac w t)) (Nat.succ_le_of_lt c2)
    rw [Nat.succ_mul] at this
    omega
  · unfold pix
    rw [d1, d2, td, tm, y1, x1]
    exact Nat.div_add_mod' n w
theorem pix_mono (hm : m + 1 < sd h t (k / ac w t) * sd w t (k % ac w t)) : pix w t k m < pix w t k (m + 1) := by
  have a1 := pix_parts hw ht hk (show m < _ by omega)
  have a2 := pix_parts hw ht hk hm
  have p := sd_pos (n := w) ht (Nat.mod_lt k (ac_pos hw ht))
  have x1 := Nat.div_add_mod' (pix w t k m) w
  have x2 := Nat.div_add_mod' (pix w t k (m + 1)) w
  have xl := Nat.mod_lt (pix w t k m) hw
  generalize pix w t k m = u at *
  generalize pix w t k (m + 1) = v at *
  generalize sd w t (k % ac w t) = W at *
  have y1 := Nat.div_add_mod' m W
  have y2 := Nat.div_add_mod' (m + 1) W
  have le : m / W ≤ (m + 1) / W := Nat.div_le_div_right (by omega)
  rcases Nat.lt_or_ge (m / W) ((m + 1) / W) with q | q
  · have r : u / w + 1 ≤ v / w := by rw [a1.1, a2.1]; omega
    have := Nat.mul_le_mul_right w r
    rw [Nat.succ_mul] at this
    omega
  · have e : m / W = (m + 1) / W := by omega
    rw [← e] at y2 a2
    have : u % w < v % w := by rw [a1.2, a2.2]; omega
    have e2 : u / w = v / w := by rw [a1.1, a2.1]
    rw [e2] at x1
    omega
end
/-- how often a pixel was seen: the tiles below k are done, of tile k the places below m -/
def sv (w t k m n : Nat) : Int := if tileOf w t n < k ∨ (tileOf w t n = k ∧ placeOf w t n < m) then 1 else 0
def seenV (w h t k m : Nat) : List Int := (List.range (w * h)).map (sv w t k m)
theorem seen_len (w h t k m : Nat) : (seenV w h t k m).length = w * h := by unfold seenV; rw [List.length_map, List.length_range]
theorem seen_nil (w h t : Nat) : List.replicate (w * h) (V.int 0) = (seenV w h t 0 0).map V.int := by
  unfold seenV
  rw [List.map_map]
  refine (List.eq_replicate_iff.mpr ⟨by rw [List.length_map, List.length_range], fun b hb => ?_⟩).symm
  obtain ⟨n, _, rfl⟩ := List.mem_map.mp hb
  show V.int (sv w t 0 0 n) = _
  unfold sv
  rw [if_neg (by omega)]
theorem seen_get {w h t k m n : Nat} (hn : n < w * h) : (seenV w h t k m).getD n 0 = sv w t k m n := by
  unfold seenV
  rw [List.getD_eq_getElem?_getD, List.getElem?_map, List.getElem?_range hn]; rfl
section
variable {w h t k m : Nat} (hw : 0 < w) (ht : 0 < t) (hk : k < ac w t * ac h t)
include hw ht hk
theorem sv_pix (hm : m < sd h t (k / ac w t) * sd w t (k % ac w t)) : sv w t k m (pix w t k m) = 0 := by
  obtain ⟨a, b⟩ := pix_tile hw ht hk hm
  unfold sv
  rw [a, b, if_neg (by omega)]
theorem seen_step (hm : m < sd h t (k / ac w t) * sd w t (k % ac w t)) : ((seenV w h t k m).map V.int).set (pix w t k m) (V.int 1) = (seenV w h t k (m + 1)).map V.int := by
  obtain ⟨a, b⟩ := pix_tile hw ht hk hm
  have pl := pix_lt hw ht hk hm
  apply List.ext_getElem?
  intro i
  unfold seenV
  rw [List.map_map, List.map_map, List.getElem?_set, List.getElem?_map, List.getElem?_map, List.length_map, List.length_range]
  by_cases hi : i < w * h
  · rw [List.getElem?_range hi]
    by_cases e : pix w t k m = i
    · rw [if_pos e, if_pos (by omega)]
      subst e
      show _ = some (V.int (sv w t k (m + 1) (pix w t k m)))
      unfold sv
      rw [a, b, if_pos (by omega)]
    · rw [if_neg e]
      show some (V.int (sv w t k m i)) = some (V.int (sv w t k (m + 1) i))
      congr 2
      unfold sv
      by_cases e2 : tileOf w t i = k
      · have back := pix_back hw ht hk hi e2
        have ne : placeOf w t i ≠ m := fun z => e (by rw [← z]; exact back.2)
        by_cases c : placeOf w t i < m
        · rw [if_pos (.inr ⟨e2, c⟩), if_pos (.inr ⟨e2, by omega⟩)]
        · rw [if_neg (by omega), if_neg (by omega)]
      · by_cases c : tileOf w t i < k
        · rw [if_pos (.inl c), if_pos (.inl c)]
        · rw [if_neg (fun z => z.elim c (fun y => e2 y.1)), if_neg (fun z => z.elim c (fun y => e2 y.1))]
  · rw [List.getElem?_eq_none (by rw [List.length_range]; omega), if_neg (by omega)]; rfl
theorem seen_tile : seenV w h t k (sd h t (k / ac w t) * sd w t (k % ac w t)) = seenV w h t (k + 1) 0 := by
  unfold seenV
  refine List.map_congr_left fun i hi => ?_
  have hi2 := List.mem_range.mp hi
  unfold sv
  by_cases e2 : tileOf w t i = k
  · have back := pix_back hw ht hk hi2 e2
    rw [if_pos (.inr ⟨e2, back.1⟩), if_pos (.inl (by omega))]
  · by_cases c : tileOf w t i < k
    · rw [if_pos (.inl c), if_pos (.inl (by omega))]
    · rw [if_neg (fun z => z.elim c (fun y => e2 y.1)), if_neg (fun z => z.elim (fun y => by omega) (fun y => by omega))]
end
theorem seen_all {w h t : Nat} (hw : 0 < w) (ht : 0 < t) : seenV w h t (ac w t * ac h t) 0 = List.replicate (w * h) 1 := by
  unfold seenV
  refine List.eq_replicate_iff.mpr ⟨by rw [List.length_map, List.length_range], fun b hb => ?_⟩
  obtain ⟨n, hn, rfl⟩ := List.mem_map.mp hb
  have := tile_lt (t := t) hw ht (List.mem_range.mp hn)
  unfold sv
  rw [if_pos (.inl this)]
/-- all that stands but one object stands -/
def Off (s : Addr) (H H' : Hp) : Prop := ∀ a o, H a = some o → a ≠ s → H' a = some o
theorem Off.of {s : Addr} {H H' : Hp} (e : Same H H') : Off s H H' := fun a o h _ => e a o h
theorem Off.trans {s : Addr} {H H1 H2 : Hp} (e : Off s H H1) (f : Off s H1 H2) : Off s H H2 := fun a o h n => f a o (e a o h n) n
theorem Off.up {s : Addr} {H H' : Hp} {o : HO} (e : Off s H H') : Off s H (upd H' s o) := fun a u h n => by rw [upd_ne n]; exact e a u h n
end Gd

/-! max(xs, default=d) -/
namespace Mx
open PySem PySem.Spec PyProof.Rows
section
variable {prog : Program} {w : World} {A : Around} {R : Result → Shared → Prop} {I : Addr} {fp wr : List Addr} {n : Nat} {P : Nat → Value → Prop} {St : Nat → Heap → Prop} {d : Value}
/-- the best so far, as the loop holds it: nothing, or the item twice -/
def Held (bt : Nat → Nat → Bool) (P : Nat → Value → Prop) (j : Nat) (z : Array Value) : Prop := (j = 0 ∧ z = #[]) ∨ ∃ i v, j = i + 1 ∧ z = #[v, v] ∧ P (argBest bt i) v
def lst_ (z : Array Value) (c : Nat) : Obj := { cls := .type "list", dict := none, data := .seq z c, slots := #[] }
theorem go (W : Walks prog w A.in1 I fp wr n P St) (bt : Nat → Nat → Bool) (hc : CmpOf prog w A.in1 .Gt P bt) (B : Addr) (hB : B ∉ fp) :
    ∀ (k j : Nat) (s : Shared) (z : Array Value) (c : Nat), n - j = k → j ≤ n → St j s.heap → Held bt P j z → s.heap.get? B = some (lst_ z c) →
    (∀ v h' tk, ((n = 0 ∧ v = d) ∨ (0 < n ∧ P (argBest bt (n - 1)) v)) → (∀ b o, b ∉ wr → b ≠ B → s.heap.get? b = some o → h'.get? b = some o) → R (.ok (.ret v)) { s with heap := h', toks := tk }) →
    codeAny (model prog w) A (.builtin "max.loop" ⟨[.ref I, .none, .ref B], [(Str.ofString "default", d)]⟩) R s := by
  have hw : B ∉ wr := fun h => hB (W.sub _ h)
  have nm : (toString "max" ++ toString ".loop" : String) = "max.loop" := by decide
  intro k
  induction k with
  | zero =>
    intro j s z c hk hj hst hh g hR
    have hin : j = n := by omega
    subst hin
    refine codeAny_builtin F.entry_max_loop ?_
    rw [Around.under_plainId F.plain_max_loop _]
    show wpAny _ A.in1 (seqItems? (.ref B) >>= _) _ _ s
    refine wpAny_bind (wpAny_seqItems g rfl ?_)
    show wpAny _ A.in1 (tryCatch (pyNext (.ref I)) _ >>= _) _ _ s
    refine wpAny_bind (wpAny_tryCatch (W.done s _ _ hst fun h' tk kp => ?_))
    have g' := kp B _ hw g
    rcases hh with ⟨h0, rfl⟩ | ⟨i, v, rfl, rfl, hv⟩
    · show wpAny _ A.in1 (rule "max.default" >>= fun _ => ret d) _ _ _
      refine wpAny_bind (wpAny_rule ?_)
      refine wpAny_pure ?_
      exact hR d h' tk (.inl ⟨h0, rfl⟩) fun b o hb _ e => kp b o hb e
    · show wpAny _ A.in1 (updateSeq B (fun _ => #[]) >>= _) _ _ _
      refine wpAny_bind ?_
      refine wpAny_updateSeq g' rfl (wpAny_bind (wpAny_letGo (wpAny_pure ?_)))
      exact hR v _ tk (.inr ⟨by omega, hv⟩) fun b o hb hbB e => (Heap.get?_update_other _ _ (Ne.symm hbB)).trans (kp b o hb e)
  | succ k ih =>
    intro j s z c hk hj hst hh g hR
    have hlt : j < n := by omega
    refine codeAny_builtin F.entry_max_loop ?_
    rw [Around.under_plainId F.plain_max_loop _]
    show wpAny _ A.in1 (seqItems? (.ref B) >>= _) _ _ s
    refine wpAny_bind (wpAny_seqItems g rfl ?_)
    show wpAny _ A.in1 (tryCatch (pyNext (.ref I)) _ >>= _) _ _ s
    refine wpAny_bind (wpAny_tryCatch (W.item j s _ _ hlt hst fun v h' tk hP hst' kp => ?_))
    have g' := kp B _ hw g
    rcases hh with ⟨h0, rfl⟩ | ⟨i, u, rfl, rfl, hu⟩
    · subst h0
      show wpAny _ A.in1 (updateSeq B (fun _ => #[v, v]) >>= _) _ _ _
      refine wpAny_bind ?_
      refine wpAny_updateSeq g' rfl ?_
      rw [nm]
      refine wpAny_pure ⟨plainId_quiet F.plain_max_loop _, ih 1 _ _ _ (by omega) hlt (W.frame _ _ _ hst' fun b hbf o e => ?_) (.inr ⟨0, v, rfl, rfl, hP⟩) (Heap.get?_update_self _ g' rfl) fun v' h'' tk'' hP' k'' => ?_⟩
      · exact (Heap.get?_update_other _ _ (fun q : B = b => hB (by rw [q]; exact hbf))).trans e
      · exact hR v' h'' tk'' hP' fun b o hb hbB e => k'' b o hb hbB ((Heap.get?_update_other _ _ (Ne.symm hbB)).trans (kp b o hb e))
    show wpAny _ A.in1 (tryCatch (holding [v, v] (richCompare .Gt v u >>= _)) _ >>= _) _ _ _
    refine wpAny_bind (wpAny_tryCatch (wpAny_holding (wpAny_bind (hc (i + 1) (argBest bt i) v u _ _ _ hP hu ?_))))
    refine wpAny_bind (wpAny_holding (wpAny_truthy_bool ?_))
    refine wpAny_bind (wpAny_letGo (wpAny_pure ?_))
    cases hb : bt (i + 1) (argBest bt i) with
    | true =>
      simp only [if_true]
      refine wpAny_bind ?_
      refine wpAny_updateSeq g' rfl (wpAny_bind (wpAny_letGo ?_))
      rw [nm]
      refine wpAny_pure ⟨plainId_quiet F.plain_max_loop _, ih (i + 1 + 1) _ _ _ (by omega) hlt (W.frame _ _ _ hst' fun b hbf o e => ?_) (.inr ⟨i + 1, v, rfl, rfl, by simp only [argBest, hb, if_true]; exact hP⟩) (Heap.get?_update_self _ g' rfl) fun v' h'' tk'' hP' k'' => ?_⟩
      · exact (Heap.get?_update_other _ _ (fun q : B = b => hB (by rw [q]; exact hbf))).trans e
      · exact hR v' h'' tk'' hP' fun b o hb hbB e => k'' b o hb hbB ((Heap.get?_update_other _ _ (Ne.symm hbB)).trans (kp b o hb e))
    | false =>
      simp only [Bool.false_eq_true, if_false]
      refine wpAny_bind (wpAny_letGo ?_)
      rw [nm]
      refine wpAny_pure ⟨plainId_quiet F.plain_max_loop _, ih (i + 1 + 1) _ _ c (by omega) hlt hst' (.inr ⟨i + 1, u, rfl, rfl, by simp only [argBest, hb, Bool.false_eq_true, if_false]; exact hu⟩) g' fun v' h'' tk'' hP' k'' => ?_⟩
      exact hR v' h'' tk'' hP' fun b o hb hbB e => k'' b o hb hbB (kp b o hb e)
end
theorem args_def (a v : Value) : argsOk "max" ⟨[a], [(Str.ofString "default", v)]⟩ := by unfold argsOk; kernel_rfl
section
variable {prog : Program} {w : World} {A : Around} {E : Value → Shared → Prop} {s : Shared} {l : Addr} {xs : Array (Int × Tok)} {d : Value}
theorem maxDef {Q : Value → Shared → Prop} (hh : A.handled = none) (hl : s.heap.IsList l (intItems xs))
    (h : ∀ v h' tk, ((xs.size = 0 ∧ v = d) ∨ (0 < xs.size ∧ (intItems xs)[argBest (fun i j => decide (numAt xs i > numAt xs j)) (xs.size - 1)]? = some v)) → (∀ b o, s.heap.get? b = some o → h'.get? b = some o) → Q v { s with heap := h', toks := tk }) :
    wpAny (model prog w) A (call (.builtin "max") [.ref l] [(Str.ofString "default", d)]) Q E s := by
  have nm : (toString "max" ++ toString ".loop" : String) = "max.loop" := by decide
  have hsz : (intItems xs).size = xs.size := by simp [intItems]
  refine kmk_tree F.kind_max F.plain_max F.entry_max (args_def _ _) ?_
  show wpAny _ A.in1 (Builtin.Builtins.bindParams "max" ["key", "default"] 0 ⟨[], [(Str.ofString "default", d)]⟩ >>= _) _ _ s
  refine wpAny_bind (wpAny_of_eq (show Builtin.Builtins.bindParams "max" ["key", "default"] 0 ⟨[], [(Str.ofString "default", d)]⟩ = pure [none, some d] from rfl) ?_)
  refine wpAny_bind (wpAny_pure ?_)
  refine wpAny_bind (iter_intList hl fun s₂ e st hfp hlI => ?_)
  subst e
  refine wpAny_bind (wpAny_newObj_type ?_)
  rw [nm]
  have W := Walks.list (prog := prog) (w := w) (A := A.in1) hh _ l hlI (intItems xs)
  have hSf : (s.heap.push { cls := .type "list_iterator", data := .fields #[.ref l, .int 0 0] }).objs.size ∉ [s.heap.objs.size, l] := fun hm => Nat.lt_irrefl _ (hfp _ hm)
  refine wpAny_pure ⟨plainId_quiet F.plain_max_loop _, go W _ (CmpOf.ints_gt (numAt xs) (fun _ _ => intItems_at)) _ hSf _ 0 _ #[] 0 rfl (Nat.zero_le _) (W.frame _ _ _ st fun b _ o e => Heap.get?_push_of_some _ e) (.inl ⟨rfl, rfl⟩) (Heap.get?_push_size _ rfl) fun v h' tk hv kp => ?_⟩
  rw [hsz] at hv
  refine h v h' tk hv (old_kept fun b o hb e => kp b o hb (fun q => ?_) (Heap.get?_push_of_some _ e))
  exact absurd (q ▸ Heap.lt_size e) (Nat.lt_irrefl _)
end
end Mx
namespace Mx
open PySem L2 PyProof.Rows
variable {X : Cx}
def rMaxDef (K : PySem.W.Frag) : List V → List V → Hp → VK → Prop := fun vs zs H Q => ∃ (a : Addr) (ns : List Int) (z : Int), vs = [V.ref a] ∧ zs = [V.int z] ∧ SqL K H a (ns.map V.int) ∧ (ns = [] → Q (.int z) H) ∧ ∀ m, m ∈ ns → (∀ y, y ∈ ns → y ≤ m) → Q (.int m) H
theorem cr_maxDef (hc : X.calm = true) : CallRK X (.builtin "max") [Str.ofString "default"] (rMaxDef X.K) := by
  intro pins s σ H vs zs us ws Q I r rz h
  obtain ⟨a, ns, z, rfl, rfl, hs, q0, q⟩ := h
  obtain ⟨its, rv, hl, _⟩ := I.list hs
  obtain rfl := Vals.ref1 r
  obtain ⟨w1, rfl, e1⟩ := vals1 rz
  obtain ⟨t0, rfl⟩ : ∃ t, w1 = Value.int z t := e1
  have hi := rv.ints
  obtain ⟨xs, e⟩ := hi.allInts.items
  have hn : numsOf (intItems xs).toList = ns := by rw [← e]; exact hi.numsOf
  rw [nums_intItems] at hn
  have hl' := hl.isList
  rw [e] at hl'
  subst hn
  refine maxDef (I.ok.hd hc) hl' fun v h' tk hv kp => ?_
  rcases hv with ⟨h0, rfl⟩ | ⟨h0, hv⟩
  · refine ⟨.int z, H, I.kept kp, ⟨_, rfl⟩, q0 ?_⟩
    rw [List.map_eq_nil_iff, ← List.length_eq_zero_iff, Array.length_toList]; exact h0
  · obtain ⟨t, rfl⟩ := intItems_at hv
    obtain ⟨h1, h2⟩ := argBest_gt (numAt xs) (xs.size - 1)
    refine ⟨.int _, H, I.kept kp, ⟨_, rfl⟩, q _ ?_ fun y hy => ?_⟩
    · rw [numAt_eq]; exact PySem.getD_mem (by rw [List.length_map, Array.length_toList]; omega)
    · obtain ⟨j, hj, rfl⟩ := mem_getD hy
      rw [List.length_map, Array.length_toList] at hj
      rw [← numAt_eq]; exact h2 j (by omega)
section
variable {K : PySem.W.Frag} {σ : L2.St} {H : Hp} {Q : VK} {tr tk : TA}
def KwP (r : List V → List V → Hp → VK → Prop) (tk : TA) (vs : List V) (σ : L2.St) (H : Hp) (Q : VK) : Prop := tk σ H fun zs H2 => r vs zs H2 Q
theorem ckw {r : List V → List V → Hp → VK → Prop} (q : tr σ H fun vs H1 => tk σ H1 fun zs H2 => r vs zs H2 Q) : tCKw r tr tk σ H Q := q
theorem maxD {a : Addr} {ns : List Int} {z : Int} (h : SqL K H a (ns.map V.int)) (q0 : ns = [] → Q (.int z) H) (q : ∀ m, m ∈ ns → (∀ y, y ∈ ns → y ≤ m) → Q (.int m) H) : rMaxDef K [.ref a] [.int z] H Q := ⟨a, ns, z, rfl, rfl, h, q0, q⟩
end
end Mx
local macro_rules | `(tactic| walk_at "go1") => `(tactic| (first
  | with_reducible refine Mx.ckw ?_))

namespace Rg
open PySem L2 Gd
/-- the bounds of a frame's numbers -/
structure Dim (w h d c t : Nat) : Prop where
  w1 : 1 ≤ w
  w2 : w ≤ 64
  h1 : 1 ≤ h
  h2 : h ≤ 64
  d1 : 1 ≤ d
  d2 : d ≤ 8
  c1 : c = 1 ∨ c = 3
  t1 : 1 ≤ t
  t2 : t ≤ 16
  sz : w * h * c ≤ 3072
theorem Dim.ok {w h d c t : Nat} (D : Dim w h d c t) : Gd.ac w t ≤ 64 ∧ Gd.ac h t ≤ 64 ∧ 0 < Gd.ac w t ∧ 0 < Gd.ac h t ∧ 0 < Gd.ac w t * Gd.ac h t ∧ Gd.ac w t * Gd.ac h t ≤ 64 * 64 ∧ 1 ≤ c ∧ c ≤ 3 ∧ 0 < w * h ∧ w * h ≤ 64 * 64 := by
  obtain ⟨a1, a2, a3, a4, a5, a6, a7, a8, a9, a10⟩ := D
  have l1 := ac_le (n := w) (t := t) (by omega)
  have l2 := ac_le (n := h) (t := t) (by omega)
  have p1 := ac_pos (n := w) (t := t) (by omega) (by omega)
  have p2 := ac_pos (n := h) (t := t) (by omega) (by omega)
  exact ⟨by omega, by omega, p1, p2, Nat.mul_pos p1 p2, Nat.mul_le_mul (by omega) (by omega), by omega, by omega, Nat.mul_pos (by omega) (by omega), Nat.mul_le_mul a2 a4⟩
/-- the rectangle touches tile k -/
def tch (w h t k : Nat) (l p wd ht : Int) : Bool :=
  !(decide (((k % ac w t * t + sd w t (k % ac w t) : Nat) : Int) ≤ l) || decide (l + wd ≤ ((k % ac w t * t : Nat) : Int))) && !(decide (((k / ac w t * t + sd h t (k / ac w t) : Nat) : Int) ≤ p) || decide (p + ht ≤ ((k / ac w t * t : Nat) : Int)))
def inR (x y : Nat) (l p wd ht : Int) : Bool := decide (l ≤ (x : Int)) && decide ((x : Int) < l + wd) && (decide (p ≤ (y : Int)) && decide ((y : Int) < p + ht))
def tileBox (w h t k : Nat) : Nat := sd h t (k / ac w t) * sd w t (k % ac w t)
theorem tch_iff {w h t k : Nat} {l p wd ht : Int} (ht0 : 0 < t) (hw : 0 < w) (hk : k < ac w t * ac h t) (hwd : 1 ≤ wd) (hht : 1 ≤ ht) :
    tch w h t k l p wd ht = true ↔ ∃ m, m < tileBox w h t k ∧ inR (pix w t k m % w) (pix w t k m / w) l p wd ht = true := by
  have l2 := ac_pos (n := w) (t := t) hw ht0
  have m1 : k % ac w t < ac w t := Nat.mod_lt _ l2
  have m2 : k / ac w t < ac h t := Nat.div_lt_of_lt_mul hk
  have tw := sd_pos (n := w) (t := t) ht0 m1
  have th := sd_pos (n := h) (t := t) ht0 m2
  unfold tch inR tileBox
  constructor
  · intro q
    simp only [Bool.and_eq_true, Bool.not_eq_true', Bool.or_eq_false_iff, decide_eq_false_iff_not] at q
    obtain ⟨⟨q1, q2⟩, q3, q4⟩ := q
    obtain ⟨i, hi1, hi2, hi3⟩ : ∃ i : Nat, i < sd w t (k % ac w t) ∧ l ≤ ((k % ac w t * t + i : Nat) : Int) ∧ ((k % ac w t * t + i : Nat) : Int) < l + wd := by
      generalize k % ac w t * t = X at *
      generalize sd w t (k % ac w t) = W at *
      exact ⟨(l - X).toNat, by omega, by omega, by omega⟩
    obtain ⟨j, hj1, hj2, hj3⟩ : ∃ j : Nat, j < sd h t (k / ac w t) ∧ p ≤ ((k / ac w t * t + j : Nat) : Int) ∧ ((k / ac w t * t + j : Nat) : Int) < p + ht := by
      generalize k / ac w t * t = X at *
      generalize sd h t (k / ac w t) = W at *
      exact ⟨(p - X).toNat, by omega, by omega, by omega⟩
    have hm : j * sd w t (k % ac w t) + i < sd h t (k / ac w t) * sd w t (k % ac w t) := by
      have := Nat.mul_le_mul_right (sd w t (k % ac w t)) (show j + 1 ≤ sd h t (k / ac w t) by omega)
      rw [Nat.succ_mul] at this
      omega
    refine ⟨j * sd w t (k % ac w t) + i, hm, ?_⟩
    obtain ⟨e1, e2⟩ := pix_parts hw ht0 hk hm
    rw [e1, e2]
    have f1 : (j * sd w t (k % ac w t) + i) / sd w t (k % ac w t) = j := by rw [Nat.mul_comm, Nat.mul_add_div tw, Nat.div_eq_of_lt hi1]; rfl
    have f2 : (j * sd w t (k % ac w t) + i) % sd w t (k % ac w t) = i := by rw [Nat.mul_comm, Nat.mul_add_mod, Nat.mod_eq_of_lt hi1]
    rw [f1, f2]
    simp only [Bool.and_eq_true, decide_eq_true_eq]
    exact ⟨⟨hi2, hi3⟩, hj2, hj3⟩
  · rintro ⟨m, hm, q⟩
    obtain ⟨e1, e2⟩ := pix_parts hw ht0 hk hm
    obtain ⟨r1, r2⟩ := rows_of hw ht0 hk hm
    rw [e1, e2] at q
    generalize m / sd w t (k % ac w t) = I at q r1
    generalize m % sd w t (k % ac w t) = J at q r2
    simp only [Bool.and_eq_true, decide_eq_true_eq] at q
    simp only [Bool.and_eq_true, Bool.not_eq_true', Bool.or_eq_false_iff, decide_eq_false_iff_not]
    omega
/-- a region's numbers -/
def Reg (r : List Int) : Prop := ∃ l p wd ht b : Int, r = [l, p, wd, ht, b] ∧ 0 ≤ l ∧ 0 ≤ p ∧ 1 ≤ wd ∧ 1 ≤ ht ∧ 0 ≤ b
def hit (w h t k : Nat) (r : List Int) : Bool := tch w h t k (r.getD 0 0) (r.getD 1 0) (r.getD 2 0) (r.getD 3 0)
def mx (ns : List Int) : Int := ns.foldl max 0
theorem mx_ge : ∀ (ns : List Int) (a : Int), a ≤ ns.foldl max a ∧ ∀ y ∈ ns, y ≤ ns.foldl max a
  | [], a => ⟨Int.le_refl _, fun y h => nomatch h⟩
  | x :: ns, a => by
    obtain ⟨h1, h2⟩ := mx_ge ns (max a x)
    refine ⟨Int.le_trans (Int.le_max_left a x) h1, fun y hy => ?_⟩
    rcases List.mem_cons.mp hy with rfl | hy
    · exact Int.le_trans (Int.le_max_right a y) h1
    · exact h2 y hy
theorem mx_mem : ∀ (ns : List Int) (a : Int), ns.foldl max a = a ∨ ns.foldl max a ∈ ns
  | [], a => .inl rfl
  | x :: ns, a => by
    rcases mx_mem ns (max a x) with h | h
    · show List.foldl max (max a x) ns = a ∨ _
      rw [h]
      rcases Int.le_total a x with c | c
      · rw [Int.max_eq_right c]
        right
        show List.foldl max (max a x) ns ∈ _
        rw [h, Int.max_eq_right c]; exact List.mem_cons_self
      · rw [Int.max_eq_left c]; exact .inl rfl
    · exact .inr (List.mem_cons_of_mem _ h)
theorem mx_of {ns : List Int} {m : Int} (hn : ∀ y ∈ ns, 0 ≤ y) (h1 : m ∈ ns) (h2 : ∀ y ∈ ns, y ≤ m) : m = mx ns := by
  have a := (mx_ge ns 0).2 m h1
  rcases mx_mem ns 0 with e | e
  · have := hn m h1
    show m = List.foldl max 0 ns
    have e' : List.foldl max 0 ns = 0 := e
    rw [e'] at a ⊢
    omega
  · have := h2 _ e
    show m = List.foldl max 0 ns
    omega
theorem mx_of0 {ns : List Int} {m : Int} (hn : ∀ y ∈ ns, 0 ≤ y) (h1 : m ∈ 0 :: ns) (h2 : ∀ y ∈ (0 : Int) :: ns, y ≤ m) : m = mx ns := by
  rcases List.mem_cons.mp h1 with rfl | h1
  · have h3 : ∀ y ∈ ns, y ≤ 0 := fun y hy => h2 y (List.mem_cons_of_mem _ hy)
    rcases mx_mem ns 0 with e | e
    · exact e.symm
    · have := h3 _ e
      have := hn _ e
      show (0 : Int) = List.foldl max 0 ns
      omega
  · exact mx_of hn h1 fun y hy => h2 y (List.mem_cons_of_mem _ hy)
theorem mx_nonneg (ns : List Int) : 0 ≤ mx ns := (mx_ge ns 0).1
def bvals (w h t : Nat) (rs : List (List Int)) (k : Nat) : List Int := (rs.filter (hit w h t k)).map fun r => r.getD 4 0
def bst (w h t : Nat) (rs : List (List Int)) (k : Nat) : Int := mx (bvals w h t rs k)
theorem bvals_nn {w h t k : Nat} {rs : List (List Int)} (hr : ∀ r ∈ rs, Reg r) : ∀ y ∈ bvals w h t rs k, 0 ≤ y := fun y hy => by
  unfold bvals at hy
  obtain ⟨r, h1, rfl⟩ := List.mem_map.mp hy
  obtain ⟨l, p, wd, ht, b, rfl, h⟩ := hr r (List.mem_filter.mp h1).1
  exact h.2.2.2.2
theorem range_get {α : Type} (rs : List α) (z : α) : (List.range rs.length).map (fun j => rs.getD j z) = rs := by
  refine List.ext_getElem (by simp) fun i h1 h2 => ?_
  rw [List.getElem_map, List.getElem_range, List.getD_eq_getElem?_getD, List.getElem?_eq_getElem h2]; rfl
theorem bvals_range (w h t : Nat) (rs : List (List Int)) (k : Nat) : ((List.range rs.length).filter (fun j => hit w h t k (rs.getD j []))).map (fun j => V.int ((rs.getD j []).getD 4 0)) = (bvals w h t rs k).map V.int := by
  unfold bvals
  have e := range_get rs []
  conv => rhs; rw [← e]
  rw [List.filter_map, List.map_map, List.map_map]
  rfl
/-- a list of regions stands at l -/
def RL (H : Hp) (l : Addr) (rs : List (List Int)) : Prop := Gx.TL H l rs.length (fun j => rs.getD j [])
theorem RL.keep {H H' : Hp} {l : Addr} {rs : List (List Int)} (x : RL H l rs) (s : Same H H') : RL H' l rs := Gx.TL.keep x s
theorem RL.all {H : Hp} {l : Addr} {rs : List (List Int)} (x : RL H l rs) : ∃ xs, H l = some (.lst xs) ∧ xs.length = rs.length ∧ ∀ j v, xs[j]? = some v → ∃ a, v = .ref a ∧ j < rs.length ∧ H a = some (.tup ((rs.getD j []).map V.int)) := by
  obtain ⟨ps, h1, h2, h3⟩ := x
  refine ⟨_, h1, by rw [List.length_map]; exact h2, fun j v e => ?_⟩
  rw [List.getElem?_map] at e
  cases ea : ps[j]? with
  | none => rw [ea] at e; cases e
  | some a =>
    rw [ea] at e
    have hj := (List.getElem?_eq_some_iff.mp ea).1
    exact ⟨a, (Option.some.inj e).symm, by omega, h3 j a ea⟩
theorem getD_mem {rs : List (List Int)} {j : Nat} (h : j < rs.length) : rs.getD j [] ∈ rs := by
  rw [List.getD_eq_getElem?_getD, List.getElem?_eq_getElem h]; exact List.getElem_mem h
def RegB (r : List Int) : Prop := ∃ l p wd ht b : Int, r = [l, p, wd, ht, b] ∧ (0 ≤ l ∧ l ≤ 63) ∧ (0 ≤ p ∧ p ≤ 63) ∧ (1 ≤ wd ∧ wd ≤ 64) ∧ (1 ≤ ht ∧ ht ≤ 64) ∧ 0 ≤ b ∧ b ≤ 16
theorem RegB.reg {r : List Int} (h : RegB r) : Reg r := by
  obtain ⟨l, p, wd, ht, b, e, h1, h2, h3, h4, h5⟩ := h
  exact ⟨l, p, wd, ht, b, e, h1.1, h2.1, h3.1, h4.1, h5.1⟩
/-- references told by their rows -/
def RR (H : Hp) (xs : List V) (rs : List (List Int)) : Prop := ∃ ps : List Addr, xs = ps.map V.ref ∧ ps.length = rs.length ∧ ∀ j a, ps[j]? = some a → H a = some (.tup ((rs.getD j []).map V.int))
section
variable {H H' : Hp} {xs ys : List V} {rs qs : List (List Int)} {l : Addr}
theorem RR.keep (x : RR H xs rs) (s : Same H H') : RR H' xs rs := by
  obtain ⟨ps, h1, h2, h3⟩ := x
  exact ⟨ps, h1, h2, fun j a e => s _ _ (h3 j a e)⟩
theorem RR.len (x : RR H xs rs) : xs.length = rs.length := by
  obtain ⟨ps, rfl, h2, h3⟩ := x
  rw [List.length_map]; exact h2
theorem RR.app (x : RR H xs rs) (y : RR H ys qs) : RR H (xs ++ ys) (rs ++ qs) := by
  obtain ⟨ps, h1, h2, h3⟩ := x
  obtain ⟨zs, g1, g2, g3⟩ := y
  refine ⟨ps ++ zs, by rw [h1, g1, List.map_append], by rw [List.length_append, List.length_append]; omega, fun j a e => ?_⟩
  rcases Nat.lt_or_ge j ps.length with z | z
  · rw [List.getElem?_append_left z] at e
    rw [List.getD_eq_getElem?_getD, List.getElem?_append_left (by omega), ← List.getD_eq_getElem?_getD]
    exact h3 j a e
  · rw [List.getElem?_append_right z] at e
    rw [List.getD_eq_getElem?_getD, List.getElem?_append_right (by omega), ← List.getD_eq_getElem?_getD, ← h2]
    exact g3 _ a e
theorem RR.one {a : Addr} {r : List Int} (h : H a = some (.tup (r.map V.int))) : RR H [.ref a] [r] := ⟨[a], rfl, rfl, fun j b e => by
  cases j with
  | zero => cases e; exact h
  | succ j => cases e⟩
theorem RR.take (x : RR H xs rs) (n : Nat) : RR H (xs.take n) (rs.take n) := by
  obtain ⟨ps, h1, h2, h3⟩ := x
  refine ⟨ps.take n, by rw [h1, List.map_take], by rw [List.length_take, List.length_take, h2], fun j a e => ?_⟩
  rw [List.getElem?_take] at e
  by_cases hj : j < n
  · rw [if_pos hj] at e
    rw [List.getD_eq_getElem?_getD, List.getElem?_take_of_lt hj, ← List.getD_eq_getElem?_getD]
    exact h3 j a e
  · rw [if_neg hj] at e; cases e
theorem RR.drop (x : RR H xs rs) (n : Nat) : RR H (xs.drop n) (rs.drop n) := by
  obtain ⟨ps, h1, h2, h3⟩ := x
  refine ⟨ps.drop n, by rw [h1, List.map_drop], by rw [List.length_drop, List.length_drop, h2], fun j a e => ?_⟩
  rw [List.getElem?_drop] at e
  rw [List.getD_eq_getElem?_getD, List.getElem?_drop, ← List.getD_eq_getElem?_getD]
  exact h3 _ a e
theorem RR.rl (h : H l = some (.lst xs)) (x : RR H xs rs) : RL H l rs := by
  obtain ⟨ps, rfl, h2, h3⟩ := x
  exact ⟨ps, h, h2, h3⟩
theorem RL.rr (x : RL H l rs) : ∃ xs, H l = some (.lst xs) ∧ RR H xs rs := by
  obtain ⟨ps, h1, h2, h3⟩ := x
  exact ⟨_, h1, ps, rfl, h2, h3⟩
theorem RR.rep {a : Addr} {r : List Int} (n : Nat) (h : H a = some (.tup (r.map V.int))) : RR H (List.replicate n (.ref a)) (List.replicate n r) := by
  refine ⟨List.replicate n a, by rw [List.map_replicate], by simp, fun j b e => ?_⟩
  rw [List.getElem?_replicate] at e
  by_cases hj : j < n
  · rw [if_pos hj] at e
    cases e
    rw [List.getD_eq_getElem?_getD, List.getElem?_replicate, if_pos hj]; exact h
  · rw [if_neg hj] at e; cases e
end
def RegsOk (rs : List (List Int)) : Prop := rs.length ≤ 16 ∧ ∀ r ∈ rs, RegB r
end Rg
namespace Gx
open PySem L2
theorem c_maxL {X : Cx} {K : PySem.W.Frag} (h : X.K = K) (hc : X.calm = true) : CallR X (.builtin "max") (L2.rMax K) := by subst h; exact cr_max hc
theorem c_minL {X : Cx} {K : PySem.W.Frag} (h : X.K = K) (hc : X.calm = true) : CallR X (.builtin "min") (L2.rMin K) := by subst h; exact cr_min hc
theorem maxL {K : PySem.W.Frag} {p : Addr} {ns : List Int} {H : Hp} {Q : VK} (h : SqL K H p (ns.map V.int)) (hn : 0 < ns.length) (q : ∀ m, m ∈ ns → (∀ y, y ∈ ns → y ≤ m) → Q (.int m) H) : L2.rMax K [.ref p] H Q := ⟨p, ns, rfl, h, hn, q⟩
end Gx

namespace Pl
open PySem L2 Gd Rg
/-- those of l by descending scores below M, the order of l within -/
def down (sc : Nat → Int) (l : List Nat) : Nat → List Nat
  | 0 => []
  | M + 1 => l.filter (fun k => decide (sc k = (M : Int))) ++ down sc l M
theorem down_sub {sc : Nat → Int} {l : List Nat} : ∀ {M : Nat} {x : Nat}, x ∈ down sc l M → x ∈ l ∧ 0 ≤ sc x ∧ sc x < M
  | 0, x, h => nomatch h
  | M + 1, x, h => by
    rcases List.mem_append.mp h with h | h
    · have := List.mem_filter.mp h
      have e := of_decide_eq_true this.2
      exact ⟨this.1, by omega, by omega⟩
    · have := down_sub h
      exact ⟨this.1, this.2.1, by omega⟩
theorem down_filter {sc : Nat → Int} {l : List Nat} {p : Nat → Bool} : ∀ {M : Nat}, (∀ k, sc k < M → p k = true) → down sc (l.filter p) M = down sc l M
  | 0, _ => rfl
  | M + 1, h => by
    unfold down
    rw [down_filter (M := M) fun k hk => h k (by omega), List.filter_filter]
    congr 1
    refine List.filter_congr fun k _ => ?_
    by_cases e : sc k = (M : Int)
    · rw [decide_eq_true e, h k (by omega)]; rfl
    · rw [decide_eq_false e]; rfl
theorem down_perm {sc : Nat → Int} : ∀ {M : Nat} {l : List Nat}, (∀ k ∈ l, 0 ≤ sc k ∧ sc k < M) → (down sc l M).Perm l
  | 0, [], _ => List.Perm.refl _
  | 0, k :: l, h => by have := h k List.mem_cons_self; omega
  | M + 1, l, h => by
    unfold down
    rw [← down_filter (p := fun k => !decide (sc k = (M : Int))) (M := M) fun k hk => by rw [decide_eq_false (by omega)]; rfl]
    have ih := down_perm (sc := sc) (M := M) (l := l.filter fun k => !decide (sc k = (M : Int))) fun k hk => by
      obtain ⟨h1, h2⟩ := List.mem_filter.mp hk
      have := h k h1
      have n : ¬ sc k = (M : Int) := by simpa using h2
      omega
    exact (List.Perm.append_left _ ih).trans (List.filter_append_perm _ l)
def le (sc : Nat → Int) (a b : Nat) : Prop := sc b < sc a ∨ (sc a = sc b ∧ a ≤ b)
theorem down_sorted {sc : Nat → Int} {l : List Nat} (hl : l.Pairwise (· < ·)) : ∀ {M : Nat}, (down sc l M).Pairwise (le sc)
  | 0 => List.Pairwise.nil
  | M + 1 => by
    unfold down
    refine List.pairwise_append.mpr ⟨?_, down_sorted hl, fun a ha b hb => ?_⟩
    · refine List.Pairwise.imp_of_mem ?_ (hl.sublist (List.filter_sublist))
      intro a b ha hb hab
      have e1 := of_decide_eq_true (List.mem_filter.mp ha).2
      have e2 := of_decide_eq_true (List.mem_filter.mp hb).2
      exact .inr ⟨by omega, by omega⟩
    · have e1 := of_decide_eq_true (List.mem_filter.mp ha).2
      have e2 := down_sub hb
      exact .inl (by omega)
theorem down_uniq {sc : Nat → Int} {N M : Nat} (hb : ∀ k, k < N → 0 ≤ sc k ∧ sc k < M) {ns : List Nat} (hp : ns.Perm (List.range N)) (hs : ns.Pairwise (le sc)) : ns = down sc (List.range N) M := by
  refine List.Perm.eq_of_pairwise (le := le sc) (fun a b _ _ h1 h2 => ?_) hs (down_sorted List.pairwise_lt_range) (hp.trans (down_perm fun k hk => hb k (List.mem_range.mp hk)).symm)
  unfold le at h1 h2
  omega
/-- the score of the key with this number; the plan as numbers of keys -/
def sc (w h d c t : Nat) (rs : List (List Int)) (k : Nat) : Int := (ky (ac w t * ac h t) c d k).getD 2 0 + bst w h t rs (k % (ac w t * ac h t))
def pl (w h d c t : Nat) (rs : List (List Int)) : List Nat := down (sc w h d c t rs) (List.range (d * c * (ac w t * ac h t))) (d + 17)
theorem bst_le {w h t k : Nat} {rs : List (List Int)} (hr : ∀ r ∈ rs, RegB r) : 0 ≤ bst w h t rs k ∧ bst w h t rs k ≤ 16 := by
  refine ⟨mx_nonneg _, ?_⟩
  rcases mx_mem (bvals w h t rs k) 0 with e | e
  · show List.foldl max 0 _ ≤ 16
    rw [e]; decide
  · unfold bvals at e
    obtain ⟨r, h1, h2⟩ := List.mem_map.mp e
    obtain ⟨l, p, wd, ht, b, rfl, h3⟩ := hr r (List.mem_filter.mp h1).1
    show List.foldl max 0 _ ≤ 16
    unfold bvals
    rw [← h2]
    exact h3.2.2.2.2.2
theorem ky_two {T c d k : Nat} (hc : 0 < c) (hd : 0 < d) (hT : 0 < T) (hk : k < d * c * T) : ∃ pln : Nat, pln < d ∧ (ky T c d k).getD 2 0 = (pln : Int) := by
  have h1 : k / T < d * c := Nat.div_lt_of_lt_mul (by rw [Nat.mul_comm]; exact hk)
  have h2 : k / T / c < d := Nat.div_lt_of_lt_mul (by rw [Nat.mul_comm]; exact h1)
  refine ⟨d - 1 - k / T / c, Nat.lt_of_le_of_lt (Nat.sub_le _ _) (by omega), ?_⟩
  rw [ky_at hc]
  generalize k / T / c = u at *
  show (d : Int) - 1 - (u : Int) = _
  omega
theorem sc_bd {w h d c t : Nat} {rs : List (List Int)} (D : Dim w h d c t) (hr : ∀ r ∈ rs, RegB r) (k : Nat) (hk : k < d * c * (ac w t * ac h t)) : 0 ≤ sc w h d c t rs k ∧ sc w h d c t rs k < ((d + 17 : Nat) : Int) := by
  obtain ⟨l1, l2, l3, l4, l5, l6, l7⟩ := D.ok
  obtain ⟨p, hp, e⟩ := ky_two (by omega) D.d1 l5 hk
  have b := bst_le (w := w) (h := h) (t := t) (k := k % (ac w t * ac h t)) hr
  unfold sc
  rw [e]
  omega
theorem pl_len {w h d c t : Nat} {rs : List (List Int)} (D : Dim w h d c t) (hr : ∀ r ∈ rs, RegB r) : (pl w h d c t rs).length = d * c * (ac w t * ac h t) := by
  have := (down_perm (sc := sc w h d c t rs) (M := d + 17) (l := List.range (d * c * (ac w t * ac h t))) fun k hk => sc_bd D hr k (List.mem_range.mp hk)).length_eq
  rw [List.length_range] at this
  exact this
theorem pl_mem {w h d c t : Nat} {rs : List (List Int)} {k : Nat} (hm : k ∈ pl w h d c t rs) : k < d * c * (ac w t * ac h t) := List.mem_range.mp (down_sub hm).1
theorem pl_nil {w h d c t : Nat} (D : Dim w h d c t) : pl w h d c t [] = List.range (d * c * (ac w t * ac h t)) := by
  obtain ⟨l1, l2, l3, l4, l5, l6, l7⟩ := D.ok
  refine (down_uniq (sc_bd (rs := []) D fun r hr => nomatch hr) (List.Perm.refl _) ?_).symm
  refine List.Pairwise.imp ?_ List.pairwise_lt_range
  intro a b hab
  have e : ∀ k, sc w h d c t [] k = (d : Int) - 1 - ((k / (ac w t * ac h t) / c : Nat) : Int) := fun k => by
    unfold sc
    rw [ky_at (by omega)]
    show _ + (0 : Int) = _
    rw [Int.add_zero]; rfl
  unfold le
  rw [e, e]
  have h1 : a / (ac w t * ac h t) / c ≤ b / (ac w t * ac h t) / c := Nat.div_le_div_right (Nat.div_le_div_right (by omega))
  generalize a / (ac w t * ac h t) / c = u at *
  generalize b / (ac w t * ac h t) / c = v at *
  omega
theorem tl_congr {H : Hp} {l : Addr} {n : Nat} {f g : Nat → List Int} (x : Gx.TL H l n f) (e : ∀ j, j < n → f j = g j) : Gx.TL H l n g := by
  obtain ⟨ps, h1, h2, h3⟩ := x
  refine ⟨ps, h1, h2, fun j a ea => ?_⟩
  have hj := (List.getElem?_eq_some_iff.mp ea).1
  rw [← e j (by omega)]; exact h3 j a ea
/-- the pair at a reference -/
def kk (H : Hp) (v : V) : Int × Int := match v with
  | .ref a => match H a with
    | some (.tup [.int i, .int j]) => (i, j)
    | _ => (0, 0)
  | _ => (0, 0)
theorem kk_of {H : Hp} {a : Addr} {i j : Int} (h : H a = some (.tup [.int i, .int j])) : kk H (.ref a) = (i, j) := by
  unfold kk
  simp only [h]
theorem sort_pl {H : Hp} {w h d c t : Nat} {rs : List (List Int)} (D : Dim w h d c t) (hr : ∀ r ∈ rs, RegB r) {ps : List Addr} {ys : List V} (hl : ps.length = d * c * (ac w t * ac h t)) (hp : ∀ (j : Nat) (a : Addr), ps[j]? = some a → H a = some (.tup [.int (-(sc w h d c t rs j)), .int (j : Int)]))
    (hs : SrtO.Srtd (ltP (kk H)) ys) (hperm : ys.Perm (ps.map V.ref)) : ys.length = d * c * (ac w t * ac h t) ∧ ∀ j y, ys[j]? = some y → ∃ a i, y = .ref a ∧ H a = some (.tup [.int i, .int (((pl w h d c t rs).getD j 0 : Nat) : Int)]) := by
  have mem : ∀ y ∈ ys, ∃ a n : Nat, y = V.ref a ∧ H a = some (.tup [.int (-(sc w h d c t rs n)), .int (n : Int)]) := fun y hy => by
    obtain ⟨a, ha, rfl⟩ := List.mem_map.mp (hperm.mem_iff.mp hy)
    obtain ⟨j, hj⟩ := List.getElem?_of_mem ha
    exact ⟨a, j, rfl, hp j a hj⟩
  have e1 : ys.map (fun v => (kk H v).2.toNat) = pl w h d c t rs := by
    refine down_uniq (sc_bd D hr) ?_ ?_
    · refine (hperm.map _).trans ?_
      have : (ps.map V.ref).map (fun v => (kk H v).2.toNat) = List.range (d * c * (ac w t * ac h t)) := by
        rw [← hl]
        refine List.ext_getElem (by simp) fun i h1 h2 => ?_
        rw [List.getElem_map, List.getElem_map, List.getElem_range]
        rw [List.length_map, List.length_map] at h1
        rw [kk_of (hp i _ (List.getElem?_eq_getElem h1))]
        rfl
      rw [this]
    · rw [List.pairwise_map]
      refine List.Pairwise.imp_of_mem ?_ hs
      intro a b ha hb hab
      obtain ⟨x, n, rfl, hx⟩ := mem a ha
      obtain ⟨y, m, rfl, hy⟩ := mem b hb
      have := SrtO.lexB_no.mp hab
      rw [kk_of hx, kk_of hy] at this
      rw [kk_of hx, kk_of hy]
      unfold le
      dsimp only at this ⊢
      rw [Int.toNat_natCast, Int.toNat_natCast]
      omega
  refine ⟨by rw [hperm.length_eq, List.length_map, hl], fun j y hj => ?_⟩
  obtain ⟨a, n, rfl, ha⟩ := mem y (List.mem_of_getElem? hj)
  refine ⟨a, -(sc w h d c t rs n), rfl, ?_⟩
  rw [← e1, List.getD_eq_getElem?_getD, List.getElem?_map, hj]
  show H a = some (.tup [.int (-(sc w h d c t rs n)), .int (((kk H (V.ref a)).2.toNat : Nat) : Int)])
  rw [kk_of ha]
  exact ha
def bd (w h d c t : Nat) (rs : List (List Int)) (n : Nat) : Int := if n = d * c * (ac w t * ac h t) then 0 else ((2 ^ (sc w h d c t rs ((pl w h d c t rs).getD n 0)).toNat : Nat) : Int)
theorem sorted_sc {w h d c t : Nat} {rs : List (List Int)} (D : Dim w h d c t) (hr : ∀ r ∈ rs, RegB r) {ns : List Int} (hp : ns.Perm ((List.range (d * c * (ac w t * ac h t))).map (sc w h d c t rs))) (hs : ns.Pairwise (· ≥ ·)) : ns = (pl w h d c t rs).map (sc w h d c t rs) := by
  refine List.Perm.eq_of_pairwise (le := (· ≥ ·)) (fun a b _ _ h1 h2 => Int.le_antisymm h2 h1) hs ?_ (hp.trans ?_)
  · rw [List.pairwise_map]
    refine List.Pairwise.imp ?_ (down_sorted (sc := sc w h d c t rs) (M := d + 17) List.pairwise_lt_range)
    intro a b hab
    unfold le at hab
    show sc w h d c t rs b ≤ sc w h d c t rs a
    omega
  · exact ((down_perm (sc := sc w h d c t rs) (M := d + 17) (l := List.range (d * c * (ac w t * ac h t))) fun k hk => sc_bd D hr k (List.mem_range.mp hk)).map _).symm
end Pl

namespace Gy
open PySem L2
/-- the gray bit of v in plane p -/
def gb (v p : Nat) : Nat := (v / 2 ^ p + v / 2 ^ (p + 1)) % 2
theorem gb_int (v p : Nat) : Builtin.bitAnd (Builtin.bitXor ((v : Int) / 2 ^ (p : Int).toNat) ((v : Int) / 2 ^ ((p : Int) + 1).toNat)) 1 = ((gb v p : Nat) : Int) := by
  have e1 : (p : Int).toNat = p := rfl
  have e2 : ((p : Int) + 1).toNat = p + 1 := by omega
  have c (k : Nat) : (v : Int) / 2 ^ k = ((v / 2 ^ k : Nat) : Int) := by
    rw [Int.natCast_ediv, Int.natCast_pow]; rfl
  rw [e1, e2, c, c, Bits.bitXor_pp (Int.natCast_nonneg _) (Int.natCast_nonneg _), Int.toNat_natCast, Int.toNat_natCast]
  have h := Bits.bitAnd_mask (x := ((v / 2 ^ p ^^^ v / 2 ^ (p + 1) : Nat) : Int)) 1 (Int.natCast_nonneg _)
  rw [show (2 : Int) ^ 1 - 1 = 1 by decide] at h
  rw [h]
  have x := @Nat.xor_mod_two_eq_one (v / 2 ^ p) (v / 2 ^ (p + 1))
  unfold gb
  omega
theorem gb_le (v p : Nat) : gb v p ≤ 1 := by unfold gb; omega
/-- the value of gray bits from the highest plane on -/
def vstep (v g : Nat) : Nat := v * 2 + (g ^^^ v % 2)
def val (gs : List Nat) : Nat := gs.foldl vstep 0
theorem vstep_int (v g : Nat) : (v : Int) * 2 + Builtin.bitXor (g : Int) (Builtin.bitAnd (v : Int) 1) = ((vstep v g : Nat) : Int) := by
  have h := Bits.bitAnd_mask (x := (v : Int)) 1 (Int.natCast_nonneg _)
  rw [show (2 : Int) ^ 1 - 1 = 1 by decide, show (2 : Int) ^ 1 = ((2 : Nat) : Int) by decide, ← Int.natCast_emod] at h
  rw [h, Bits.bitXor_pp (Int.natCast_nonneg _) (Int.natCast_nonneg _), Int.toNat_natCast, Int.toNat_natCast]
  unfold vstep
  omega
theorem val_take {gs : List Nat} {i g : Nat} (h : gs[i]? = some g) : ((val (gs.take (i + 1)) : Nat) : Int) = (val (gs.take i) : Int) * 2 + Builtin.bitXor (g : Int) (Builtin.bitAnd (val (gs.take i) : Int) 1) := by
  rw [vstep_int]
  unfold val
  rw [List.take_add_one, h, List.foldl_append]
  rfl

/-- the gray bits of the planes below n, the highest first -/
def grays (v n : Nat) : List Nat := (List.range n).map fun i => gb v (n - 1 - i)
theorem pw (p : Nat) : (1 : Int) * 2 ^ ((p : Nat) : Int).toNat = ((2 ^ p : Nat) : Int) := by
  rw [Int.toNat_natCast, Int.one_mul, Int.natCast_pow]; rfl
theorem pw1 (p : Nat) : (1 : Int) * 2 ^ ((p : Int) + 1).toNat = ((2 ^ (p + 1) : Nat) : Int) := by
  rw [show ((p : Int) + 1).toNat = p + 1 by omega, Int.one_mul, Int.natCast_pow]; rfl
theorem dw {v : Int} {p : Nat} (h : p ≤ 8000) : CDivW v ((2 ^ p : Nat) : Int) := by
  refine wide_div (b := p + 1) ?_ ?_ (Nat.succ_pos _) (by omega)
  · exact Int.natCast_pos.mpr (Nat.two_pow_pos p)
  · rw [Int.natAbs_natCast]; exact Nat.pow_lt_pow_right (by decide) (Nat.lt_succ_self p)
theorem ne_gb (v p : Nat) : (if (!decide ((v : Int) / ((2 ^ p : Nat) : Int) % 2 = (v : Int) / ((2 ^ (p + 1) : Nat) : Int) % 2)) = true then (1 : Int) else 0) = ((gb v p : Nat) : Int) := by
  rw [← Int.natCast_ediv, ← Int.natCast_ediv]
  unfold gb
  generalize v / 2 ^ p = a
  generalize v / 2 ^ (p + 1) = b
  by_cases h : (a : Int) % 2 = (b : Int) % 2
  · rw [decide_eq_true h]
    simp only [Bool.not_true, Bool.false_eq_true, if_false]
    omega
  · rw [decide_eq_false h]
    simp only [Bool.not_false, if_true]
    omega
theorem grays_succ (v n : Nat) : grays v (n + 1) = gb v n :: grays v n := by
  unfold grays
  rw [List.range_succ_eq_map, List.map_cons, List.map_map]
  refine congr (congrArg List.cons (by simp)) ?_
  refine List.map_congr_left fun i hi => ?_
  show gb v (n + 1 - 1 - (i + 1)) = gb v (n - 1 - i)
  congr 1; omega
theorem xor_bit (a b : Nat) (hb : b ≤ 1) : (b ^^^ a % 2) % 2 = (b + a) % 2 ∧ b ^^^ a % 2 ≤ 1 := by
  have h : a % 2 = 0 ∨ a % 2 = 1 := by omega
  have h2 : b = 0 ∨ b = 1 := by omega
  rcases h with h | h <;> rcases h2 with h2 | h2 <;> subst h2 <;> rw [h] <;> simp <;> omega
theorem half (v n : Nat) : v / 2 ^ (n + 1) = v / 2 ^ n / 2 := by rw [Nat.pow_succ, Nat.div_div_eq_div_mul]
theorem vstep_gb (v n : Nat) : vstep (v / 2 ^ (n + 1)) (gb v n) = v / 2 ^ n := by
  unfold vstep gb
  rw [half]
  generalize v / 2 ^ n = a
  have h := xor_bit (a / 2) ((a + a / 2) % 2) (by omega)
  omega
theorem fold_grays (v : Nat) : ∀ n, (grays v n).foldl vstep (v / 2 ^ n) = v
  | 0 => by simp [grays]
  | n + 1 => by rw [grays_succ, List.foldl_cons, vstep_gb, fold_grays v n]
theorem val_grays {v n : Nat} (h : v < 2 ^ n) : val (grays v n) = v := by
  have e := fold_grays v n
  rw [Nat.div_eq_of_lt h] at e
  exact e
theorem fold_bits : ∀ (bs : List Nat) (u : Nat), (∀ b ∈ bs, b ≤ 1) → (bs.foldl vstep u) / 2 ^ bs.length = u ∧ grays (bs.foldl vstep u) bs.length = bs
  | [], u, _ => by simp [grays]
  | b :: bs, u, h => by
    obtain ⟨h1, h2⟩ := fold_bits bs (vstep u b) fun x hx => h x (List.mem_cons_of_mem _ hx)
    have hb := h b (List.mem_cons_self ..)
    rw [List.foldl_cons, List.length_cons]
    generalize hr : bs.foldl vstep (vstep u b) = r at *
    have x := xor_bit u b hb
    have e1 : r / 2 ^ (bs.length + 1) = u := by
      rw [half, h1]; unfold vstep; omega
    refine ⟨e1, ?_⟩
    rw [grays_succ, h2]
    congr 1
    unfold gb
    rw [e1, h1]; unfold vstep; omega
theorem grays_val {bs : List Nat} (h : ∀ b ∈ bs, b ≤ 1) : val bs < 2 ^ bs.length ∧ grays (val bs) bs.length = bs := by
  obtain ⟨h1, h2⟩ := fold_bits bs 0 h
  refine ⟨?_, h2⟩
  have h3 := (Nat.div_eq_zero_iff.mp h1)
  rcases h3 with h3 | h3
  · have := Nat.two_pow_pos bs.length; omega
  · exact h3
theorem nats_of {xs : List Int} (h : ∀ x ∈ xs, 0 ≤ x ∧ x < 2) : ∃ bs : List Nat, xs = bs.map (fun b : Nat => (b : Int)) ∧ ∀ b ∈ bs, b ≤ 1 := by
  refine ⟨xs.map Int.toNat, ?_, ?_⟩
  · rw [List.map_map]
    conv => lhs; rw [← List.map_id xs]
    refine List.map_congr_left fun x hx => ?_
    have := h x hx
    show x = ((x.toNat : Nat) : Int)
    omega
  · intro b hb
    obtain ⟨x, hx, rfl⟩ := List.mem_map.mp hb
    have := h x hx
    omega
theorem gb_top {v n : Nat} (h : v < 2 ^ n) : gb v n = 0 := by
  unfold gb
  rw [Nat.div_eq_of_lt h, Nat.div_eq_of_lt (Nat.lt_trans h (Nat.pow_lt_pow_right (by decide) (Nat.lt_succ_self n)))]
/-- t is the last place from which v + 1 is whole -/
def Last (v n t : Nat) : Prop := t ≤ n ∧ (v + 1) % 2 ^ t = 0
theorem div_step {v k : Nat} : (v + 1) / 2 ^ k = v / 2 ^ k + if (v + 1) % 2 ^ k = 0 then 1 else 0 := by
  have hp := Nat.two_pow_pos k
  have h1 := Nat.div_add_mod (v + 1) (2 ^ k)
  have h2 := Nat.div_add_mod v (2 ^ k)
  have l1 := Nat.mod_lt (v + 1) hp
  have l2 := Nat.mod_lt v hp
  generalize (v + 1) / 2 ^ k = x at *
  generalize v / 2 ^ k = y at *
  generalize (v + 1) % 2 ^ k = r at *
  generalize v % 2 ^ k = s at *
  generalize 2 ^ k = m at *
  have hx : x = y ∨ x = y + 1 := by
    have c1 : ¬ x < y := fun h => by
      have : m * (x + 1) ≤ m * y := Nat.mul_le_mul_left m h
      rw [Nat.mul_add] at this; omega
    have c2 : ¬ y + 1 < x := fun h => by
      have : m * (y + 1 + 1) ≤ m * x := Nat.mul_le_mul_left m h
      rw [Nat.mul_add, Nat.mul_add] at this; omega
    omega
  rcases hx with hx | hx
  · subst hx
    rw [if_neg (by omega)]; omega
  · subst hx
    rw [Nat.mul_add] at h1
    rw [if_pos (by omega)]
theorem whole_of {a k t : Nat} (h : a % 2 ^ t = 0) (hk : k ≤ t) : a % 2 ^ k = 0 :=
  Nat.mod_eq_zero_of_dvd (Nat.dvd_trans (Nat.pow_dvd_pow 2 hk) (Nat.dvd_of_mod_eq_zero h))
/-- the gray bits of v and v + 1 differ in the plane of the greatest power of 2 that divides v + 1 alone -/
theorem gb_diff {v n t : Nat} (hv : v < 2 ^ n) (h1 : t ≤ n) (h2 : (v + 1) % 2 ^ t = 0) (h3 : t < n → (v + 1) % 2 ^ (t + 1) ≠ 0) (k : Nat) : (gb v k ≠ gb (v + 1) k) ↔ k = t := by
  have h4 : (v + 1) % 2 ^ (t + 1) ≠ 0 := by
    by_cases ht : t < n
    · exact h3 ht
    · have e : t = n := by omega
      subst e
      have hp : 2 ^ (t + 1) = 2 ^ t * 2 := Nat.pow_succ ..
      rw [Nat.mod_eq_of_lt (by omega)]; omega
  unfold gb
  rw [div_step (v := v) (k := k), div_step (v := v) (k := k + 1)]
  by_cases hk : k ≤ t
  · rw [if_pos (whole_of h2 hk)]
    by_cases hk2 : k = t
    · subst hk2
      rw [if_neg h4]
      constructor <;> intro _ <;> omega
    · rw [if_pos (whole_of h2 (show k + 1 ≤ t by omega))]
      constructor <;> intro _ <;> omega
  · have z1 : ¬ (v + 1) % 2 ^ k = 0 := fun z => h4 (whole_of z (by omega))
    have z2 : ¬ (v + 1) % 2 ^ (k + 1) = 0 := fun z => h4 (whole_of z (by omega))
    rw [if_neg z1, if_neg z2]
    constructor <;> intro _ <;> omega
theorem filter_one {n t : Nat} {c : Nat → Bool} (ht : t < n) (h : ∀ k, c k = decide (k = t)) : (List.range n).filter c = [t] := by
  induction n with
  | zero => omega
  | succ n ih =>
    rw [List.range_succ, List.filter_append]
    by_cases e : t < n
    · rw [ih e, List.filter_cons, h, decide_eq_false (by omega)]; rfl
    · have e2 : t = n := by omega
      subst e2
      rw [List.filter_cons, h, decide_eq_true rfl, List.filter_eq_nil_iff.mpr (fun k hk => by rw [h, decide_eq_true_eq]; have := List.mem_range.mp hk; omega)]
      rfl
end Gy

namespace My
open PySem L2
def top (i : Nat) : Stmt := PySem.Challenge.pw_packetpicture_k45_bound_of_a_plan.main.body.getD i (.Pass ⟨0, 0, 0, 0⟩)
abbrev s_Frame_down : Stmt := inClass (top 13) 2
abbrev s_Frame_across : Stmt := inClass (top 13) 1
abbrev s_Frame_tiles : Stmt := inClass (top 13) 3
abbrev s_Frame_packets : Stmt := inClass (top 13) 5
abbrev s_key_at : Stmt := top 17
abbrev s_all_keys : Stmt := top 16
abbrev s_tile_corner : Stmt := top 14
abbrev s_tile_size : Stmt := top 15
abbrev s_touches : Stmt := top 23
abbrev s_boost : Stmt := top 24
abbrev s_all_scores : Stmt := top 25
abbrev s_check_range : Stmt := top 5
abbrev s_check_sides : Stmt := top 21
abbrev s_check_regions : Stmt := top 22
abbrev s_bound : Stmt := top 26
abbrev s_law_told : Stmt := top 41
abbrev s_law_is_int : Stmt := top 32
abbrev s_law_mixed : Stmt := top 29
abbrev s_law_numbers : Stmt := top 30
abbrev s_law_cell : Stmt := top 28
abbrev s_law_order : Stmt := top 35
abbrev s_law_pixels : Stmt := top 34
abbrev s_law_touches : Stmt := top 37
abbrev s_law_tiles : Stmt := top 33
abbrev s_law_boosts : Stmt := top 38
abbrev s_law_plan : Stmt := top 39
abbrev s_law_regions : Stmt := top 36
abbrev s_check_size : Stmt := top 12
abbrev s_check_kind : Stmt := top 11
abbrev s_Frame___init__ : Stmt := inClass (top 13) 0
abbrev s_law_frame : Stmt := top 40
abbrev s_law_sizes : Stmt := top 31
abbrev s_law : Stmt := top 42
/-- a def of the text as it stands behind the top -/
structure DefAt (K : PySem.W.Frag) (mg : Str → Option Value) (x : Str) (st : Stmt) (ps : List Str) where
  a : Addr
  d : FuncData
  f : Fun K x x st a d
  g : mg x = some (.ref a)
  b : Binds K d ps []
structure MethAt (K : PySem.W.Frag) (C : Addr) (x q : Str) (st : Stmt) (ps : List Str) where
  a : Addr
  d : FuncData
  f : Fun K x q st a d
  b : Binds K d ps []
  m : Meth K C x a
abbrev s_OutOfRange___init__ : Stmt := inClass (top 3) 0
structure Tx (P : Program) (K : PySem.W.Frag) (mg : Str → Option Value) where
  a_Frame : Addr
  cl_Frame : Cls K a_Frame
  g_Frame : mg "Frame" = some (.ref a_Frame)
  mk_Frame : PySem.W.makesIn K a_Frame = true
  kp_Frame : PySem.W.keepIn K (.ref a_Frame) = true
  na_Frame_width : NoAttr K a_Frame "width"
  na_Frame_height : NoAttr K a_Frame "height"
  na_Frame_depth : NoAttr K a_Frame "depth"
  na_Frame_channels : NoAttr K a_Frame "channels"
  na_Frame_tile : NoAttr K a_Frame "tile"
  Frame_down : MethAt K a_Frame "down" "Frame.down" s_Frame_down ["self"]
  Frame_across : MethAt K a_Frame "across" "Frame.across" s_Frame_across ["self"]
  Frame_tiles : MethAt K a_Frame "tiles" "Frame.tiles" s_Frame_tiles ["self"]
  Frame_packets : MethAt K a_Frame "packets" "Frame.packets" s_Frame_packets ["self"]
  key_at : DefAt K mg "key_at" s_key_at ["frame", "number"]
  all_keys : DefAt K mg "all_keys" s_all_keys ["frame"]
  tile_corner : DefAt K mg "tile_corner" s_tile_corner ["frame", "tile"]
  tile_size : DefAt K mg "tile_size" s_tile_size ["frame", "tile"]
  touches : DefAt K mg "touches" s_touches ["frame", "rectangle", "tile"]
  boost : DefAt K mg "boost" s_boost ["frame", "regions", "tile"]
  all_scores : DefAt K mg "all_scores" s_all_scores ["frame", "regions"]
  check_range : DefAt K mg "check_range" s_check_range ["name", "value", "least", "most"]
  check_sides : DefAt K mg "check_sides" s_check_sides ["name", "left", "top", "width", "height"]
  check_regions : DefAt K mg "check_regions" s_check_regions ["regions"]
  bound : DefAt K mg "bound" s_bound ["frame", "regions", "count"]
  law_told : DefAt K mg "_law_told" s_law_told ["frame", "regions", "count"]
  law_is_int : DefAt K mg "_law_is_int" s_law_is_int ["actual"]
  law_mixed : DefAt K mg "_law_mixed" s_law_mixed ["number", "k", "limit"]
  law_numbers : DefAt K mg "_law_numbers" s_law_numbers ["cell", "count", "limit"]
  law_cell : DefAt K mg "_law_cell" s_law_cell ["script", "k"]
  law_order : DefAt K mg "_law_order" s_law_order ["sizes", "tiles"]
  law_pixels : DefAt K mg "_law_pixels" s_law_pixels ["sizes", "tile"]
  law_touches : DefAt K mg "_law_touches" s_law_touches ["sizes", "rectangle", "tile"]
  law_tiles : DefAt K mg "_law_tiles" s_law_tiles ["sizes"]
  law_boosts : DefAt K mg "_law_boosts" s_law_boosts ["sizes", "regions"]
  law_plan : DefAt K mg "_law_plan" s_law_plan ["sizes", "regions"]
  law_regions : DefAt K mg "_law_regions" s_law_regions ["cell", "sizes"]
  check_size : DefAt K mg "check_size" s_check_size ["width", "height", "channels"]
  check_kind : DefAt K mg "check_kind" s_check_kind ["width", "height", "depth", "channels"]
  Frame___init__ : MethAt K a_Frame "__init__" "Frame.__init__" s_Frame___init__ ["self", "width", "height", "depth", "channels", "tile"]
  law_frame : DefAt K mg "_law_frame" s_law_frame ["sizes"]
  law_sizes : DefAt K mg "_law_sizes" s_law_sizes ["cell", "most"]
  law : DefAt K mg "law" s_law ["script"]
  x_OutOfRange : Sx.ExcAt P K mg "OutOfRange" "OutOfRange.__init__" s_OutOfRange___init__ ["self", "name"]
  nf_OutOfRange_name : PySem.W.findIn K (.ref x_OutOfRange.C) "name" = some none
  n_abs : mg "abs" = none
  n_bool : mg "bool" = none
  n_divmod : mg "divmod" = none
  n_int : mg "int" = none
  n_isinstance : mg "isinstance" = none
  n_len : mg "len" = none
  n_max : mg "max" = none
  n_min : mg "min" = none
  n_range : mg "range" = none
  n_sorted : mg "sorted" = none
  t_BOOST_MOST : Tok
  c_BOOST_MOST : mg "BOOST_MOST" = some (.int 16 t_BOOST_MOST)
  t_DEPTH_MOST : Tok
  c_DEPTH_MOST : mg "DEPTH_MOST" = some (.int 8 t_DEPTH_MOST)
  t_REGIONS_MOST : Tok
  c_REGIONS_MOST : mg "REGIONS_MOST" = some (.int 16 t_REGIONS_MOST)
  t_SIDE_MOST : Tok
  c_SIDE_MOST : mg "SIDE_MOST" = some (.int 64 t_SIDE_MOST)
  t_TILE_MOST : Tok
  c_TILE_MOST : mg "TILE_MOST" = some (.int 16 t_TILE_MOST)
  t_VALUES_MOST : Tok
  c_VALUES_MOST : mg "VALUES_MOST" = some (.int 3072 t_VALUES_MOST)
section
variable {P : Program} {w : World} {K : PySem.W.Frag} {mg : Str → Option Value} {base : Heap}
def fl_Frame (v0 v1 v2 v3 v4 : V) : List (Str × V) := [("width", v0), ("height", v1), ("depth", v2), ("channels", v3), ("tile", v4)]
theorem ne_Frame_width__height : ((Str.ofString "width") = Str.ofString "height") = False := eq_false (by decide +kernel)
theorem ne_Frame_width__depth : ((Str.ofString "width") = Str.ofString "depth") = False := eq_false (by decide +kernel)
theorem ne_Frame_width__channels : ((Str.ofString "width") = Str.ofString "channels") = False := eq_false (by decide +kernel)
theorem ne_Frame_width__tile : ((Str.ofString "width") = Str.ofString "tile") = False := eq_false (by decide +kernel)
theorem ne_Frame_width____init__ : ((Str.ofString "width") = Str.ofString "__init__") = False := eq_false (by decide +kernel)
theorem ne_Frame_width__across : ((Str.ofString "width") = Str.ofString "across") = False := eq_false (by decide +kernel)
theorem ne_Frame_width__down : ((Str.ofString "width") = Str.ofString "down") = False := eq_false (by decide +kernel)
theorem ne_Frame_width__tiles : ((Str.ofString "width") = Str.ofString "tiles") = False := eq_false (by decide +kernel)
theorem ne_Frame_width__pixels : ((Str.ofString "width") = Str.ofString "pixels") = False := eq_false (by decide +kernel)
theorem ne_Frame_width__packets : ((Str.ofString "width") = Str.ofString "packets") = False := eq_false (by decide +kernel)
theorem ne_Frame_width__same : ((Str.ofString "width") = Str.ofString "same") = False := eq_false (by decide +kernel)
theorem ne_Frame_height__width : ((Str.ofString "height") = Str.ofString "width") = False := eq_false (by decide +kernel)
theorem ne_Frame_height__depth : ((Str.ofString "height") = Str.ofString "depth") = False := eq_false (by decide +kernel)
theorem ne_Frame_height__channels : ((Str.ofString "height") = Str.ofString "channels") = False := eq_false (by decide +kernel)
theorem ne_Frame_height__tile : ((Str.ofString "height") = Str.ofString "tile") = False := eq_false (by decide +kernel)
theorem ne_Frame_height____init__ : ((Str.ofString "height") = Str.ofString "__init__") = False := eq_false (by decide +kernel)
theorem ne_Frame_height__across : ((Str.ofString "height") = Str.ofString "across") = False := eq_false (by decide +kernel)
theorem ne_Frame_height__down : ((Str.ofString "height") = Str.ofString "down") = False := eq_false (by decide +kernel)
theorem ne_Frame_height__tiles : ((Str.ofString "height") = Str.ofString "tiles") = False := eq_false (by decide +kernel)
theorem ne_Frame_height__pixels : ((Str.ofString "height") = Str.ofString "pixels") = False := eq_false (by decide +kernel)
theorem ne_Frame_height__packets : ((Str.ofString "height") = Str.ofString "packets") = False := eq_false (by decide +kernel)
theorem ne_Frame_height__same : ((Str.ofString "height") = Str.ofString "same") = False := eq_false (by decide +kernel)
theorem ne_Frame_depth__width : ((Str.ofString "depth") = Str.ofString "width") = False := eq_false (by decide +kernel)
theorem ne_Frame_depth__height : ((Str.ofString "depth") = Str.ofString "height") = False := eq_false (by decide +kernel)
theorem ne_Frame_depth__channels : ((Str.ofString "depth") = Str.ofString "channels") = False := eq_false (by decide +kernel)
theorem ne_Frame_depth__tile : ((Str.ofString "depth") = Str.ofString "tile") = False := eq_false (by decide +kernel)
theorem ne_Frame_depth____init__ : ((Str.ofString "depth") = Str.ofString "__init__") = False := eq_false (by decide +kernel)
theorem ne_Frame_depth__across : ((Str.ofString "depth") = Str.ofString "across") = False := eq_false (by decide +kernel)
theorem ne_Frame_depth__down : ((Str.ofString "depth") = Str.ofString "down") = False := eq_false (by decide +kernel)
theorem ne_Frame_depth__tiles : ((Str.ofString "depth") = Str.ofString "tiles") = False := eq_false (by decide +kernel)
theorem ne_Frame_depth__pixels : ((Str.ofString "depth") = Str.ofString "pixels") = False := eq_false (by decide +kernel)
theorem ne_Frame_depth__packets : ((Str.ofString "depth") = Str.ofString "packets") = False := eq_false (by decide +kernel)
theorem ne_Frame_depth__same : ((Str.ofString "depth") = Str.ofString "same") = False := eq_false (by decide +kernel)
theorem ne_Frame_channels__width : ((Str.ofString "channels") = Str.ofString "width") = False := eq_false (by decide +kernel)
theorem ne_Frame_channels__height : ((Str.ofString "channels") = Str.ofString "height") = False := eq_false (by decide +kernel)
theorem ne_Frame_channels__depth : ((Str.ofString "channels") = Str.ofString "depth") = False := eq_false (by decide +kernel)
theorem ne_Frame_channels__tile : ((Str.ofString "channels") = Str.ofString "tile") = False := eq_false (by decide +kernel)
theorem ne_Frame_channels____init__ : ((Str.ofString "channels") = Str.ofString "__init__") = False := eq_false (by decide +kernel)
theorem ne_Frame_channels__across : ((Str.ofString "channels") = Str.ofString "across") = False := eq_false (by decide +kernel)
theorem ne_Frame_channels__down : ((Str.ofString "channels") = Str.ofString "down") = False := eq_false (by decide +kernel)
theorem ne_Frame_channels__tiles : ((Str.ofString "channels") = Str.ofString "tiles") = False := eq_false (by decide +kernel)
theorem ne_Frame_channels__pixels : ((Str.ofString "channels") = Str.ofString "pixels") = False := eq_false (by decide +kernel)
theorem ne_Frame_channels__packets : ((Str.ofString "channels") = Str.ofString "packets") = False := eq_false (by decide +kernel)
theorem ne_Frame_channels__same : ((Str.ofString "channels") = Str.ofString "same") = False := eq_false (by decide +kernel)
theorem ne_Frame_tile__width : ((Str.ofString "tile") = Str.ofString "width") = False := eq_false (by decide +kernel)
theorem ne_Frame_tile__height : ((Str.ofString "tile") = Str.ofString "height") = False := eq_false (by decide +kernel)
theorem ne_Frame_tile__depth : ((Str.ofString "tile") = Str.ofString "depth") = False := eq_false (by decide +kernel)
theorem ne_Frame_tile__channels : ((Str.ofString "tile") = Str.ofString "channels") = False := eq_false (by decide +kernel)
theorem ne_Frame_tile____init__ : ((Str.ofString "tile") = Str.ofString "__init__") = False := eq_false (by decide +kernel)
theorem ne_Frame_tile__across : ((Str.ofString "tile") = Str.ofString "across") = False := eq_false (by decide +kernel)
theorem ne_Frame_tile__down : ((Str.ofString "tile") = Str.ofString "down") = False := eq_false (by decide +kernel)
theorem ne_Frame_tile__tiles : ((Str.ofString "tile") = Str.ofString "tiles") = False := eq_false (by decide +kernel)
theorem ne_Frame_tile__pixels : ((Str.ofString "tile") = Str.ofString "pixels") = False := eq_false (by decide +kernel)
theorem ne_Frame_tile__packets : ((Str.ofString "tile") = Str.ofString "packets") = False := eq_false (by decide +kernel)
theorem ne_Frame_tile__same : ((Str.ofString "tile") = Str.ofString "same") = False := eq_false (by decide +kernel)
theorem put_Frame_width {v0 v1 v2 v3 v4 : V} {z : V} : putF "width" z (fl_Frame v0 v1 v2 v3 v4) = fl_Frame z v1 v2 v3 v4 := by
  simp only [fl_Frame, putF, if_false, if_true, reduceIte]
theorem lk_Frame_width {v0 v1 v2 v3 v4 : V} : (fl_Frame v0 v1 v2 v3 v4).lookup ("width" : Str) = some v0 := by
  have h := lookup_putF "width" "width" v0 (fl_Frame v0 v1 v2 v3 v4)
  rw [put_Frame_width, if_pos rfl] at h
  exact h
theorem put_Frame_height {v0 v1 v2 v3 v4 : V} {z : V} : putF "height" z (fl_Frame v0 v1 v2 v3 v4) = fl_Frame v0 z v2 v3 v4 := by
  simp only [fl_Frame, putF, ne_Frame_width__height, if_false, if_true, reduceIte]
theorem lk_Frame_height {v0 v1 v2 v3 v4 : V} : (fl_Frame v0 v1 v2 v3 v4).lookup ("height" : Str) = some v1 := by
  have h := lookup_putF "height" "height" v1 (fl_Frame v0 v1 v2 v3 v4)
  rw [put_Frame_height, if_pos rfl] at h
  exact h
theorem put_Frame_depth {v0 v1 v2 v3 v4 : V} {z : V} : putF "depth" z (fl_Frame v0 v1 v2 v3 v4) = fl_Frame v0 v1 z v3 v4 := by
  simp only [fl_Frame, putF, ne_Frame_width__depth, ne_Frame_height__depth, if_false, if_true, reduceIte]
theorem lk_Frame_depth {v0 v1 v2 v3 v4 : V} : (fl_Frame v0 v1 v2 v3 v4).lookup ("depth" : Str) = some v2 := by
  have h := lookup_putF "depth" "depth" v2 (fl_Frame v0 v1 v2 v3 v4)
  rw [put_Frame_depth, if_pos rfl] at h
  exact h
theorem put_Frame_channels {v0 v1 v2 v3 v4 : V} {z : V} : putF "channels" z (fl_Frame v0 v1 v2 v3 v4) = fl_Frame v0 v1 v2 z v4 := by
  simp only [fl_Frame, putF, ne_Frame_width__channels, ne_Frame_height__channels, ne_Frame_depth__channels, if_false, if_true, reduceIte]
theorem lk_Frame_channels {v0 v1 v2 v3 v4 : V} : (fl_Frame v0 v1 v2 v3 v4).lookup ("channels" : Str) = some v3 := by
  have h := lookup_putF "channels" "channels" v3 (fl_Frame v0 v1 v2 v3 v4)
  rw [put_Frame_channels, if_pos rfl] at h
  exact h
theorem put_Frame_tile {v0 v1 v2 v3 v4 : V} {z : V} : putF "tile" z (fl_Frame v0 v1 v2 v3 v4) = fl_Frame v0 v1 v2 v3 z := by
  simp only [fl_Frame, putF, ne_Frame_width__tile, ne_Frame_height__tile, ne_Frame_depth__tile, ne_Frame_channels__tile, if_false, if_true, reduceIte]
theorem lk_Frame_tile {v0 v1 v2 v3 v4 : V} : (fl_Frame v0 v1 v2 v3 v4).lookup ("tile" : Str) = some v4 := by
  have h := lookup_putF "tile" "tile" v4 (fl_Frame v0 v1 v2 v3 v4)
  rw [put_Frame_tile, if_pos rfl] at h
  exact h
theorem len_Frame {v0 v1 v2 v3 v4 : V} : (fl_Frame v0 v1 v2 v3 v4).length = 5 := rfl
theorem few_Frame {v0 v1 v2 v3 v4 : V} : (fl_Frame v0 v1 v2 v3 v4).length < 1000 := by
  show 5 < 1000
  decide
theorem ini_Frame {v0 v1 v2 v3 v4 : V} : putF "tile" v4 (putF "channels" v3 (putF "depth" v2 (putF "height" v1 (putF "width" v0 [])))) = fl_Frame v0 v1 v2 v3 v4 := by
  simp only [fl_Frame, putF, ne_Frame_width__height, ne_Frame_width__depth, ne_Frame_width__channels, ne_Frame_width__tile, ne_Frame_height__depth, ne_Frame_height__channels, ne_Frame_height__tile, ne_Frame_depth__channels, ne_Frame_depth__tile, ne_Frame_channels__tile, if_false, if_true, reduceIte]
theorem no_Frame___init__ {v0 v1 v2 v3 v4 : V} : (fl_Frame v0 v1 v2 v3 v4).lookup ("__init__" : Str) = none := by
  have q : ∀ (g : Str) (u : V) (r : List (Str × V)), ¬ g = "__init__" → List.lookup (Str.ofString "__init__") ((g, u) :: r) = List.lookup (Str.ofString "__init__") r := fun g u r h => by
    have hb : ((Str.ofString "__init__") == g) = false := beq_eq_false_iff_ne.mpr (fun z => h z.symm)
    simp only [List.lookup, hb]
  unfold fl_Frame
  rw [q _ _ _ (by rw [ne_Frame_width____init__]; exact id), q _ _ _ (by rw [ne_Frame_height____init__]; exact id), q _ _ _ (by rw [ne_Frame_depth____init__]; exact id), q _ _ _ (by rw [ne_Frame_channels____init__]; exact id), q _ _ _ (by rw [ne_Frame_tile____init__]; exact id)]
  rfl
theorem no_Frame_across {v0 v1 v2 v3 v4 : V} : (fl_Frame v0 v1 v2 v3 v4).lookup ("across" : Str) = none := by
  have q : ∀ (g : Str) (u : V) (r : List (Str × V)), ¬ g = "across" → List.lookup (Str.ofString "across") ((g, u) :: r) = List.lookup (Str.ofString "across") r := fun g u r h => by
    have hb : ((Str.ofString "across") == g) = false := beq_eq_false_iff_ne.mpr (fun z => h z.symm)
    simp only [List.lookup, hb]
  unfold fl_Frame
  rw [q _ _ _ (by rw [ne_Frame_width__across]; exact id), q _ _ _ (by rw [ne_Frame_height__across]; exact id), q _ _ _ (by rw [ne_Frame_depth__across]; exact id), q _ _ _ (by rw [ne_Frame_channels__across]; exact id), q _ _ _ (by rw [ne_Frame_tile__across]; exact id)]
  rfl
theorem no_Frame_down {v0 v1 v2 v3 v4 : V} : (fl_Frame v0 v1 v2 v3 v4).lookup ("down" : Str) = none := by
  have q : ∀ (g : Str) (u : V) (r : List (Str × V)), ¬ g = "down" → List.lookup (Str.ofString "down") ((g, u) :: r) = List.lookup (Str.ofString "down") r := fun g u r h => by
    have hb : ((Str.ofString "down") == g) = false := beq_eq_false_iff_ne.mpr (fun z => h z.symm)
    simp only [List.lookup, hb]
  unfold fl_Frame
  rw [q _ _ _ (by rw [ne_Frame_width__down]; exact id), q _ _ _ (by rw [ne_Frame_height__down]; exact id), q _ _ _ (by rw [ne_Frame_depth__down]; exact id), q _ _ _ (by rw [ne_Frame_channels__down]; exact id), q _ _ _ (by rw [ne_Frame_tile__down]; exact id)]
  rfl
theorem no_Frame_tiles {v0 v1 v2 v3 v4 : V} : (fl_Frame v0 v1 v2 v3 v4).lookup ("tiles" : Str) = none := by
  have q : ∀ (g : Str) (u : V) (r : List (Str × V)), ¬ g = "tiles" → List.lookup (Str.ofString "tiles") ((g, u) :: r) = List.lookup (Str.ofString "tiles") r := fun g u r h => by
    have hb : ((Str.ofString "tiles") == g) = false := beq_eq_false_iff_ne.mpr (fun z => h z.symm)
    simp only [List.lookup, hb]
  unfold fl_Frame
  rw [q _ _ _ (by rw [ne_Frame_width__tiles]; exact id), q _ _ _ (by rw [ne_Frame_height__tiles]; exact id), q _ _ _ (by rw [ne_Frame_depth__tiles]; exact id), q _ _ _ (by rw [ne_Frame_channels__tiles]; exact id), q _ _ _ (by rw [ne_Frame_tile__tiles]; exact id)]
  rfl
theorem no_Frame_pixels {v0 v1 v2 v3 v4 : V} : (fl_Frame v0 v1 v2 v3 v4).lookup ("pixels" : Str) = none := by
  have q : ∀ (g : Str) (u : V) (r : List (Str × V)), ¬ g = "pixels" → List.lookup (Str.ofString "pixels") ((g, u) :: r) = List.lookup (Str.ofString "pixels") r := fun g u r h => by
    have hb : ((Str.ofString "pixels") == g) = false := beq_eq_false_iff_ne.mpr (fun z => h z.symm)
    simp only [List.lookup, hb]
  unfold fl_Frame
  rw [q _ _ _ (by rw [ne_Frame_width__pixels]; exact id), q _ _ _ (by rw [ne_Frame_height__pixels]; exact id), q _ _ _ (by rw [ne_Frame_depth__pixels]; exact id), q _ _ _ (by rw [ne_Frame_channels__pixels]; exact id), q _ _ _ (by rw [ne_Frame_tile__pixels]; exact id)]
  rfl
theorem no_Frame_packets {v0 v1 v2 v3 v4 : V} : (fl_Frame v0 v1 v2 v3 v4).lookup ("packets" : Str) = none := by
  have q : ∀ (g : Str) (u : V) (r : List (Str × V)), ¬ g = "packets" → List.lookup (Str.ofString "packets") ((g, u) :: r) = List.lookup (Str.ofString "packets") r := fun g u r h => by
    have hb : ((Str.ofString "packets") == g) = false := beq_eq_false_iff_ne.mpr (fun z => h z.symm)
    simp only [List.lookup, hb]
  unfold fl_Frame
  rw [q _ _ _ (by rw [ne_Frame_width__packets]; exact id), q _ _ _ (by rw [ne_Frame_height__packets]; exact id), q _ _ _ (by rw [ne_Frame_depth__packets]; exact id), q _ _ _ (by rw [ne_Frame_channels__packets]; exact id), q _ _ _ (by rw [ne_Frame_tile__packets]; exact id)]
  rfl
theorem no_Frame_same {v0 v1 v2 v3 v4 : V} : (fl_Frame v0 v1 v2 v3 v4).lookup ("same" : Str) = none := by
  have q : ∀ (g : Str) (u : V) (r : List (Str × V)), ¬ g = "same" → List.lookup (Str.ofString "same") ((g, u) :: r) = List.lookup (Str.ofString "same") r := fun g u r h => by
    have hb : ((Str.ofString "same") == g) = false := beq_eq_false_iff_ne.mpr (fun z => h z.symm)
    simp only [List.lookup, hb]
  unfold fl_Frame
  rw [q _ _ _ (by rw [ne_Frame_width__same]; exact id), q _ _ _ (by rw [ne_Frame_height__same]; exact id), q _ _ _ (by rw [ne_Frame_depth__same]; exact id), q _ _ _ (by rw [ne_Frame_channels__same]; exact id), q _ _ _ (by rw [ne_Frame_tile__same]; exact id)]
  rfl
/-- a Frame stands at x -/
def Frm (C : Addr) (H : Hp) (x : Addr) (w h d c t : Nat) : Prop := ∃ dx, H x = some (.ins C dx (fl_Frame (.int (w : Int)) (.int (h : Int)) (.int (d : Int)) (.int (c : Int)) (.int (t : Int))))
theorem Frm.keep {C x : Addr} {H H' : Hp} {w h d c t : Nat} (f : Frm C H x w h d c t) (s : Same H H') : Frm C H' x w h d c t := by
  obtain ⟨dx, h1⟩ := f
  exact ⟨dx, s _ _ h1⟩

theorem scx_OutOfRange : Sx.SupScope ["self", "name"] ["self", "name"] (defScope s_OutOfRange___init__) := ⟨rfl, rfl, rfl, by decide +kernel, rfl, by decide +kernel, by decide +kernel, by decide +kernel, rfl, rfl⟩
theorem ok_OutOfRange___init__ (T : Tx P K mg) : FnOk P w K mg base CX0 1 T.x_OutOfRange.a T.x_OutOfRange.d ["self", "name"] (Sx.sp1 T.x_OutOfRange.C "name") := by
  refine Sx.fn_sup (k := 0) T.x_OutOfRange.o T.x_OutOfRange.s scx_OutOfRange (fun vs H Q E h => ?_) rfl rfl rfl rfl (fun _ => rfl) (fun _ => ⟨_, rfl⟩) (fun _ => rfl) (fun cda cc A outer s H vs Q E h => ?_)
  · obtain ⟨a, z, rfl, _⟩ := h; rfl
  obtain ⟨a, z, rfl, hz, ha, q⟩ := h
  have hs : sizeLine = 16777216 := sizeLine_eq
  refine ⟨_, _, a, [.str z], pa_cons (pe_joined (PJ.cons (pe_fmt (pv 1)) (PJ.cons pe_str PJ.nil))) pa_nil, pss_one (ps_ost (pv 0) (pv 1)), rfl, ha, ?_⟩
  have l1 : ∀ x y : Str, (x ++ y).length = x.length + y.length := fun x y => Str.length_append x y
  refine ⟨.str z, rfl, .inl ⟨z, rfl, by omega, z, rfl, by rw [l1]; show 0 + _ ≤ _; omega, _, rfl, by rw [l1, l1]; show 0 + _ + 16 ≤ _; omega, by show 1 ≤ 1000; decide, ha, ?_⟩⟩
  exact ⟨.str z, rfl, .ref a, rfl, a, _, rfl, T.x_OutOfRange.o, T.nf_OutOfRange_name, .inl ⟨ha, fun dx hd hne => q dx hd hne⟩⟩

set_option hygiene false
local macro_rules | `(tactic| walk_at "go1") => `(tactic| (first
  | refine Gx.fp (by assumption) T.cl_Frame T.na_Frame_width lk_Frame_width ?_
  | refine Gx.fp (by assumption) T.cl_Frame T.na_Frame_height lk_Frame_height ?_
  | refine Gx.fp (by assumption) T.cl_Frame T.na_Frame_depth lk_Frame_depth ?_
  | refine Gx.fp (by assumption) T.cl_Frame T.na_Frame_channels lk_Frame_channels ?_
  | refine Gx.fp (by assumption) T.cl_Frame T.na_Frame_tile lk_Frame_tile ?_))
set_option hygiene true
/-- the law's own: True, whatever the script -/
def spLaw (K : PySem.W.Frag) : Sp := fun vs H Q _ => ∃ (a : Addr) (ns : List Int), vs = [.ref a] ∧ SqL K H a (ns.map V.int) ∧ ns.length ≤ 63 ∧ (∀ z ∈ ns, Builtin.Int.intBits z ≤ 1048576) ∧ ∀ H', Q (.bl true) H' 
def sp_Frame_down (C : Addr) : Sp := fun vs H Q _ => ∃ (x : Addr) (w h d c t : Nat), vs = [.ref x] ∧ Frm C H x w h d c t ∧ 1 ≤ t ∧ t ≤ 16 ∧ Q (.int (Gd.ac h t : Nat)) H

theorem sc_Frame_down : FnScope ["self"] ["self"] (defScope s_Frame_down) := ⟨rfl, rfl, rfl, by decide +kernel, rfl, by decide +kernel, by decide +kernel⟩
theorem ok_Frame_down (T : Tx P K mg) : FnOk P w K mg base CX0 1 T.Frame_down.a T.Frame_down.d ["self"] (sp_Frame_down T.a_Frame) := by
  refine T.Frame_down.f.ok sc_Frame_down (fun vs H Q E h => ?_) (fun cdv A outer s H vs Q E hr h => ⟨_, pss_one (ps_ret (pe_op op_fdiv (pe_op op_sub (pe_op op_add (pe_fld (pv 0) rfl) (pe_fld (pv 0) rfl)) (pe_int)) (pe_fld (pv 0) rfl))), ?_⟩)
  · obtain ⟨x, w, h, d, c, t, rfl, _⟩ := h
    rfl
  · skip
    obtain ⟨x, w, h, d, c, t, rfl, ⟨dx, hx⟩, ht1, ht2, q⟩ := h
    walk_at "go"
    refine Gx.ic ⟨by omega, by omega⟩ ?_
    rw [Gd.ac_int (by omega)]
    exact q

theorem cp_Frame_down {C x : Addr} {w h d c t : Nat} {H : Hp} {Q : VK} {E : XK} (f : Frm C H x w h d c t) (h1 : 1 ≤ t) (h2 : t ≤ 16) (q : Q (.int (Gd.ac h t : Nat)) H) : Gx.CP (sp_Frame_down C) [.ref x] [] H Q E := ⟨x, w, h, d, c, t, rfl, f, h1, h2, q⟩

def sp_Frame_across (C : Addr) : Sp := fun vs H Q _ => ∃ (x : Addr) (w h d c t : Nat), vs = [.ref x] ∧ Frm C H x w h d c t ∧ 1 ≤ t ∧ t ≤ 16 ∧ Q (.int (Gd.ac w t : Nat)) H

theorem sc_Frame_across : FnScope ["self"] ["self"] (defScope s_Frame_across) := ⟨rfl, rfl, rfl, by decide +kernel, rfl, by decide +kernel, by decide +kernel⟩
theorem ok_Frame_across (T : Tx P K mg) : FnOk P w K mg base CX0 1 T.Frame_across.a T.Frame_across.d ["self"] (sp_Frame_across T.a_Frame) := by
  refine T.Frame_across.f.ok sc_Frame_across (fun vs H Q E h => ?_) (fun cdv A outer s H vs Q E hr h => ⟨_, pss_one (ps_ret (pe_op op_fdiv (pe_op op_sub (pe_op op_add (pe_fld (pv 0) rfl) (pe_fld (pv 0) rfl)) (pe_int)) (pe_fld (pv 0) rfl))), ?_⟩)
  · obtain ⟨x, w, h, d, c, t, rfl, _⟩ := h
    rfl
  · skip
    obtain ⟨x, w, h, d, c, t, rfl, ⟨dx, hx⟩, ht1, ht2, q⟩ := h
    walk_at "go"
    refine Gx.ic ⟨by omega, by omega⟩ ?_
    rw [Gd.ac_int (by omega)]
    exact q

theorem cp_Frame_across {C x : Addr} {w h d c t : Nat} {H : Hp} {Q : VK} {E : XK} (f : Frm C H x w h d c t) (h1 : 1 ≤ t) (h2 : t ≤ 16) (q : Q (.int (Gd.ac w t : Nat)) H) : Gx.CP (sp_Frame_across C) [.ref x] [] H Q E := ⟨x, w, h, d, c, t, rfl, f, h1, h2, q⟩

def sp_Frame_tiles (C : Addr) : Sp := fun vs H Q _ => ∃ (x : Addr) (w h d c t : Nat), vs = [.ref x] ∧ Frm C H x w h d c t ∧ 1 ≤ t ∧ t ≤ 16 ∧ w ≤ 64 ∧ h ≤ 64 ∧ Q (.int (Gd.ac w t * Gd.ac h t : Nat)) H

theorem sc_Frame_tiles : FnScope ["self"] ["self"] (defScope s_Frame_tiles) := ⟨rfl, rfl, rfl, by decide +kernel, rfl, by decide +kernel, by decide +kernel⟩
theorem ok_Frame_tiles (T : Tx P K mg) : FnOk P w K mg base CX0 2 T.Frame_tiles.a T.Frame_tiles.d ["self"] (sp_Frame_tiles T.a_Frame) := by
  refine T.Frame_tiles.f.ok sc_Frame_tiles (fun vs H Q E h => ?_) (fun cdv A outer s H vs Q E hr h => ⟨_, pss_one (ps_ret (pe_op op_mul (pe_meth0 (pv 0) T.cl_Frame T.Frame_across.m (ok_Frame_across T) (hr.mono (by decide)) T.Frame_across.b .nil pass0) (pe_meth0 (pv 0) T.cl_Frame T.Frame_down.m (ok_Frame_down T) (hr.mono (by decide)) T.Frame_down.b .nil pass0))), ?_⟩)
  · obtain ⟨x, w, h, d, c, t, rfl, _⟩ := h
    rfl
  · skip
    obtain ⟨x, w, h, d, c, t, rfl, ⟨dx, hx⟩, ht1, ht2, hw, hh, q⟩ := h
    have l1 := Gd.ac_le (n := w) (t := t) (by omega)
    walk_at "go"
    refine Gx.mp hx no_Frame_across ?_
    walk_at "go"
    refine cp_Frame_across ⟨dx, hx⟩ ht1 ht2 ?_
    walk_at "go"
    refine Gx.mp hx no_Frame_down ?_
    walk_at "go"
    refine cp_Frame_down ⟨dx, hx⟩ ht1 ht2 ?_
    refine Gx.ic (.inl (by omega)) ?_
    rw [← Int.natCast_mul]
    exact q

theorem cp_Frame_tiles {C x : Addr} {w h d c t : Nat} {H : Hp} {Q : VK} {E : XK} (f : Frm C H x w h d c t) (h1 : 1 ≤ t) (h2 : t ≤ 16) (hw : w ≤ 64) (hh : h ≤ 64) (q : Q (.int (Gd.ac w t * Gd.ac h t : Nat)) H) : Gx.CP (sp_Frame_tiles C) [.ref x] [] H Q E := ⟨x, w, h, d, c, t, rfl, f, h1, h2, hw, hh, q⟩

def sp_Frame_packets (C : Addr) : Sp := fun vs H Q _ => ∃ (x : Addr) (w h d c t : Nat), vs = [.ref x] ∧ Frm C H x w h d c t ∧ 1 ≤ t ∧ t ≤ 16 ∧ w ≤ 64 ∧ h ≤ 64 ∧ d ≤ 8 ∧ c ≤ 3 ∧ Q (.int (d * c * (Gd.ac w t * Gd.ac h t) : Nat)) H

theorem sc_Frame_packets : FnScope ["self"] ["self"] (defScope s_Frame_packets) := ⟨rfl, rfl, rfl, by decide +kernel, rfl, by decide +kernel, by decide +kernel⟩
theorem ok_Frame_packets (T : Tx P K mg) : FnOk P w K mg base CX0 3 T.Frame_packets.a T.Frame_packets.d ["self"] (sp_Frame_packets T.a_Frame) := by
  refine T.Frame_packets.f.ok sc_Frame_packets (fun vs H Q E h => ?_) (fun cdv A outer s H vs Q E hr h => ⟨_, pss_one (ps_ret (pe_op op_mul (pe_op op_mul (pe_fld (pv 0) rfl) (pe_fld (pv 0) rfl)) (pe_meth0 (pv 0) T.cl_Frame T.Frame_tiles.m (ok_Frame_tiles T) (hr.mono (by decide)) T.Frame_tiles.b .nil pass0))), ?_⟩)
  · obtain ⟨x, w, h, d, c, t, rfl, _⟩ := h
    rfl
  · skip
    obtain ⟨x, w, h, d, c, t, rfl, ⟨dx, hx⟩, ht1, ht2, hw, hh, hd, hc, q⟩ := h
    have l1 : d * c ≤ 8 * 3 := Nat.mul_le_mul hd hc
    walk_at "go"
    refine Gx.ic (.inl (by omega)) ?_
    walk_at "go"
    refine Gx.mp hx no_Frame_tiles ?_
    walk_at "go"
    refine cp_Frame_tiles ⟨dx, hx⟩ ht1 ht2 hw hh ?_
    rw [← Int.natCast_mul]
    refine Gx.ic (.inl (by omega)) ?_
    rw [← Int.natCast_mul]
    exact q

theorem cp_Frame_packets {C x : Addr} {w h d c t : Nat} {H : Hp} {Q : VK} {E : XK} (f : Frm C H x w h d c t) (h1 : 1 ≤ t) (h2 : t ≤ 16) (hw : w ≤ 64) (hh : h ≤ 64) (hd : d ≤ 8) (hc : c ≤ 3) (q : Q (.int (d * c * (Gd.ac w t * Gd.ac h t) : Nat)) H) : Gx.CP (sp_Frame_packets C) [.ref x] [] H Q E := ⟨x, w, h, d, c, t, rfl, f, h1, h2, hw, hh, hd, hc, q⟩

def sp_key_at (C : Addr) : Sp := fun vs H Q _ => ∃ (x : Addr) (w h d c t k : Nat), vs = [.ref x, .int (k : Int)] ∧ Frm C H x w h d c t ∧ 1 ≤ t ∧ t ≤ 16 ∧ 1 ≤ w ∧ w ≤ 64 ∧ 1 ≤ h ∧ h ≤ 64 ∧ 1 ≤ c ∧ c ≤ 3 ∧ ∀ p H', Same H H' → H' p = some (.tup ((Gd.ky (Gd.ac w t * Gd.ac h t) c d k).map V.int)) → Q (.ref p) H'

theorem sc_key_at : FnScope ["frame", "number", "rows", "tile", "higher_planes", "channel"] ["frame", "number"] (defScope s_key_at) := ⟨rfl, rfl, rfl, by decide +kernel, rfl, by decide +kernel, by decide +kernel⟩
theorem ok_key_at (T : Tx P K mg) : FnOk P w K mg base CX0 3 T.key_at.a T.key_at.d ["frame", "number"] (sp_key_at T.a_Frame) := by
  refine T.key_at.f.ok sc_key_at (fun vs H Q E h => ?_) (fun cdv A outer s H vs Q E hr h => ⟨_, pss_cons (ps_asg (pe_callB Gx.c_divmod rfl T.n_divmod (by decide +kernel) (pa_cons (pv 1) (pa_cons (pe_meth0 (pv 0) T.cl_Frame T.Frame_tiles.m (ok_Frame_tiles T) (hr.mono (by decide)) T.Frame_tiles.b .nil pass0) pa_nil))) (pg_tup rfl (pgs_cons (pg_name (i := 2) sc_key_at.nd rfl (Or.inl rfl)) (pgs_cons (pg_name (i := 3) sc_key_at.nd rfl (Or.inl rfl)) pgs_nil))))
      (pss_cons (ps_asg (pe_callB Gx.c_divmod rfl T.n_divmod (by decide +kernel) (pa_cons (pv 2) (pa_cons (pe_fld (pv 0) rfl) pa_nil))) (pg_tup rfl (pgs_cons (pg_name (i := 4) sc_key_at.nd rfl (Or.inl rfl)) (pgs_cons (pg_name (i := 5) sc_key_at.nd rfl (Or.inl rfl)) pgs_nil))))
      (pss_one (ps_ret (pe_tup (pa_cons (pv 5) (pa_cons (pv 3) (pa_cons (pe_op op_sub (pe_op op_sub (pe_fld (pv 0) rfl) (pe_int)) (pv 4)) pa_nil))))))), ?_⟩)
  · obtain ⟨x, w, h, d, c, t, k, rfl, _⟩ := h
    rfl
  · skip
    obtain ⟨x, w, h, d, c, t, k, rfl, fr, ht1, ht2, hw1, hw, hh1, hh, hc1, hc, q⟩ := h
    have l1 := Gd.ac_le (n := w) (t := t) (by omega)
    have l2 := Gd.ac_le (n := h) (t := t) (by omega)
    have p1 := Gd.ac_pos (n := w) (t := t) (by omega) (by omega)
    have p2 := Gd.ac_pos (n := h) (t := t) (by omega) (by omega)
    have p3 : 0 < Gd.ac w t * Gd.ac h t := Nat.mul_pos p1 p2
    have l4 : Gd.ac w t * Gd.ac h t ≤ 64 * 64 := Nat.mul_le_mul (by omega) (by omega)
    obtain ⟨dx, hx⟩ := id fr
    walk_at "go"
    refine Gx.mp hx no_Frame_tiles ?_
    walk_at "go"
    refine cp_Frame_tiles fr ht1 ht2 hw hh ?_
    walk_at "go"
    refine Gx.dvm ⟨by omega, by omega⟩ fun pa hpa => ?_
    walk_at "go"
    refine Gx.gtup (SqT.of upd_same) rfl ?_
    have s1 := Gx.same_new (o := .tup [.int ((k : Int) / ((Gd.ac w t * Gd.ac h t : Nat) : Int)), .int ((k : Int) % ((Gd.ac w t * Gd.ac h t : Nat) : Int))]) hpa
    have hx := s1 _ _ hx
    walk_at "go"
    refine Gx.dvm ⟨by omega, by omega⟩ fun pb hpb => ?_
    walk_at "go"
    refine Gx.gtup (SqT.of upd_same) rfl ?_
    have s2 := Gx.same_new (o := .tup [.int ((k : Int) / ((Gd.ac w t * Gd.ac h t : Nat) : Int) / (c : Int)), .int ((k : Int) / ((Gd.ac w t * Gd.ac h t : Nat) : Int) % (c : Int))]) hpb
    have hx := s2 _ _ hx
    walk_at "go"
    refine Gx.tupP (by show 3 ≤ sizeLine; decide) fun p hp => ?_
    exact q p _ (s1.trans (s2.trans (Gx.same_new hp))) upd_same

theorem cp_key_at {C x : Addr} {w h d c t k : Nat} {H : Hp} {Q : VK} {E : XK} (f : Frm C H x w h d c t) (h1 : 1 ≤ t) (h2 : t ≤ 16) (hw1 : 1 ≤ w) (hw : w ≤ 64) (hh1 : 1 ≤ h) (hh : h ≤ 64) (hc1 : 1 ≤ c) (hc : c ≤ 3)
    (q : ∀ p H', Same H H' → H' p = some (.tup ((Gd.ky (Gd.ac w t * Gd.ac h t) c d k).map V.int)) → Q (.ref p) H') : Gx.CP (sp_key_at C) [.ref x, .int (k : Int)] [] H Q E := ⟨x, w, h, d, c, t, k, rfl, f, h1, h2, hw1, hw, hh1, hh, hc1, hc, q⟩

def sp_all_keys (C : Addr) : Sp := fun vs H Q _ => ∃ (x : Addr) (w h d c t : Nat), vs = [.ref x] ∧ Frm C H x w h d c t ∧ 1 ≤ t ∧ t ≤ 16 ∧ 1 ≤ w ∧ w ≤ 64 ∧ 1 ≤ h ∧ h ≤ 64 ∧ 1 ≤ c ∧ c ≤ 3 ∧ d ≤ 8 ∧ ∀ p H', H p = none → Same H H' → Gx.TL H' p (d * c * (Gd.ac w t * Gd.ac h t)) (Gd.ky (Gd.ac w t * Gd.ac h t) c d) → Q (.ref p) H'

theorem sc_all_keys : FnScope ["frame", "number"] ["frame"] (defScope s_all_keys) := ⟨rfl, rfl, rfl, by decide +kernel, rfl, by decide +kernel, by decide +kernel⟩
theorem ok_all_keys (T : Tx P K mg) : FnOk P w K mg base CX0 4 T.all_keys.a T.all_keys.d ["frame"] (sp_all_keys T.a_Frame) := by
  refine T.all_keys.f.ok sc_all_keys (fun vs H Q E h => ?_) (fun cdv A outer s H vs Q E hr h => ⟨_, pss_one (ps_ret (pe_lc (own := [("number", 1)]) (g := (gName 1)) (tt := tYes) rfl sc_all_keys.nd (pi_range1 rfl T.n_range (pa_cons (pe_meth0 (pv 0) T.cl_Frame T.Frame_packets.m (ok_Frame_packets T) (hr.mono (by decide)) T.Frame_packets.b .nil pass0) pa_nil)) (blkOk_by (own := [("number", 1)]) (N := ["frame", "number"]) (sc := defScope s_all_keys) (by decide +kernel)) (fun _ _ _ _ _ => (pg_name (i := 1) sc_all_keys.nd rfl (Or.inl rfl))) (fun _ _ _ _ _ => pts_nil) (fun _ _ _ _ _ => pe_call (ok_key_at T) (hr.mono (by decide)) rfl T.key_at.g T.key_at.f.kp T.key_at.b .nil pass0 (pa_cons (pv 0) (pa_cons (pv 1) pa_nil))))), ?_⟩)
  · obtain ⟨x, w, h, d, c, t, rfl, _⟩ := h
    rfl
  · skip
    obtain ⟨x, w, h, d, c, t, rfl, fr, ht1, ht2, hw1, hw, hh1, hh, hc1, hc, hd, q⟩ := h
    have l1 := Gd.ac_le (n := w) (t := t) (by omega)
    have l2 := Gd.ac_le (n := h) (t := t) (by omega)
    have l4 : Gd.ac w t * Gd.ac h t ≤ 64 * 64 := Nat.mul_le_mul (by omega) (by omega)
    have l5 : d * c * (Gd.ac w t * Gd.ac h t) ≤ 8 * 3 * (64 * 64) := Nat.mul_le_mul (Nat.mul_le_mul hd hc) l4
    obtain ⟨dx, hx⟩ := id fr
    walk_at "go"
    refine Gx.mp hx no_Frame_packets ?_
    walk_at "go"
    refine cp_Frame_packets fr ht1 ht2 hw hh hd hc ?_
    walk_at "go"
    refine Gx.r1 (by omega) (by omega) ?_
    refine Gx.lcTup walk_range (by omega) (Gd.ky (Gd.ac w t * Gd.ac h t) c d) (fun _ _ => trivial) Gx.sameFn ?_ ?_
    · rintro i y H3 H3' R R0 hi s3 ⟨rfl, hy⟩ hr
      have hy2 : y = .int (i : Int) := hy.trans (congrArg V.int (by omega))
      subst hy2
      walk_at "go"
      exact cp_key_at (fr.keep s3) ht1 ht2 hw1 hw hh1 hh hc1 hc hr
    rw [Int.toNat_natCast]
    exact q

theorem cp_all_keys {C x : Addr} {w h d c t : Nat} {H : Hp} {Q : VK} {E : XK} (f : Frm C H x w h d c t) (h1 : 1 ≤ t) (h2 : t ≤ 16) (hw1 : 1 ≤ w) (hw : w ≤ 64) (hh1 : 1 ≤ h) (hh : h ≤ 64) (hc1 : 1 ≤ c) (hc : c ≤ 3) (hd : d ≤ 8)
    (q : ∀ p H', H p = none → Same H H' → Gx.TL H' p (d * c * (Gd.ac w t * Gd.ac h t)) (Gd.ky (Gd.ac w t * Gd.ac h t) c d) → Q (.ref p) H') : Gx.CP (sp_all_keys C) [.ref x] [] H Q E := ⟨x, w, h, d, c, t, rfl, f, h1, h2, hw1, hw, hh1, hh, hc1, hc, hd, q⟩

def sp_tile_corner (C : Addr) : Sp := fun vs H Q _ => ∃ (x : Addr) (w h d c t k : Nat), vs = [.ref x, .int (k : Int)] ∧ Frm C H x w h d c t ∧ 1 ≤ t ∧ t ≤ 16 ∧ 1 ≤ w ∧ w ≤ 64 ∧ k ≤ 100000 ∧ ∀ p, H p = none → Q (.ref p) (upd H p (.tup [.int (k % Gd.ac w t * t : Nat), .int (k / Gd.ac w t * t : Nat)]))

theorem sc_tile_corner : FnScope ["frame", "tile", "across"] ["frame", "tile"] (defScope s_tile_corner) := ⟨rfl, rfl, rfl, by decide +kernel, rfl, by decide +kernel, by decide +kernel⟩
theorem ok_tile_corner (T : Tx P K mg) : FnOk P w K mg base CX0 2 T.tile_corner.a T.tile_corner.d ["frame", "tile"] (sp_tile_corner T.a_Frame) := by
  refine T.tile_corner.f.ok sc_tile_corner (fun vs H Q E h => ?_) (fun cdv A outer s H vs Q E hr h => ⟨_, pss_cons (ps_set (i := 2) sc_tile_corner.nd rfl (Or.inl rfl) (pe_meth0 (pv 0) T.cl_Frame T.Frame_across.m (ok_Frame_across T) (hr.mono (by decide)) T.Frame_across.b .nil pass0))
      (pss_one (ps_ret (pe_tup (pa_cons (pe_op op_mul (pe_op op_mod (pv 1) (pv 2)) (pe_fld (pv 0) rfl)) (pa_cons (pe_op op_mul (pe_op op_fdiv (pv 1) (pv 2)) (pe_fld (pv 0) rfl)) pa_nil))))), ?_⟩)
  · obtain ⟨x, w, h, d, c, t, k, rfl, _⟩ := h
    rfl
  · skip
    obtain ⟨x, w, h, d, c, t, k, rfl, ⟨dx, hx⟩, ht1, ht2, hw1, hw, hk, q⟩ := h
    have l1 := Gd.ac_le (n := w) (t := t) (by omega)
    have l2 := Gd.ac_pos (n := w) (t := t) (by omega) (by omega)
    walk_at "go"
    refine Gx.mp hx no_Frame_across ?_
    walk_at "go"
    refine cp_Frame_across ⟨dx, hx⟩ ht1 ht2 ?_
    walk_at "go"
    refine Gx.ic (by omega) ?_
    walk_at "go"
    refine Gx.ic (.inr (by omega)) ?_
    walk_at "go"
    refine Gx.ic ⟨by omega, by omega⟩ ?_
    walk_at "go"
    refine Gx.ic (.inr (by omega)) ?_
    walk_at "go"
    rw [← Int.natCast_emod, ← Int.natCast_ediv, ← Int.natCast_mul, ← Int.natCast_mul]
    exact Gx.tupP (by show 2 ≤ sizeLine; decide) q

theorem cp_tile_corner {C x : Addr} {w h d c t k : Nat} {H : Hp} {Q : VK} {E : XK} (f : Frm C H x w h d c t) (h1 : 1 ≤ t) (h2 : t ≤ 16) (hw1 : 1 ≤ w) (hw : w ≤ 64) (hk : k ≤ 100000) (q : ∀ p, H p = none → Q (.ref p) (upd H p (.tup [.int (k % Gd.ac w t * t : Nat), .int (k / Gd.ac w t * t : Nat)]))) :
    Gx.CP (sp_tile_corner C) [.ref x, .int (k : Int)] [] H Q E := ⟨x, w, h, d, c, t, k, rfl, f, h1, h2, hw1, hw, hk, q⟩
theorem cp0_tile_corner {C x : Addr} {w h d c t k : Nat} {H : Hp} {Q : VK} {E : XK} (f : Frm C H x w h d c t) (D : Rg.Dim w h d c t) (hk : k ≤ 100000) (q : ∀ p H', H p = none → Same H H' → H' p = some (.tup [.int (k % Gd.ac w t * t : Nat), .int (k / Gd.ac w t * t : Nat)]) → Q (.ref p) H') :
    Gx.CP (sp_tile_corner C) [.ref x, .int (k : Int)] [] H Q E := cp_tile_corner f D.t1 D.t2 D.w1 D.w2 hk (Nx.made0 q)

def sp_tile_size (C : Addr) : Sp := fun vs H Q _ => ∃ (x : Addr) (w h d c t k : Nat), vs = [.ref x, .int (k : Int)] ∧ Frm C H x w h d c t ∧ 1 ≤ t ∧ t ≤ 16 ∧ 1 ≤ w ∧ w ≤ 64 ∧ 1 ≤ h ∧ h ≤ 64 ∧ k < Gd.ac w t * Gd.ac h t ∧
  ∀ p H', H p = none → Same H H' → H' p = some (.tup [.int (Gd.sd w t (k % Gd.ac w t) : Nat), .int (Gd.sd h t (k / Gd.ac w t) : Nat)]) → Q (.ref p) H'

theorem sc_tile_size : FnScope ["frame", "tile", "left", "top"] ["frame", "tile"] (defScope s_tile_size) := ⟨rfl, rfl, rfl, by decide +kernel, rfl, by decide +kernel, by decide +kernel⟩
theorem ok_tile_size (T : Tx P K mg) : FnOk P w K mg base CX0 3 T.tile_size.a T.tile_size.d ["frame", "tile"] (sp_tile_size T.a_Frame) := by
  refine T.tile_size.f.ok sc_tile_size (fun vs H Q E h => ?_) (fun cdv A outer s H vs Q E hr h => ⟨_, pss_cons (ps_asg (pe_call (ok_tile_corner T) (hr.mono (by decide)) rfl T.tile_corner.g T.tile_corner.f.kp T.tile_corner.b .nil pass0 (pa_cons (pv 0) (pa_cons (pv 1) pa_nil))) (pg_tup rfl (pgs_cons (pg_name (i := 2) sc_tile_size.nd rfl (Or.inl rfl)) (pgs_cons (pg_name (i := 3) sc_tile_size.nd rfl (Or.inl rfl)) pgs_nil))))
      (pss_one (ps_ret (pe_tup (pa_cons (pe_callB (Gx.c_min2 rfl) rfl T.n_min (by decide +kernel) (pa_cons (pe_fld (pv 0) rfl) (pa_cons (pe_op op_sub (pe_fld (pv 0) rfl) (pv 2)) pa_nil))) (pa_cons (pe_callB (Gx.c_min2 rfl) rfl T.n_min (by decide +kernel) (pa_cons (pe_fld (pv 0) rfl) (pa_cons (pe_op op_sub (pe_fld (pv 0) rfl) (pv 3)) pa_nil))) pa_nil))))), ?_⟩)
  · obtain ⟨x, w, h, d, c, t, k, rfl, _⟩ := h
    rfl
  · skip
    obtain ⟨x, w, h, d, c, t, k, rfl, ⟨dx, hx⟩, ht1, ht2, hw1, hw, hh1, hh, hk, q⟩ := h
    have l1 := Gd.ac_le (n := w) (t := t) (by omega)
    have l2 := Gd.ac_pos (n := w) (t := t) (by omega) (by omega)
    have l3 := Gd.ac_le (n := h) (t := t) (by omega)
    have l4 : Gd.ac w t * Gd.ac h t ≤ 64 * 64 := Nat.mul_le_mul (by omega) (by omega)
    have m1 : k % Gd.ac w t < Gd.ac w t := Nat.mod_lt _ l2
    have m2 : k / Gd.ac w t < Gd.ac h t := Nat.div_lt_of_lt_mul hk
    walk_at "go"
    refine cp_tile_corner ⟨dx, hx⟩ ht1 ht2 hw1 hw (by omega) fun p hp => ?_
    refine Gx.gtup (SqT.of upd_same) rfl ?_
    have hx := Gx.same_new (o := .tup [.int (k % Gd.ac w t * t : Nat), .int (k / Gd.ac w t * t : Nat)]) hp _ _ hx
    walk_at "go"
    refine Gx.min2 ?_
    walk_at "go"
    refine Gx.min2 ?_
    walk_at "go"
    rw [Gd.sd_int (by omega) m1, Gd.sd_int (by omega) m2]
    refine Gx.tupP (by show 2 ≤ sizeLine; decide) fun p2 hp2 => ?_
    exact q p2 _ (((Gx.same_new hp).free hp2)) ((Gx.same_new hp).trans (Gx.same_new hp2)) upd_same

theorem cp_tile_size {C x : Addr} {w h d c t k : Nat} {H : Hp} {Q : VK} {E : XK} (f : Frm C H x w h d c t) (h1 : 1 ≤ t) (h2 : t ≤ 16) (hw1 : 1 ≤ w) (hw : w ≤ 64) (hh1 : 1 ≤ h) (hh : h ≤ 64) (hk : k < Gd.ac w t * Gd.ac h t)
    (q : ∀ p H', H p = none → Same H H' → H' p = some (.tup [.int (Gd.sd w t (k % Gd.ac w t) : Nat), .int (Gd.sd h t (k / Gd.ac w t) : Nat)]) → Q (.ref p) H') :
    Gx.CP (sp_tile_size C) [.ref x, .int (k : Int)] [] H Q E := ⟨x, w, h, d, c, t, k, rfl, f, h1, h2, hw1, hw, hh1, hh, hk, q⟩

def sp_touches (C : Addr) : Sp := fun vs H Q _ => ∃ (x p : Addr) (w h d c t k : Nat) (l tp wd ht : Int), vs = [.ref x, .ref p, .int (k : Int)] ∧ Frm C H x w h d c t ∧ Rg.Dim w h d c t ∧ k < Gd.ac w t * Gd.ac h t ∧ H p = some (.tup [.int l, .int tp, .int wd, .int ht]) ∧ ∀ H', Same H H' → Q (.bl (Rg.tch w h t k l tp wd ht)) H'

theorem sc_touches : FnScope ["frame", "rectangle", "tile", "left", "top", "width", "height", "tile_left", "tile_top", "tile_width", "tile_height", "beside", "above_or_below"] ["frame", "rectangle", "tile"] (defScope s_touches) := ⟨rfl, rfl, rfl, by decide +kernel, rfl, by decide +kernel, by decide +kernel⟩
theorem ok_touches (T : Tx P K mg) : FnOk P w K mg base CX0 4 T.touches.a T.touches.d ["frame", "rectangle", "tile"] (sp_touches T.a_Frame) := by
  refine T.touches.f.ok sc_touches (fun vs H Q E h => ?_) (fun cdv A outer s H vs Q E hr h => ⟨_, pss_cons (ps_asg (pv 1) (pg_tup rfl (pgs_cons (pg_name (i := 3) sc_touches.nd rfl (Or.inl rfl)) (pgs_cons (pg_name (i := 4) sc_touches.nd rfl (Or.inl rfl)) (pgs_cons (pg_name (i := 5) sc_touches.nd rfl (Or.inl rfl)) (pgs_cons (pg_name (i := 6) sc_touches.nd rfl (Or.inl rfl)) pgs_nil))))))
      (pss_cons (ps_asg (pe_call (ok_tile_corner T) (hr.mono (by decide)) rfl T.tile_corner.g T.tile_corner.f.kp T.tile_corner.b .nil pass0 (pa_cons (pv 0) (pa_cons (pv 2) pa_nil))) (pg_tup rfl (pgs_cons (pg_name (i := 7) sc_touches.nd rfl (Or.inl rfl)) (pgs_cons (pg_name (i := 8) sc_touches.nd rfl (Or.inl rfl)) pgs_nil))))
      (pss_cons (ps_asg (pe_call (ok_tile_size T) (hr.mono (by decide)) rfl T.tile_size.g T.tile_size.f.kp T.tile_size.b .nil pass0 (pa_cons (pv 0) (pa_cons (pv 2) pa_nil))) (pg_tup rfl (pgs_cons (pg_name (i := 9) sc_touches.nd rfl (Or.inl rfl)) (pgs_cons (pg_name (i := 10) sc_touches.nd rfl (Or.inl rfl)) pgs_nil))))
      (pss_cons (ps_set (i := 11) sc_touches.nd rfl (Or.inl rfl) (Gx.pe_orW (pe_or (pe_cmpR op_le (pe_op op_add (pv 7) (pv 9)) (pv 3) (nomark _)) (pe_one (pe_cmpR op_le (pe_op op_add (pv 3) (pv 5)) (pv 7) (nomark _))))))
      (pss_cons (ps_set (i := 12) sc_touches.nd rfl (Or.inl rfl) (Gx.pe_orW (pe_or (pe_cmpR op_le (pe_op op_add (pv 8) (pv 10)) (pv 4) (nomark _)) (pe_one (pe_cmpR op_le (pe_op op_add (pv 4) (pv 6)) (pv 8) (nomark _))))))
      (pss_one (ps_ret (Gx.pe_andW (pe_and (pe_not (pv 11)) (pe_one (pe_not (pv 12))))))))))), ?_⟩)
  · obtain ⟨x, p, w, h, d, c, t, k, l, tp, wd, ht, rfl, _⟩ := h
    rfl
  · skip
    obtain ⟨x, p, w, h, d, c, t, k, l, tp, wd, ht, rfl, fr, D, hk, hp, q⟩ := h
    obtain ⟨l1, l2, l3, l4, l5, l6, l7⟩ := D.ok
    walk_at "run"
    refine cp0_tile_corner fr D (by omega) fun p1 H1 n1 s1 h1 => ?_
    walk_at "run"
    refine cp_tile_size (fr.keep s1) D.t1 D.t2 D.w1 D.w2 D.h1 D.h2 hk fun p2 H2 n2 s2 h2 => ?_
    walk_at "run"
    refine Gx.orp (d := decide (l + wd ≤ ((k % Gd.ac w t * t : Nat) : Int))) (fun R hR => ?_) ?_
    · walk_at "run"
      exact hR
    rw [← Int.natCast_add]
    walk_at "run"
    refine Gx.orp (d := decide (tp + ht ≤ ((k / Gd.ac w t * t : Nat) : Int))) (fun R hR => ?_) ?_
    · walk_at "run"
      exact hR
    rw [← Int.natCast_add]
    walk_at "run"
    refine Gx.andp (d := !(decide (((k / Gd.ac w t * t + Gd.sd h t (k / Gd.ac w t) : Nat) : Int) ≤ tp) || decide (tp + ht ≤ ((k / Gd.ac w t * t : Nat) : Int)))) (fun R hR => ?_) ?_
    · walk_at "run"
      exact hR
    exact q _ (s1.trans s2)

theorem cp_touches {C x p : Addr} {w h d c t k : Nat} {l tp wd ht : Int} {H : Hp} {Q : VK} {E : XK} (f : Frm C H x w h d c t) (D : Rg.Dim w h d c t) (hk : k < Gd.ac w t * Gd.ac h t) (hp : H p = some (.tup [.int l, .int tp, .int wd, .int ht])) (q : ∀ H', Same H H' → Q (.bl (Rg.tch w h t k l tp wd ht)) H') :
    Gx.CP (sp_touches C) [.ref x, .ref p, .int (k : Int)] [] H Q E := ⟨x, p, w, h, d, c, t, k, l, tp, wd, ht, rfl, f, D, hk, hp, q⟩

def sp_boost (K : PySem.W.Frag) (C : Addr) : Sp := fun vs H Q _ => ∃ (x p : Addr) (w h d c t k : Nat) (rs : List (List Int)), vs = [.ref x, .ref p, .int (k : Int)] ∧ Frm C H x w h d c t ∧ Rg.Dim w h d c t ∧ k < Gd.ac w t * Gd.ac h t ∧ Rg.RL H p rs ∧ rs.length ≤ 1000 ∧ (∀ r ∈ rs, Rg.Reg r) ∧ ∀ H', Same H H' → Q (.int (Rg.bst w h t rs k)) H'

theorem sc_boost : FnScope ["frame", "regions", "tile", "region"] ["frame", "regions", "tile"] (defScope s_boost) := ⟨rfl, rfl, rfl, by decide +kernel, rfl, by decide +kernel, by decide +kernel⟩
theorem ok_boost (T : Tx P K mg) : FnOk P w K mg base CX0 5 T.boost.a T.boost.d ["frame", "regions", "tile"] (sp_boost K T.a_Frame) := by
  refine T.boost.f.ok sc_boost (fun vs H Q E h => ?_) (fun cdv A outer s H vs Q E hr h => ⟨_, pss_one (ps_ret (pe_callBK (Mx.cr_maxDef rfl) rfl T.n_max (by decide +kernel) (pa_cons (pe_lc (own := [("region", 3)]) (g := (gName 3)) rfl sc_boost.nd (pi_list (pv 1)) (blkOk_by (own := [("region", 3)]) (N := ["frame", "regions", "tile", "region"]) (sc := defScope s_boost) (by decide +kernel)) (fun _ _ _ _ _ => (pg_name (i := 3) sc_boost.nd rfl (Or.inl rfl))) (fun _ _ _ _ _ => pts_one (pt_val (pe_call (ok_touches T) (hr.mono (by decide)) rfl T.touches.g T.touches.f.kp T.touches.b .nil pass0 (pa_cons (pv 0) (pa_cons (pe_slice (Nx.sl_tupK (K := K) rfl) (pv 3) po_none (po_some (pe_int))) (pa_cons (pv 2) pa_nil)))))) (fun _ _ _ _ _ => pe_ix (Gx.ix_seqK (K := K) rfl) (pv 3) (pe_int) (fun _ _ => rfl))) pa_nil) (pk_cons (pe_int) pk_nil))), ?_⟩)
  · obtain ⟨x, p, w, h, d, c, t, k, rs, rfl, _⟩ := h
    rfl
  · skip
    obtain ⟨x, p, w, h, d, c, t, k, rs, rfl, fr, D, hk, hp, hlen, hrs, q⟩ := h
    obtain ⟨xs, h1, h2, h3⟩ := hp.all
    walk_at "run"
    refine Gx.lp (SqL.of h1) ?_
    refine Gx.lcFil walk_list (by omega) (fun j => Rg.hit w h t k (rs.getD j [])) (fun j => .int ((rs.getD j []).getD 4 0)) (fun _ s => s.seq (SqL.of h1)) Gx.sameAt ?_ ?_
    · rintro i y H3 H3' R R0 hi s3 ⟨rfl, hy⟩ hr hn
      obtain ⟨a, rfl, hj, ha⟩ := h3 i y hy
      obtain ⟨l, tp, wd, ht, bo, e, h5⟩ := hrs _ (Rg.getD_mem hj)
      rw [e] at ha hr hn
      have ha := s3 _ _ ha
      walk_at "run"
      refine Nx.slT0 (SqT.of ha) (by show ¬ (HT.sIx 5 0 none = 0 ∧ HT.sIx 5 5 (some 4) = 5); decide) fun p1 H4 n4 s4 h4 => ?_
      rw [show cutV (List.map V.int [l, tp, wd, ht, bo]) none (some 4) = [.int l, .int tp, .int wd, .int ht] from rfl] at h4
      walk_at "run"
      refine cp_touches ((fr.keep s3).keep s4) D hk h4 fun H5 s5 => ?_
      have e1 : Rg.hit w h t k [l, tp, wd, ht, bo] = Rg.tch w h t k l tp wd ht := rfl
      walk_at "run"
      refine Gx.if_b (fun c1 => ?_) (fun c1 => ?_)
      · walk_at "run"
        exact hr (by rw [e1]; exact c1) _ (s4.trans s5)
      · exact hn (by rw [e1]; exact c1) _ (s4.trans s5)
    intro lp H2 nl s2 hL
    rw [h2, Rg.bvals_range] at hL
    walk_at "run"
    refine Mx.maxD (SqL.of hL) (fun e => ?_) (fun m h1 h2 => ?_)
    · have := q H2 s2
      rw [show Rg.bst w h t rs k = 0 by unfold Rg.bst; rw [e]; rfl] at this
      exact this
    · have := q H2 s2
      rw [show Rg.bst w h t rs k = m from (Rg.mx_of (Rg.bvals_nn hrs) h1 h2).symm] at this
      exact this

theorem cp_boost {K : PySem.W.Frag} {C x p : Addr} {w h d c t k : Nat} {rs : List (List Int)} {H : Hp} {Q : VK} {E : XK} (f : Frm C H x w h d c t) (D : Rg.Dim w h d c t) (hk : k < Gd.ac w t * Gd.ac h t) (hp : Rg.RL H p rs) (hl : rs.length ≤ 1000) (hr : ∀ r ∈ rs, Rg.Reg r) (q : ∀ H', Same H H' → Q (.int (Rg.bst w h t rs k)) H') :
    Gx.CP (sp_boost K C) [.ref x, .ref p, .int (k : Int)] [] H Q E := ⟨x, p, w, h, d, c, t, k, rs, rfl, f, D, hk, hp, hl, hr, q⟩

def sp_all_scores (K : PySem.W.Frag) (C : Addr) : Sp := fun vs H Q _ => ∃ (x p : Addr) (w h d c t : Nat) (rs : List (List Int)), vs = [.ref x, .ref p] ∧ Frm C H x w h d c t ∧ Rg.Dim w h d c t ∧ Rg.RL H p rs ∧ Rg.RegsOk rs ∧ ∀ q H', H q = none → Same H H' → H' q = some (.lst (((List.range (d * c * (Gd.ac w t * Gd.ac h t))).map (Pl.sc w h d c t rs)).map V.int)) → Q (.ref q) H'

theorem sc_all_scores : FnScope ["frame", "regions", "boosts", "tile", "_", "plane"] ["frame", "regions"] (defScope s_all_scores) := ⟨rfl, rfl, rfl, by decide +kernel, rfl, by decide +kernel, by decide +kernel⟩
theorem ok_all_scores (T : Tx P K mg) : FnOk P w K mg base CX0 6 T.all_scores.a T.all_scores.d ["frame", "regions"] (sp_all_scores K T.a_Frame) := by
  refine T.all_scores.f.ok sc_all_scores (fun vs H Q E h => ?_) (fun cdv A outer s H vs Q E hr h => ⟨_, pss_cons (ps_set (i := 2) sc_all_scores.nd rfl (Or.inr rfl) (pe_lc (own := [("tile", 3)]) (g := (gName 3)) (tt := tYes) rfl sc_all_scores.nd (pi_range1 rfl T.n_range (pa_cons (pe_meth0 (pv 0) T.cl_Frame T.Frame_tiles.m (ok_Frame_tiles T) (hr.mono (by decide)) T.Frame_tiles.b .nil pass0) pa_nil)) (blkOk_by (own := [("tile", 3)]) (N := ["frame", "regions", "boosts", "tile", "_", "plane"]) (sc := defScope s_all_scores) (by decide +kernel)) (fun _ _ _ _ _ => (pg_name (i := 3) sc_all_scores.nd rfl (Or.inl rfl))) (fun _ _ _ _ _ => pts_nil) (fun _ _ _ _ _ => pe_call (ok_boost T) (hr.mono (by decide)) rfl T.boost.g T.boost.f.kp T.boost.b .nil pass0 (pa_cons (pv 0) (pa_cons (pv 1) (pa_cons (pv 3) pa_nil))))))
      (pss_one (ps_ret (pe_lc (own := [("_", 4), ("tile", 3), ("plane", 5)]) (g := (gTup K 3 (gCons (gName 4) (gCons (gName 3) (gCons (gName 5) gNil))))) (tt := tYes) rfl sc_all_scores.nd (pi_list (pe_call (ok_all_keys T) (hr.mono (by decide)) rfl T.all_keys.g T.all_keys.f.kp T.all_keys.b .nil pass0 (pa_cons (pv 0) pa_nil))) (blkOk_by (own := [("_", 4), ("tile", 3), ("plane", 5)]) (N := ["frame", "regions", "boosts", "tile", "_", "plane"]) (sc := defScope s_all_scores) (by decide +kernel)) (fun _ _ _ _ _ => (Nx.pg_tupK (K := K) rfl rfl (pgs_cons (pg_name (i := 4) sc_all_scores.nd rfl (Or.inl rfl)) (pgs_cons (pg_name (i := 3) sc_all_scores.nd rfl (Or.inl rfl)) (pgs_cons (pg_name (i := 5) sc_all_scores.nd rfl (Or.inl rfl)) pgs_nil))) rfl rfl)) (fun _ _ _ _ _ => pts_nil) (fun _ _ _ _ _ => pe_op op_add (pv 5) (pe_ix (Gx.ix_seqK (K := K) rfl) (pv 2) (pv 3) (fun _ _ => rfl)))))), ?_⟩)
  · obtain ⟨x, p, w, h, d, c, t, rs, rfl, _⟩ := h
    rfl
  · skip
    obtain ⟨x, p, w, h, d, c, t, rs, rfl, fr, D, hp, ok, q⟩ := h
    obtain ⟨l1, l2, l3, l4, l5, l6, l7, l8, l9⟩ := D.ok
    have l10 : d * c * (Gd.ac w t * Gd.ac h t) ≤ 8 * 3 * (64 * 64) := Nat.mul_le_mul (Nat.mul_le_mul D.d2 l8) l6
    have hreg : ∀ r ∈ rs, Rg.Reg r := fun r hr => (ok.2 r hr).reg
    obtain ⟨dx, hx⟩ := id fr
    walk_at "run"
    refine Gx.mp hx no_Frame_tiles ?_
    walk_at "run"
    refine cp_Frame_tiles fr D.t1 D.t2 D.w2 D.h2 ?_
    walk_at "run"
    refine Gx.r1 (by omega) (by omega) ?_
    refine Gx.lcMap walk_range (by omega) (fun k => .int (Rg.bst w h t rs k)) (fun _ _ => trivial) Gx.sameFn ?_ ?_
    · rintro k y H3 H3' R R0 hk s3 ⟨rfl, hy⟩ hr
      rw [Int.toNat_natCast] at hk
      have hy2 : y = .int (k : Int) := hy.trans (congrArg V.int (by omega))
      subst hy2
      walk_at "run"
      exact cp_boost (fr.keep s3) D hk (hp.keep s3) (by have := ok.1; omega) hreg fun H4 s4 => hr _ s4
    rw [Int.toNat_natCast]
    intro bq H1 n1 s1 h1
    walk_at "run"
    refine cp_all_keys (fr.keep s1) D.t1 D.t2 D.w1 D.w2 D.h1 D.h2 l7 l8 D.d2 fun kq H2 n2 s2 hK => ?_
    obtain ⟨ps, e1, e2, e3⟩ := id hK
    walk_at "run"
    refine Gx.lp (SqL.of e1) ?_
    refine Gx.lcMap (walk_list (xs := ps.map V.ref)) (by rw [List.length_map]; omega) (fun k => .int (Pl.sc w h d c t rs k)) (fun _ s => s.seq (SqL.of e1)) Gx.sameAt ?_ ?_
    · rintro k y H3 H3' R R0 hk s3 ⟨rfl, hy⟩ hr
      rw [List.length_map] at hk
      obtain ⟨a, rfl, ha⟩ : ∃ a, y = .ref a ∧ H2 a = some (.tup ((Gd.ky (Gd.ac w t * Gd.ac h t) c d k).map V.int)) := by
        rw [List.getElem?_map, List.getElem?_eq_getElem hk] at hy
        exact ⟨_, (Option.some.inj hy).symm, e3 k _ (List.getElem?_eq_getElem hk)⟩
      have ha := s3 _ _ ha
      rw [Gd.ky_at (by omega)] at ha
      have hm : k % (Gd.ac w t * Gd.ac h t) < Gd.ac w t * Gd.ac h t := Nat.mod_lt _ l5
      have e0 : Pl.sc w h d c t rs k = (d : Int) - 1 - ((k / (Gd.ac w t * Gd.ac h t) / c : Nat) : Int) + Rg.bst w h t rs (k % (Gd.ac w t * Gd.ac h t)) := by
        unfold Pl.sc
        rw [Gd.ky_at (by omega)]; rfl
      rw [e0] at hr
      generalize Gd.ac w t * Gd.ac h t = N at *
      generalize k / N / c = u at *
      generalize k / N % c = v at *
      have ha : H3' a = some (.tup [.int (v : Int), .int ((k % N : Nat) : Int), .int ((d : Int) - 1 - (u : Int))]) := ha
      generalize k % N = m at *
      have hb3 : H3' bq = some (.lst ((List.range N).map fun k => .int (Rg.bst w h t rs k))) := by walk_at "fact"
      walk_at "run"
      refine Gx.ixL (SqL.of hb3) (atI_nat (by rw [List.getElem?_map, List.getElem?_range hm]; rfl)) ?_
      walk_at "run"
      exact hr _ (Same.refl _)
    intro q1 H3 n3 s3 h3
    rw [List.length_map, e2] at h3
    refine q q1 H3 ((s1.trans s2).free n3) (by walk_at "xsame") ?_
    rw [h3, List.map_map]; rfl

theorem cp_all_scores {K : PySem.W.Frag} {C x p : Addr} {w h d c t : Nat} {rs : List (List Int)} {H : Hp} {Q : VK} {E : XK} (f : Frm C H x w h d c t) (D : Rg.Dim w h d c t) (hp : Rg.RL H p rs) (ok : Rg.RegsOk rs) (q : ∀ q H', H q = none → Same H H' → H' q = some (.lst (((List.range (d * c * (Gd.ac w t * Gd.ac h t))).map (Pl.sc w h d c t rs)).map V.int)) → Q (.ref q) H') :
    Gx.CP (sp_all_scores K C) [.ref x, .ref p] [] H Q E := ⟨x, p, w, h, d, c, t, rs, rfl, f, D, hp, ok, q⟩

/-- a number against its bounds -/
def sp_check_range (C : Addr) : Sp := fun vs H Q E => ∃ (z : Str) (v l m : Int), vs = [.str z, .int v, .int l, .int m] ∧ z.length ≤ 1000 ∧ (l ≤ v → v ≤ m → Q .non H) ∧ (¬ (l ≤ v ∧ v ≤ m) → Sx.Err C H z E)

theorem sc_check_range : FnScope ["name", "value", "least", "most"] ["name", "value", "least", "most"] (defScope s_check_range) := ⟨rfl, rfl, rfl, by decide +kernel, rfl, by decide +kernel, by decide +kernel⟩
theorem ok_check_range (T : Tx P K mg) : FnOk P w K mg base (L2.CX P w) 3 T.check_range.a T.check_range.d ["name", "value", "least", "most"] (sp_check_range T.x_OutOfRange.C) := by
  refine T.check_range.f.okX sc_check_range (fun vs H Q E h => ?_) (fun cdv A outer s H vs Q E hr h => ⟨_, pss_one (ps_if (PW.pt (pw_or (pt_cmpR op_lt (pv 1) (pv 2) (nomark _)) (pw_or1 (pt_cmpR op_gt (pv 1) (pv 3) (nomark _))))) (pss_one (ps_raise rfl (takes_of rfl rfl rfl rfl) (pmk_oex T.x_OutOfRange.o T.x_OutOfRange.i T.x_OutOfRange.t (ok_OutOfRange___init__ T) (hr.mono (by decide)) T.x_OutOfRange.b .nil pass0 rfl T.x_OutOfRange.g (pa_cons (pv 0) pa_nil)))) (pss_nil)), ?_⟩)
  · obtain ⟨z, v, l, m, rfl, _⟩ := h
    rfl
  · skip
    obtain ⟨z, v, l, m, rfl, hz, q, qe⟩ := h
    walk_at "go"
    refine Gx.if_d (fun h => ?_) (fun h => ?_)
    · walk_at "go"
      exact Sx.mkO hz (qe (by omega)).now fun R h => by walk_at "go"; exact h
    walk_at "go"
    refine Gx.if_d (fun h2 => ?_) (fun h2 => ?_)
    · walk_at "go"
      exact Sx.mkO hz (qe (by omega)).now fun R h => by walk_at "go"; exact h
    walk_at "go"
    exact q (by omega) (by omega)

theorem cpx_check_range {C : Addr} {z : Str} {v l m : Int} {H : Hp} {Q : VK} {E : XK} (q : l ≤ v → v ≤ m → Q .non H) (qe : ¬ (l ≤ v ∧ v ≤ m) → Sx.Err C H z E) (hz : z.length ≤ 1000 := by decide) : Gx.CP (sp_check_range C) [.str z, .int v, .int l, .int m] [] H Q E := ⟨z, v, l, m, rfl, hz, q, qe⟩
theorem cs_check_range {C : Addr} {z : Str} {v l m : Int} {H : Hp} {Q : VK} {E : XK} (q : l ≤ v → v ≤ m → Q .non H) (qe : ¬ (l ≤ v ∧ v ≤ m) → Sx.Err C H z E) (hz : z.length ≤ 1000 := by decide) : Sx.CS (sp_check_range C) [.str z, .int v, .int l, .int m] H Q E := ⟨z, v, l, m, rfl, hz, q, qe⟩
theorem cp_check_range {C : Addr} {z : Str} {v l m : Int} {H : Hp} {Q : VK} {E : XK} (h1 : l ≤ v) (h2 : v ≤ m) (q : Q .non H) (hz : z.length ≤ 1000 := by decide) : Gx.CP (sp_check_range C) [.str z, .int v, .int l, .int m] [] H Q E := ⟨z, v, l, m, rfl, hz, fun _ _ => q, fun h => absurd ⟨h1, h2⟩ h⟩

def sidesOk (l p w h : Int) : Prop := (0 ≤ l ∧ l ≤ 63) ∧ (0 ≤ p ∧ p ≤ 63) ∧ (1 ≤ w ∧ w ≤ 64) ∧ (1 ≤ h ∧ h ≤ 64)
def sp_check_sides (C : Addr) : Sp := fun vs H Q E => ∃ (z : Str) (l p w h : Int), vs = [.str z, .int l, .int p, .int w, .int h] ∧ z.length ≤ 1000 ∧ (sidesOk l p w h → Q .non H) ∧ (¬ sidesOk l p w h → Sx.Err C H z E)

theorem sc_check_sides : FnScope ["name", "left", "top", "width", "height"] ["name", "left", "top", "width", "height"] (defScope s_check_sides) := ⟨rfl, rfl, rfl, by decide +kernel, rfl, by decide +kernel, by decide +kernel⟩
theorem ok_check_sides (T : Tx P K mg) : FnOk P w K mg base (L2.CX P w) 4 T.check_sides.a T.check_sides.d ["name", "left", "top", "width", "height"] (sp_check_sides T.x_OutOfRange.C) := by
  refine T.check_sides.f.okX sc_check_sides (fun vs H Q E h => ?_) (fun cdv A outer s H vs Q E hr h => ⟨_, pss_cons (ps_expr (pe_callS (ok_check_range T) (hr.mono (by decide)) rfl T.check_range.g T.check_range.f.kp T.check_range.b (fun σ => passAt (takes_of rfl rfl rfl rfl) σ) (pa_cons (pv 0) (pa_cons (pv 1) (pa_cons (pe_int) (pa_cons (pe_op op_sub (pe_glob (v := .int 64) rfl T.c_SIDE_MOST ⟨_, rfl⟩) (pe_int)) pa_nil))))))
      (pss_cons (ps_expr (pe_callS (ok_check_range T) (hr.mono (by decide)) rfl T.check_range.g T.check_range.f.kp T.check_range.b (fun σ => passAt (takes_of rfl rfl rfl rfl) σ) (pa_cons (pv 0) (pa_cons (pv 2) (pa_cons (pe_int) (pa_cons (pe_op op_sub (pe_glob (v := .int 64) rfl T.c_SIDE_MOST ⟨_, rfl⟩) (pe_int)) pa_nil))))))
      (pss_cons (ps_expr (pe_callS (ok_check_range T) (hr.mono (by decide)) rfl T.check_range.g T.check_range.f.kp T.check_range.b (fun σ => passAt (takes_of rfl rfl rfl rfl) σ) (pa_cons (pv 0) (pa_cons (pv 3) (pa_cons (pe_int) (pa_cons (pe_glob (v := .int 64) rfl T.c_SIDE_MOST ⟨_, rfl⟩) pa_nil))))))
      (pss_one (ps_expr (pe_callS (ok_check_range T) (hr.mono (by decide)) rfl T.check_range.g T.check_range.f.kp T.check_range.b (fun σ => passAt (takes_of rfl rfl rfl rfl) σ) (pa_cons (pv 0) (pa_cons (pv 4) (pa_cons (pe_int) (pa_cons (pe_glob (v := .int 64) rfl T.c_SIDE_MOST ⟨_, rfl⟩) pa_nil))))))))), ?_⟩)
  · obtain ⟨z, l, p, w, h, rfl, _⟩ := h
    rfl
  · skip
    obtain ⟨z, l, p, w, h, rfl, hz, q, qe⟩ := h
    walk_at "run"
    refine cs_check_range (fun a1 a2 => ?_) (fun n => qe fun k => n k.1) hz
    walk_at "run"
    refine cs_check_range (fun b1 b2 => ?_) (fun n => qe fun k => n k.2.1) hz
    walk_at "run"
    refine cs_check_range (fun c1 c2 => ?_) (fun n => qe fun k => n k.2.2.1) hz
    walk_at "run"
    refine cs_check_range (fun d1 d2 => ?_) (fun n => qe fun k => n k.2.2.2) hz
    walk_at "run"
    exact q ⟨⟨a1, a2⟩, ⟨b1, b2⟩, ⟨c1, c2⟩, d1, d2⟩

theorem cs_check_sides {C : Addr} {z : Str} {l p w h : Int} {H : Hp} {Q : VK} {E : XK} (q : sidesOk l p w h → Q .non H) (qe : ¬ sidesOk l p w h → Sx.Err C H z E) (hz : z.length ≤ 1000 := by decide) : Sx.CS (sp_check_sides C) [.str z, .int l, .int p, .int w, .int h] H Q E := ⟨z, l, p, w, h, rfl, hz, q, qe⟩

def sp_check_regions (K : PySem.W.Frag) (C : Addr) : Sp := fun vs H Q E => ∃ (p : Addr) (rs : List (List Int)), vs = [.ref p] ∧ Rg.RL H p rs ∧ rs.length ≤ 1000 ∧ (∀ r ∈ rs, r.length = 5) ∧ (Rg.RegsOk rs → Q .non H) ∧ (¬ Rg.RegsOk rs → Sx.Err C H "regions" E)

theorem sc_check_regions : FnScope ["regions", "left", "top", "width", "height", "worth"] ["regions"] (defScope s_check_regions) := ⟨rfl, rfl, rfl, by decide +kernel, rfl, by decide +kernel, by decide +kernel⟩
theorem ok_check_regions (T : Tx P K mg) : FnOk P w K mg base (L2.CX P w) 5 T.check_regions.a T.check_regions.d ["regions"] (sp_check_regions K T.x_OutOfRange.C) := by
  refine T.check_regions.f.okX sc_check_regions (fun vs H Q E h => ?_) (fun cdv A outer s H vs Q E hr h => ⟨_, pss_cons (ps_if (pt_cmpR op_gt (pe_callB (Gx.c_lenK (K := K) rfl) rfl T.n_len (by decide +kernel) (pa_cons (pv 0) pa_nil)) (pe_glob (v := .int 16) rfl T.c_REGIONS_MOST ⟨_, rfl⟩) (nomark _)) (pss_one (ps_raise rfl (takes_of rfl rfl rfl rfl) (pmk_oex T.x_OutOfRange.o T.x_OutOfRange.i T.x_OutOfRange.t (ok_OutOfRange___init__ T) (hr.mono (by decide)) T.x_OutOfRange.b .nil pass0 rfl T.x_OutOfRange.g (pa_cons (pe_str) pa_nil)))) (pss_nil))
      (pss_one (ps_for (passes_of rfl) rfl (pi_list (pv 0)) (pg_tup rfl (pgs_cons (pg_name (i := 1) sc_check_regions.nd rfl (Or.inl rfl)) (pgs_cons (pg_name (i := 2) sc_check_regions.nd rfl (Or.inl rfl)) (pgs_cons (pg_name (i := 3) sc_check_regions.nd rfl (Or.inl rfl)) (pgs_cons (pg_name (i := 4) sc_check_regions.nd rfl (Or.inl rfl)) (pgs_cons (pg_name (i := 5) sc_check_regions.nd rfl (Or.inl rfl)) pgs_nil))))))
      (pss_cons (ps_expr (pe_callS (ok_check_sides T) (hr.mono (by decide)) rfl T.check_sides.g T.check_sides.f.kp T.check_sides.b (fun σ => passAt (takes_of rfl rfl rfl rfl) σ) (pa_cons (pe_str) (pa_cons (pv 1) (pa_cons (pv 2) (pa_cons (pv 3) (pa_cons (pv 4) pa_nil)))))))
      (pss_one (ps_expr (pe_callS (ok_check_range T) (hr.mono (by decide)) rfl T.check_range.g T.check_range.f.kp T.check_range.b (fun σ => passAt (takes_of rfl rfl rfl rfl) σ) (pa_cons (pe_str) (pa_cons (pv 5) (pa_cons (pe_int) (pa_cons (pe_glob (v := .int 16) rfl T.c_BOOST_MOST ⟨_, rfl⟩) pa_nil)))))))))), ?_⟩)
  · obtain ⟨p, rs, rfl, _⟩ := h
    rfl
  · skip
    obtain ⟨p, rs, rfl, hp, hl, h5, q, qe⟩ := h
    obtain ⟨xs, r1, r2, r3⟩ := hp.all
    walk_at "run"
    refine Gx.lenL (SqL.of r1) ?_
    walk_at "run"
    refine Gx.if_d (fun c => ?_) (fun c => ?_)
    · walk_at "run"
      exact Sx.mkO (by decide) (qe fun k => by have := k.1; omega).now fun R h => by walk_at "run"; exact h
    walk_at "run"
    refine Gx.lp (SqL.of r1) ?_
    refine Gx.fw (walk_list (xs := xs)) (fun i σ' H' => H' = H ∧ (∀ j, j < i → j < rs.length → Rg.RegB (rs.getD j [])) ∧ ∃ v1 v2 v3 v4 v5 : Option V, σ' = [some (.ref p), v1, v2, v3, v4, v5]) ⟨rfl, (fun j h => absurd h (Nat.not_lt_zero _)), none, none, none, none, none, rfl⟩ (fun i σ' H' _ hh => by rw [hh.1]; exact SqL.of r1) ?_ ?_
    · rintro i y σ' H2 H2' hi ⟨rfl, hj, v1, v2, v3, v4, v5, rfl⟩ ⟨rfl, hy⟩
      obtain ⟨ra, rfl, hi2, hra⟩ := r3 i y hy
      have hlen := h5 _ (Rg.getD_mem hi2)
      obtain ⟨l, tp, wd, ht, bo, e⟩ : ∃ l tp wd ht bo : Int, rs.getD i [] = [l, tp, wd, ht, bo] := by
        match rs.getD i [], hlen with
        | [l, tp, wd, ht, bo], _ => exact ⟨_, _, _, _, _, rfl⟩
      have bad : ¬ Rg.RegB [l, tp, wd, ht, bo] → Sx.Err T.x_OutOfRange.C H2' "regions" E := fun n => qe fun k => n (by rw [← e]; exact k.2 _ (Rg.getD_mem hi2))
      have bad2 : ¬ (sidesOk l tp wd ht ∧ (0 ≤ bo ∧ bo ≤ 16)) → Sx.Err T.x_OutOfRange.C H2' "regions" E := fun n => bad fun ⟨l', tp', wd', ht', bo', e', k⟩ => by
        cases e'
        exact n ⟨⟨k.1, k.2.1, k.2.2.1, k.2.2.2.1⟩, k.2.2.2.2⟩
      rw [e] at hra
      have hra : H2' ra = some (.tup [.int l, .int tp, .int wd, .int ht, .int bo]) := hra
      walk_at "run"
      refine cs_check_sides (fun k1 => ?_) (fun n => bad2 fun k => n k.1)
      walk_at "run"
      refine cs_check_range (fun k2 k3 => ?_) (fun n => bad2 fun k => n k.2)
      walk_at "run"
      refine ⟨rfl, fun j h1 h2 => ?_, _, _, _, _, _, rfl⟩
      rcases Nat.lt_or_ge j i with z | z
      · exact hj j z h2
      · rw [show j = i by omega, e]
        exact ⟨_, _, _, _, _, rfl, k1.1, k1.2.1, k1.2.2.1, k1.2.2.2, k2, k3⟩
    rintro σ' H2 ⟨rfl, hj, v1, v2, v3, v4, v5, rfl⟩
    walk_at "run"
    refine q ⟨by omega, fun r hr => ?_⟩
    obtain ⟨j, hj2, rfl⟩ := List.getElem_of_mem hr
    have := hj j (by omega) hj2
    rw [List.getD_eq_getElem?_getD, List.getElem?_eq_getElem hj2] at this
    exact this

theorem cs_check_regions {K : PySem.W.Frag} {C p : Addr} {rs : List (List Int)} {H : Hp} {Q : VK} {E : XK} (hp : Rg.RL H p rs) (hl : rs.length ≤ 1000) (h5 : ∀ r ∈ rs, r.length = 5) (q : Rg.RegsOk rs → Q .non H) (qe : ¬ Rg.RegsOk rs → Sx.Err C H "regions" E) : Sx.CS (sp_check_regions K C) [.ref p] H Q E := ⟨p, rs, rfl, hp, hl, h5, q, qe⟩
theorem cp_check_regions {K : PySem.W.Frag} {C p : Addr} {rs : List (List Int)} {H : Hp} {Q : VK} {E : XK} (hp : Rg.RL H p rs) (ok : Rg.RegsOk rs) (h5 : ∀ r ∈ rs, r.length = 5) (q : Q .non H) : Gx.CP (sp_check_regions K C) [.ref p] [] H Q E := ⟨p, rs, rfl, hp, by have := ok.1; omega, h5, fun _ => q, fun n => absurd ok n⟩

def sp_bound (K : PySem.W.Frag) (CE C : Addr) : Sp := fun vs H Q E => ∃ (x p : Addr) (w h d c t : Nat) (rs : List (List Int)) (n : Int), vs = [.ref x, .ref p, .int n] ∧ Frm C H x w h d c t ∧ Rg.Dim w h d c t ∧ Rg.RL H p rs ∧ rs.length ≤ 1000 ∧ (∀ r ∈ rs, r.length = 5) ∧
  (Rg.RegsOk rs → 0 ≤ n → n ≤ (d * c * (Gd.ac w t * Gd.ac h t) : Nat) → ∀ H', Same H H' → Q (.int (Pl.bd w h d c t rs n.toNat)) H') ∧ (¬ Rg.RegsOk rs → Sx.Err CE H "regions" E) ∧ (Rg.RegsOk rs → ¬ (0 ≤ n ∧ n ≤ (d * c * (Gd.ac w t * Gd.ac h t) : Nat)) → Sx.Err CE H "count" E)

theorem sc_bound : FnScope ["frame", "regions", "count", "points"] ["frame", "regions", "count"] (defScope s_bound) := ⟨rfl, rfl, rfl, by decide +kernel, rfl, by decide +kernel, by decide +kernel⟩
theorem ok_bound (T : Tx P K mg) : FnOk P w K mg base (L2.CX P w) 7 T.bound.a T.bound.d ["frame", "regions", "count"] (sp_bound K T.x_OutOfRange.C T.a_Frame) := by
  refine T.bound.f.okX sc_bound (fun vs H Q E h => ?_) (fun cdv A outer s H vs Q E hr h => ⟨_, pss_cons (ps_expr (pe_callS (ok_check_regions T) (hr.mono (by decide)) rfl T.check_regions.g T.check_regions.f.kp T.check_regions.b (fun σ => passAt (takes_of rfl rfl rfl rfl) σ) (pa_cons (pv 1) pa_nil)))
      (pss_cons (ps_expr (pe_callS (ok_check_range T) (hr.mono (by decide)) rfl T.check_range.g T.check_range.f.kp T.check_range.b (fun σ => passAt (takes_of rfl rfl rfl rfl) σ) (pa_cons (pe_str) (pa_cons (pv 2) (pa_cons (pe_int) (pa_cons (pe_meth0 (pv 0) T.cl_Frame T.Frame_packets.m (ok_Frame_packets T) (hr.mono (by decide)) T.Frame_packets.b .nil pass0) pa_nil))))))
      (pss_cons (ps_if (pt_cmpR op_eq (pv 2) (pe_meth0 (pv 0) T.cl_Frame T.Frame_packets.m (ok_Frame_packets T) (hr.mono (by decide)) T.Frame_packets.b .nil pass0) (nomark _)) (pss_one (ps_ret (pe_int))) (pss_nil))
      (pss_cons (ps_set (i := 3) sc_bound.nd rfl (Or.inl rfl) (pe_callBK (cr_sortedRev (b := true)) rfl T.n_sorted (by decide +kernel) (pa_cons (pe_call (ok_all_scores T) (hr.mono (by decide)) rfl T.all_scores.g T.all_scores.f.kp T.all_scores.b .nil pass0 (pa_cons (pv 0) (pa_cons (pv 1) pa_nil))) pa_nil) (pk_cons (pe_bl) pk_nil)))
      (pss_one (ps_ret (pe_op op_shl (pe_int) (pe_ix (Gx.ix_seqK (K := K) rfl) (pv 3) (pv 2) (fun _ _ => rfl)))))))), ?_⟩)
  · obtain ⟨x, p, w, h, d, c, t, rs, n, rfl, _⟩ := h
    rfl
  · skip
    obtain ⟨x, p, w, h, d, c, t, rs, n, rfl, fr, D, hp, hlen, h5, q, qe, qc⟩ := h
    obtain ⟨l1, l2, l3, l4, l5, l6, l7, l8, l9⟩ := D.ok
    obtain ⟨dx, hx⟩ := id fr
    walk_at "run"
    refine cs_check_regions hp hlen h5 (fun ok => ?_) qe
    walk_at "run"
    refine Gx.mp hx no_Frame_packets ?_
    walk_at "run"
    refine cp_Frame_packets fr D.t1 D.t2 D.w2 D.h2 D.d2 l8 ?_
    walk_at "run"
    refine cs_check_range (fun a1 a2 => ?_) (fun b => qc ok b)
    walk_at "run"
    refine Gx.mp hx no_Frame_packets ?_
    walk_at "run"
    refine cp_Frame_packets fr D.t1 D.t2 D.w2 D.h2 D.d2 l8 ?_
    walk_at "run"
    have qq := q ok a1 a2
    unfold Pl.bd at qq
    refine Gx.if_d (fun e => ?_) (fun e => ?_)
    · walk_at "run"
      rw [if_pos (by omega)] at qq
      exact qq _ (Same.refl _)
    rw [if_neg (by omega)] at qq
    walk_at "run"
    refine cp_all_scores fr D hp ok fun sq H1 n1 s1 h1 => ?_
    walk_at "run"
    refine ⟨sq, _, rfl, rfl, SqL.of h1, fun ns yq hperm hord hn => ?_⟩
    have hsort := Pl.sorted_sc D ok.2 hperm hord
    subst hsort
    have s2 := Gx.same_new (o := .lst (((Pl.pl w h d c t rs).map (Pl.sc w h d c t rs)).map V.int)) hn
    have hY : upd H1 yq (.lst (((Pl.pl w h d c t rs).map (Pl.sc w h d c t rs)).map V.int)) yq = some (.lst (((Pl.pl w h d c t rs).map (Pl.sc w h d c t rs)).map V.int)) := upd_same
    generalize upd H1 yq (.lst (((Pl.pl w h d c t rs).map (Pl.sc w h d c t rs)).map V.int)) = H2 at s2 hY ⊢
    have hlp := Pl.pl_len D ok.2
    obtain ⟨m, rfl⟩ : ∃ m : Nat, n = m := ⟨n.toNat, by omega⟩
    have hm : m < (Pl.pl w h d c t rs).length := by omega
    walk_at "run"
    refine Gx.ixL (SqL.of hY) (Gx.at_map (by rw [List.length_map]; exact hm)) ?_
    have hg : ((Pl.pl w h d c t rs).map (Pl.sc w h d c t rs)).getD m 0 = Pl.sc w h d c t rs ((Pl.pl w h d c t rs).getD m 0) := by
      rw [List.getD_eq_getElem?_getD, List.getElem?_map, List.getD_eq_getElem?_getD, List.getElem?_eq_getElem hm]; rfl
    have hb := Pl.sc_bd D ok.2 ((Pl.pl w h d c t rs).getD m 0) (Pl.pl_mem (rs := rs) (by rw [List.getD_eq_getElem?_getD, List.getElem?_eq_getElem hm]; exact List.getElem_mem hm))
    rw [hg]
    have hd2 := D.d2
    obtain ⟨z, hz⟩ : ∃ z : Nat, Pl.sc w h d c t rs ((Pl.pl w h d c t rs).getD m 0) = z := ⟨_, (Int.toNat_of_nonneg hb.1).symm⟩
    rw [Int.toNat_natCast, hz, Int.toNat_natCast] at qq
    rw [hz] at hb ⊢
    refine Gx.ic ⟨by omega, by omega, by decide⟩ ?_
    rw [Gy.pw]
    exact qq H2 (s1.trans s2)

theorem cs_bound {K : PySem.W.Frag} {CE C x p : Addr} {w h d c t : Nat} {rs : List (List Int)} {n : Int} {H : Hp} {Q : VK} {E : XK} (f : Frm C H x w h d c t) (D : Rg.Dim w h d c t) (hp : Rg.RL H p rs) (hl : rs.length ≤ 1000) (h5 : ∀ r ∈ rs, r.length = 5)
    (q : Rg.RegsOk rs → 0 ≤ n → n ≤ (d * c * (Gd.ac w t * Gd.ac h t) : Nat) → ∀ H', Same H H' → Q (.int (Pl.bd w h d c t rs n.toNat)) H') (qe : ¬ Rg.RegsOk rs → Sx.Err CE H "regions" E) (qc : Rg.RegsOk rs → ¬ (0 ≤ n ∧ n ≤ (d * c * (Gd.ac w t * Gd.ac h t) : Nat)) → Sx.Err CE H "count" E) : Sx.CS (sp_bound K CE C) [.ref x, .ref p, .int n] H Q E := ⟨x, p, w, h, d, c, t, rs, n, rfl, f, D, hp, hl, h5, q, qe, qc⟩

def sp_law_told (K : PySem.W.Frag) (C : Addr) : Sp := fun vs H Q _ => ∃ (x p : Addr) (w h d c t : Nat) (rs : List (List Int)) (n : Int), vs = [.ref x, .ref p, .int n] ∧ Frm C H x w h d c t ∧ Rg.Dim w h d c t ∧ Rg.RL H p rs ∧ rs.length ≤ 1000 ∧ (∀ r ∈ rs, r.length = 5) ∧
  (Rg.RegsOk rs → 0 ≤ n → n ≤ (d * c * (Gd.ac w t * Gd.ac h t) : Nat) → ∀ H', Same H H' → Q (.int (Pl.bd w h d c t rs n.toNat)) H') ∧ (¬ Rg.RegsOk rs → ∀ q H', Same H H' → H' q = some (.tup ([("refused" : Str), "regions"].map V.str)) → Q (.ref q) H') ∧ (Rg.RegsOk rs → ¬ (0 ≤ n ∧ n ≤ (d * c * (Gd.ac w t * Gd.ac h t) : Nat)) → ∀ q H', Same H H' → H' q = some (.tup ([("refused" : Str), "count"].map V.str)) → Q (.ref q) H')

theorem sc_law_told : FnScope ["frame", "regions", "count", "e"] ["frame", "regions", "count"] (defScope s_law_told) := ⟨rfl, rfl, rfl, by decide +kernel, rfl, by decide +kernel, by decide +kernel⟩
theorem ok_law_told (T : Tx P K mg) : FnOk P w K mg base CX0 8 T.law_told.a T.law_told.d ["frame", "regions", "count"] (sp_law_told K T.a_Frame) := by
  refine T.law_told.f.ok sc_law_told (fun vs H Q E h => ?_) (fun cdv A outer s H vs Q E hr h => ⟨_, pss_one (ps_try_as (i := 3) rfl rfl sc_law_told.nd rfl rfl ⟨rfl, by decide, .inl T.x_OutOfRange.g⟩ takes0 (fun W pn xe tk po => pss_one (ps_ret (pe_callS (ok_bound T) (hr.mono (by decide)) rfl T.bound.g T.bound.f.kp T.bound.b (fun σ => passAt tk σ) (pa_cons (pv 0) (pa_cons (pv 1) (pa_cons (pv 2) pa_nil))))))
      (fun a oe cls d pn hz hf => pss_one (ps_ret (pe_tup (pa_cons (pe_str) (pa_cons (by exact pe_xf T.x_OutOfRange.xf T.nf_OutOfRange_name hz hf (pv 3) rfl) pa_nil)))))), ?_⟩)
  · obtain ⟨x, p, w, h, d, c, t, rs, n, rfl, _⟩ := h
    rfl
  · skip
    obtain ⟨x, p, w, h, d, c, t, rs, n, rfl, fr, D, hp, hl, h5, q, qr, qc⟩ := h
    have key : ∀ (z : Str) (H' : Hp) (dd : Addr), Same H H' → H' dd = none → (∀ q1 H2, Same H H2 → H2 q1 = some (.tup ([("refused" : Str), z].map V.str)) → Q (.ref q1) H2) → True := fun _ _ _ _ _ _ => trivial
    walk_at "run"
    refine cs_bound fr D hp hl h5 (fun ok n0 n1 H' s' => ?_) (fun bad H1 dd s1 hd => ?_) (fun ok bad H1 dd s1 hd => ?_)
    · exact q ok n0 n1 H' s'
    · refine Sx.took T.x_OutOfRange.te fun a ha => ?_
      have hX : upd H1 dd (.xd [("name", .str "regions")]) dd = some (.xd [("name", .str "regions")]) := upd_same
      have s2 := Gx.same_new (o := .xd [("name", .str "regions")]) hd
      generalize upd H1 dd (.xd [("name", .str "regions")]) = H2 at hX s2 ⊢
      walk_at "run"
      refine Sx.xfp hX ?_
      walk_at "run"
      refine Nx.tup0 (by show 2 ≤ sizeLine; decide) fun q1 H3 n3 s3 h3 => ?_
      exact qr bad q1 H3 (by walk_at "xsame") h3
    · refine Sx.took T.x_OutOfRange.te fun a ha => ?_
      have hX : upd H1 dd (.xd [("name", .str "count")]) dd = some (.xd [("name", .str "count")]) := upd_same
      have s2 := Gx.same_new (o := .xd [("name", .str "count")]) hd
      generalize upd H1 dd (.xd [("name", .str "count")]) = H2 at hX s2 ⊢
      walk_at "run"
      refine Sx.xfp hX ?_
      walk_at "run"
      refine Nx.tup0 (by show 2 ≤ sizeLine; decide) fun q1 H3 n3 s3 h3 => ?_
      exact qc ok bad q1 H3 (by walk_at "xsame") h3

theorem cp_law_told {K : PySem.W.Frag} {C x p : Addr} {w h d c t : Nat} {rs : List (List Int)} {n : Int} {H : Hp} {Q : VK} {E : XK} (f : Frm C H x w h d c t) (D : Rg.Dim w h d c t) (hp : Rg.RL H p rs) (hl : rs.length ≤ 1000) (h5 : ∀ r ∈ rs, r.length = 5)
    (q : Rg.RegsOk rs → 0 ≤ n → n ≤ (d * c * (Gd.ac w t * Gd.ac h t) : Nat) → ∀ H', Same H H' → Q (.int (Pl.bd w h d c t rs n.toNat)) H') (qr : ¬ Rg.RegsOk rs → ∀ q H', Same H H' → H' q = some (.tup ([("refused" : Str), "regions"].map V.str)) → Q (.ref q) H') (qc : Rg.RegsOk rs → ¬ (0 ≤ n ∧ n ≤ (d * c * (Gd.ac w t * Gd.ac h t) : Nat)) → ∀ q H', Same H H' → H' q = some (.tup ([("refused" : Str), "count"].map V.str)) → Q (.ref q) H') : Gx.CP (sp_law_told K C) [.ref x, .ref p, .int n] [] H Q E := ⟨x, p, w, h, d, c, t, rs, n, rfl, f, D, hp, hl, h5, q, qr, qc⟩

def sp_law_is_int : Sp := fun vs H Q _ => ∃ i : Int, vs = [.int i] ∧ Q (.bl true) H

theorem sc_law_is_int : FnScope ["actual"] ["actual"] (defScope s_law_is_int) := ⟨rfl, rfl, rfl, by decide +kernel, rfl, by decide +kernel, by decide +kernel⟩
theorem ok_law_is_int (T : Tx P K mg) : FnOk P w K mg base CX0 1 T.law_is_int.a T.law_is_int.d ["actual"] (sp_law_is_int) := by
  refine T.law_is_int.f.ok sc_law_is_int (fun vs H Q E h => ?_) (fun cdv A outer s H vs Q E hr h => ⟨_, pss_one (ps_ret (pe_and (pe_callB (Gx.c_isiK (K := K) rfl) rfl T.n_isinstance (by decide +kernel) (pa_cons (pv 0) (pa_cons (pe_bltn (v := .ty "int") rfl T.n_int (by decide +kernel) rfl) pa_nil))) (pe_one (pe_not (pe_callB (Gx.c_isiK (K := K) rfl) rfl T.n_isinstance (by decide +kernel) (pa_cons (pv 0) (pa_cons (pe_bltn (v := .ty "bool") rfl T.n_bool (by decide +kernel) rfl) pa_nil))))))), ?_⟩)
  · obtain ⟨i, rfl, _⟩ := h
    rfl
  · skip
    obtain ⟨i, rfl, q⟩ := h
    walk_at "go"
    refine Gx.isiI ?_ (by decide +kernel : kitB "int" "int" = some true)
    walk_at "go"
    refine Gx.isiI ?_ (by decide +kernel : kitB "int" "bool" = some false)
    walk_at "go"
    exact q

theorem cp_law_is_int {i : Int} {H : Hp} {Q : VK} {E : XK} (q : Q (.bl true) H) : Gx.CP sp_law_is_int [.int i] [] H Q E := ⟨i, rfl, q⟩

/-- some number from 0 on below the limit -/
def sp_law_mixed : Sp := fun vs H Q _ => ∃ (n k l : Int), vs = [.int n, .int k, .int l] ∧ 0 < l ∧ ∀ r, 0 ≤ r → r < l → Q (.int r) H

theorem sc_law_mixed : FnScope ["number", "k", "limit", "one", "two"] ["number", "k", "limit"] (defScope s_law_mixed) := ⟨rfl, rfl, rfl, by decide +kernel, rfl, by decide +kernel, by decide +kernel⟩
theorem ok_law_mixed (T : Tx P K mg) : FnOk P w K mg base CX0 1 T.law_mixed.a T.law_mixed.d ["number", "k", "limit"] (sp_law_mixed) := by
  refine T.law_mixed.f.ok sc_law_mixed (fun vs H Q E h => ?_) (fun cdv A outer s H vs Q E hr h => ⟨_, pss_cons (ps_set (i := 3) sc_law_mixed.nd rfl (Or.inl rfl) (pe_op op_mod (pe_callTy Gx.c_int rfl T.n_int (by decide +kernel) (pa_cons (pe_op op_mul (pe_op op_add (pe_op op_add (pv 0) (pe_op op_mul (pe_int) (pv 1))) (pe_int)) (pe_int)) pa_nil)) (pe_int)))
      (pss_cons (ps_set (i := 4) sc_law_mixed.nd rfl (Or.inl rfl) (pe_op op_mod (pe_callTy Gx.c_int rfl T.n_int (by decide +kernel) (pa_cons (pe_op op_add (pe_op op_mul (pv 3) (pv 3)) (pe_op op_mul (pe_int) (pv 1))) pa_nil)) (pe_int)))
      (pss_one (ps_ret (pe_op op_mod (pe_op op_mod (pe_callTy Gx.c_int rfl T.n_int (by decide +kernel) (pa_cons (pe_op op_add (pe_op op_mul (pv 4) (pe_int)) (pv 3)) pa_nil)) (pe_int)) (pv 2))))), ?_⟩)
  · obtain ⟨n, k, l, rfl, _⟩ := h
    rfl
  · skip
    obtain ⟨n, k, l, rfl, hl, q⟩ := h
    walk_at "go"
    refine Gx.ic (.inl (by decide)) ?_
    walk_at "go"
    refine Gx.ic (.inr (by decide)) ?_
    walk_at "go"
    refine Gx.ic (by decide) ?_
    generalize e1 : ((n + 7 * k + 1) * 48271) % 2147483647 = one
    have h1 : 0 ≤ one ∧ one < 2147483647 := by omega
    walk_at "go"
    refine Gx.ic (.inl (by omega)) ?_
    walk_at "go"
    refine Gx.ic (.inl (by decide)) ?_
    walk_at "go"
    refine Gx.ic (by decide) ?_
    walk_at "go"
    refine Gx.ic (.inr (by decide)) ?_
    walk_at "go"
    refine Gx.ic (by decide) ?_
    walk_at "go"
    refine Gx.ic hl ?_
    exact q _ (Int.emod_nonneg _ (by omega)) (Int.emod_lt_of_pos _ hl)

theorem cp_law_mixed {n k l : Int} {H : Hp} {Q : VK} {E : XK} (hl : 0 < l) (q : ∀ r, 0 ≤ r → r < l → Q (.int r) H) : Gx.CP sp_law_mixed [.int n, .int k, .int l] [] H Q E := ⟨n, k, l, rfl, hl, q⟩

/-- a new list of so many numbers from 0 on below the limit -/
def sp_law_numbers : Sp := fun vs H Q _ => ∃ (c : Int) (n : Nat) (l : Int), vs = [.int c, .int (n : Int), .int l] ∧ 0 < l ∧ l < 1073741824 ∧ n ≤ 100000 ∧
  ∀ (xs : List Int) (p : Addr) (H' : Hp), xs.length = n → (∀ x ∈ xs, 0 ≤ x ∧ x < l) → H p = none → Same H H' → H' p = some (.lst (xs.map V.int)) → Q (.ref p) H'

theorem sc_law_numbers : FnScope ["cell", "count", "limit", "rest", "large", "numbers", "k"] ["cell", "count", "limit"] (defScope s_law_numbers) := ⟨rfl, rfl, rfl, by decide +kernel, rfl, by decide +kernel, by decide +kernel⟩
theorem ok_law_numbers (T : Tx P K mg) : FnOk P w K mg base CX0 2 T.law_numbers.a T.law_numbers.d ["cell", "count", "limit"] (sp_law_numbers) := by
  refine T.law_numbers.f.ok sc_law_numbers (fun vs H Q E h => ?_) (fun cdv A outer s H vs Q E hr h => ⟨_, pss_cons (ps_set (i := 3) sc_law_numbers.nd rfl (Or.inl rfl) (pe_callB Gx.c_abs rfl T.n_abs (by decide +kernel) (pa_cons (pv 0) pa_nil)))
      (pss_cons (ps_set (i := 4) sc_law_numbers.nd rfl (Or.inl rfl) (pe_cmpR op_ge (pv 3) (pe_op op_pow (pe_int) (pe_int)) (nomark _)))
      (pss_cons (ps_set (i := 5) sc_law_numbers.nd rfl (Or.inl rfl) (pe_lst pa_nil))
      (pss_cons (ps_for PassesOwn.never rfl (pi_range1 rfl T.n_range (pa_cons (pv 1) pa_nil)) (pg_name (i := 6) sc_law_numbers.nd rfl (Or.inl rfl))
      (pss_one (ps_if (PW.pt (pw_and (pt_val (pv 4)) (pw_and1 (pt_cmpR op_gt (pv 3) (pe_int) (nomark _))))) (pss_cons (ps_expr (pe_bm PySem.F.plainAttrs_list PySem.F.slot_list_append PySem.F.type_list_append mt_append (pv 5) (pa_cons (pe_op op_mod (pe_callTy Gx.c_int rfl T.n_int (by decide +kernel) (pa_cons (pv 3) pa_nil)) (pv 2)) pa_nil)))
      (pss_one (ps_set (i := 3) sc_law_numbers.nd rfl (Or.inl rfl) (pe_op op_fdiv (pv 3) (pv 2))))) (pss_one (ps_expr (pe_bm PySem.F.plainAttrs_list PySem.F.slot_list_append PySem.F.type_list_append mt_append (pv 5) (pa_cons (pe_call (ok_law_mixed T) (hr.mono (by decide)) rfl T.law_mixed.g T.law_mixed.f.kp T.law_mixed.b .nil pass0 (pa_cons (pe_callB Gx.c_abs rfl T.n_abs (by decide +kernel) (pa_cons (pv 0) pa_nil)) (pa_cons (pv 6) (pa_cons (pv 2) pa_nil)))) pa_nil)))))))
      (pss_one (ps_ret (pv 5)))))), ?_⟩)
  · obtain ⟨c, n, l, rfl, _⟩ := h
    rfl
  · skip
    obtain ⟨c, n, l, rfl, h0, h1, hn, q⟩ := h
    walk_at "go"
    refine Gx.ic ⟨by decide, by decide, by decide⟩ ?_
    walk_at "go"
    refine Gx.lstP (Nat.zero_le _) fun p hp => ?_
    walk_at "go"
    refine Gx.r1 (by omega) (by omega) ?_
    refine Gx.fwR (fun i σ' H' => ∃ (xs : List Int) (r : Int) (b : Bool) (kv : Option V), xs.length = i ∧ (∀ x ∈ xs, 0 ≤ x ∧ x < l) ∧ H p = none ∧ Same H H' ∧ H' p = some (.lst (xs.map V.int)) ∧
      σ' = [some (.int c), some (.int (n : Int)), some (.int l), some (.int r), some (.bl b), some (.ref p), kv]) ?_ ?_ ?_
    · exact ⟨[], _, _, none, rfl, (fun _ z => nomatch z), hp, (fun b o e => by rw [upd_ne (ne_of_none e hp)]; exact e), upd_same, rfl⟩
    · rintro i σ' H' hi ⟨xs, r, b, kv, hx, hb, hp0, hs, hL, rfl⟩
      have hz : (xs.map V.int).length < sizeLine := by rw [List.length_map, sizeLine_eq]; omega
      have fin : ∀ (x : Int) (r' : Int) (kv' : Option V), 0 ≤ x → x < l → ∃ (ys : List Int) (r : Int) (b' : Bool) (kv : Option V), ys.length = i + 1 ∧ (∀ x ∈ ys, 0 ≤ x ∧ x < l) ∧ H p = none ∧ Same H (upd H' p (.lst (xs.map V.int ++ [.int x]))) ∧
          upd H' p (.lst (xs.map V.int ++ [.int x])) p = some (.lst (ys.map V.int)) ∧
          [some (V.int c), some (.int (n : Int)), some (.int l), some (.int r'), some (.bl b), some (.ref p), kv'] = [some (V.int c), some (.int (n : Int)), some (.int l), some (.int r), some (.bl b'), some (.ref p), kv] := by
        intro x r' kv' hx0 hx1
        refine ⟨xs ++ [x], r', b, kv', by rw [List.length_append, hx]; rfl, fun y hy => ?_, hp0, fun a o e => ?_, ?_, rfl⟩
        · rcases List.mem_append.mp hy with z | z
          · exact hb y z
          · rw [List.mem_singleton.mp z]; exact ⟨hx0, hx1⟩
        · rw [upd_ne (ne_of_none e hp0)]; exact hs a o e
        · rw [upd_same, List.map_append]; rfl
      walk_at "go"
      refine Gx.if_b (fun hb1 => ?_) (fun hb1 => ?_)
      · walk_at "go"
        refine Gx.if_d (fun hr1 => ?_) (fun hr1 => ?_)
        · walk_at "go"
          refine Gx.bmS (Gx.tyL (SqL.of hL)) ?_
          walk_at "go"
          refine Gx.ic h0 ?_
          walk_at "go"
          refine Gx.app hL hz ?_
          walk_at "go"
          refine Gx.ic ⟨h0, h1⟩ ?_
          walk_at "go"
          exact fin _ _ _ (Int.emod_nonneg _ (by omega)) (Int.emod_lt_of_pos _ h0)
        · walk_at "go"
          refine Gx.bmS (Gx.tyL (SqL.of hL)) ?_
          walk_at "go"
          refine cp_law_mixed h0 fun y hy0 hy1 => ?_
          walk_at "go"
          refine Gx.app hL hz ?_
          exact fin _ _ _ hy0 hy1
      · walk_at "go"
        refine Gx.bmS (Gx.tyL (SqL.of hL)) ?_
        walk_at "go"
        refine cp_law_mixed h0 fun y hy0 hy1 => ?_
        walk_at "go"
        refine Gx.app hL hz ?_
        exact fin _ _ _ hy0 hy1
    · rintro σ' H' ⟨xs, r, b, kv, hx, hb, hp0, hs, hL, rfl⟩
      walk_at "go"
      exact q xs p H' (by omega) hb hp0 hs hL

theorem cp_law_numbers {c n l : Int} {H : Hp} {Q : VK} {E : XK} (hn : 0 ≤ n ∧ n ≤ 100000) (h0 : 0 < l) (h1 : l < 1073741824)
    (q : ∀ (xs : List Int) (p : Addr) (H' : Hp), xs.length = n.toNat → (∀ x ∈ xs, 0 ≤ x ∧ x < l) → H p = none → Same H H' → H' p = some (.lst (xs.map V.int)) → Q (.ref p) H') : Gx.CP sp_law_numbers [.int c, .int n, .int l] [] H Q E :=
  ⟨c, n.toNat, l, by rw [List.append_nil, Int.toNat_of_nonneg hn.1], h0, h1, by omega, q⟩

/-- a cell of the script, 0 beyond its end -/
def sp_law_cell (K : PySem.W.Frag) : Sp := fun vs H Q _ => ∃ (a : Addr) (ns : List Int) (k : Nat), vs = [.ref a, .int (k : Int)] ∧ SqL K H a (ns.map V.int) ∧ k < 100000 ∧ Q (.int (ns.getD k 0)) H

theorem sc_law_cell : FnScope ["script", "k"] ["script", "k"] (defScope s_law_cell) := ⟨rfl, rfl, rfl, by decide +kernel, rfl, by decide +kernel, by decide +kernel⟩
theorem ok_law_cell (T : Tx P K mg) : FnOk P w K mg base CX0 1 T.law_cell.a T.law_cell.d ["script", "k"] (sp_law_cell K) := by
  refine T.law_cell.f.ok sc_law_cell (fun vs H Q E h => ?_) (fun cdv A outer s H vs Q E hr h => ⟨_, pss_cons (ps_if (pt_cmpR op_lt (pv 1) (pe_callB (Gx.c_lenK (K := K) rfl) rfl T.n_len (by decide +kernel) (pa_cons (pv 0) pa_nil)) (nomark _)) (pss_one (ps_ret (pe_ix (Gx.ix_seqK (K := K) rfl) (pv 0) (pv 1) (fun _ _ => rfl)))) (pss_nil))
      (pss_one (ps_ret (pe_int))), ?_⟩)
  · obtain ⟨a, ns, k, rfl, _⟩ := h
    rfl
  · skip
    obtain ⟨a, ns, k, rfl, hs, hk, q⟩ := h
    walk_at "go"
    refine Gx.lenL hs ?_
    walk_at "go"
    refine Gx.if_d (fun hlt => ?_) (fun hge => ?_)
    · rw [List.length_map] at hlt
      walk_at "go"
      exact Gx.ixL hs (Gx.at_map (by omega)) q
    · rw [List.length_map] at hge
      walk_at "go"
      have e : ns.getD k 0 = 0 := by
        rw [List.getD_eq_getElem?_getD, List.getElem?_eq_none (by omega)]; rfl
      rw [e] at q
      exact q

theorem cp_law_cell {K : PySem.W.Frag} {a : Addr} {ns : List Int} {k : Int} {H : Hp} {Q : VK} {E : XK} (hs : SqL K H a (ns.map V.int)) (h0 : 0 ≤ k) (h1 : k < 100000) (q : ∀ z : Int, (z ∈ ns ∨ z = 0) → Q (.int z) H) : Gx.CP (sp_law_cell K) [.ref a, .int k] [] H Q E := by
  refine ⟨a, ns, k.toNat, by rw [List.append_nil, Int.toNat_of_nonneg h0], hs, by omega, q _ ?_⟩
  rw [List.getD_eq_getElem?_getD]
  by_cases h : k.toNat < ns.length
  · rw [List.getElem?_eq_getElem h]; exact .inl (List.getElem_mem h)
  · rw [List.getElem?_eq_none (by omega)]; exact .inr rfl

def sp_law_order : Sp := fun vs H Q _ => ∃ (s : Addr) (w h d c t n : Nat), vs = [.ref s, .int (n : Int)] ∧ H s = some (.lst [.int (w : Int), .int (h : Int), .int (d : Int), .int (c : Int), .int (t : Int)]) ∧ d ≤ 8 ∧ c ≤ 3 ∧ n ≤ 10000 ∧ ∀ p H', H p = none → Same H H' → Gx.TL H' p (d * c * n) (Gd.ky n c d) → Q (.ref p) H'

theorem sc_law_order : FnScope ["sizes", "tiles", "keys", "down", "channel", "tile"] ["sizes", "tiles"] (defScope s_law_order) := ⟨rfl, rfl, rfl, by decide +kernel, rfl, by decide +kernel, by decide +kernel⟩
theorem ok_law_order (T : Tx P K mg) : FnOk P w K mg base CX0 1 T.law_order.a T.law_order.d ["sizes", "tiles"] (sp_law_order) := by
  refine T.law_order.f.ok sc_law_order (fun vs H Q E h => ?_) (fun cdv A outer s H vs Q E hr h => ⟨_, pss_cons (ps_set (i := 2) sc_law_order.nd rfl (Or.inl rfl) (pe_lst pa_nil))
      (pss_cons (ps_for PassesOwn.never rfl (pi_range1 rfl T.n_range (pa_cons (pe_ix (Gx.ix_seqK (K := K) rfl) (pv 0) (pe_int) (fun _ _ => rfl)) pa_nil)) (pg_name (i := 3) sc_law_order.nd rfl (Or.inl rfl))
      (pss_one (ps_for PassesOwn.never rfl (pi_range1 rfl T.n_range (pa_cons (pe_ix (Gx.ix_seqK (K := K) rfl) (pv 0) (pe_int) (fun _ _ => rfl)) pa_nil)) (pg_name (i := 4) sc_law_order.nd rfl (Or.inl rfl))
      (pss_one (ps_for PassesOwn.never rfl (pi_range1 rfl T.n_range (pa_cons (pv 1) pa_nil)) (pg_name (i := 5) sc_law_order.nd rfl (Or.inl rfl))
      (pss_one (ps_expr (pe_bm PySem.F.plainAttrs_list PySem.F.slot_list_append PySem.F.type_list_append mt_append (pv 2) (pa_cons (pe_tup (pa_cons (pv 4) (pa_cons (pv 5) (pa_cons (pe_op op_sub (pe_op op_sub (pe_ix (Gx.ix_seqK (K := K) rfl) (pv 0) (pe_int) (fun _ _ => rfl)) (pe_int)) (pv 3)) pa_nil)))) pa_nil)))))))))
      (pss_one (ps_ret (pv 2)))), ?_⟩)
  · obtain ⟨s, w, h, d, c, t, n, rfl, _⟩ := h
    rfl
  · skip
    obtain ⟨s, w, h, d, c, t, n, rfl, hS, hd, hc, hn, q⟩ := h
    walk_at "go"
    refine Gx.lstP (Nat.zero_le _) fun p hp => ?_
    have big : ∀ {i j k : Nat}, i < d → j < c → k < n → (i * c + j) * n + k < 8 * 3 * 10000 + 1000000 := fun {i j k} hi hj hk => by
      have a1 : i * c + j ≤ 7 * 3 + 3 := Nat.add_le_add (Nat.mul_le_mul (by omega) hc) (by omega)
      have a2 : (i * c + j) * n ≤ (7 * 3 + 3) * 10000 := Nat.mul_le_mul a1 hn
      omega
    walk_at "go"
    refine Gx.ixL (SqL.of (Gx.same_new hp _ _ hS)) (at_of (j := 2) rfl rfl) ?_
    walk_at "go"
    refine Gx.r1 (by omega) (by omega) ?_
    rw [Int.toNat_natCast]
    refine Gx.fw walk_range (fun i σ' H' => Same H H' ∧ Gx.TL H' p (i * c * n) (Gd.ky n c d) ∧ ∃ v1 v2 v3 : Option V, σ' = [some (.ref s), some (.int (n : Int)), some (.ref p), v1, v2, v3])
      ⟨Gx.same_new hp, by rw [Nat.zero_mul, Nat.zero_mul]; exact Gx.TL.nil upd_same, none, none, none, rfl⟩ (fun _ _ _ _ _ => trivial) ?_ ?_
    · rintro i x σ' H2 H2' hi ⟨s2, tl2, v1, v2, v3, rfl⟩ ⟨rfl, hx⟩
      have hx2 : x = .int (i : Int) := hx.trans (congrArg V.int (by omega))
      subst hx2
      walk_at "go"
      refine Gx.ixL (SqL.of (s2 _ _ hS)) (at_of (j := 3) rfl rfl) ?_
      walk_at "go"
      refine Gx.r1 (by omega) (by omega) ?_
      rw [Int.toNat_natCast]
      refine Gx.fw walk_range (fun j σ' H' => Same H H' ∧ Gx.TL H' p ((i * c + j) * n) (Gd.ky n c d) ∧ ∃ v2 v3 : Option V, σ' = [some (.ref s), some (.int (n : Int)), some (.ref p), some (.int (i : Int)), v2, v3])
        ⟨s2, tl2, _, _, rfl⟩ (fun _ _ _ _ _ => trivial) ?_ ?_
      · rintro j x σ' H3 H3' hj ⟨s3, tl3, v2, v3, rfl⟩ ⟨rfl, hx⟩
        have hx2 : x = .int (j : Int) := hx.trans (congrArg V.int (by omega))
        subst hx2
        walk_at "go"
        refine Gx.r1 (by omega) (by omega) ?_
        rw [Int.toNat_natCast]
        refine Gx.fw walk_range (fun k σ' H' => Same H H' ∧ Gx.TL H' p ((i * c + j) * n + k) (Gd.ky n c d) ∧ ∃ v3 : Option V, σ' = [some (.ref s), some (.int (n : Int)), some (.ref p), some (.int (i : Int)), some (.int (j : Int)), v3])
          ⟨s3, tl3, _, rfl⟩ (fun _ _ _ _ _ => trivial) ?_ ?_
        · rintro k x σ' H4 H4' hk ⟨s4, tl4, v3, rfl⟩ ⟨rfl, hx⟩
          have hx2 : x = .int (k : Int) := hx.trans (congrArg V.int (by omega))
          subst hx2
          obtain ⟨xs0, hp0, hl0⟩ : ∃ xs, H4' p = some (.lst xs) ∧ xs.length = (i * c + j) * n + k := by
            obtain ⟨ps, e1, e2, e3⟩ := tl4
            exact ⟨_, e1, by rw [List.length_map]; exact e2⟩
          walk_at "go"
          refine Gx.bmS (Gx.tyL (SqL.of hp0)) ?_
          walk_at "go"
          refine Gx.ixL (SqL.of (s4 _ _ hS)) (at_of (j := 2) rfl rfl) ?_
          walk_at "go"
          refine Gx.tupP (by show 3 ≤ sizeLine; decide) fun a ha => ?_
          have sa := Gx.same_new (o := .tup [.int (j : Int), .int (k : Int), .int ((d : Int) - 1 - (i : Int))]) ha
          obtain ⟨xs, e1, e2, e3⟩ := (tl4.keep sa).snoc (t := a) (by rw [upd_same, Gd.ky_of hj hk]; rfl)
          have hb := big hi hj hk
          walk_at "go"
          refine Gx.app e1 (by rw [e2, sizeLine_eq]; omega) ?_
          walk_at "go"
          exact ⟨Gx.same_up hp (s4.trans sa), e3, _, rfl⟩
        · rintro σ' H4 ⟨s4, tl4, v3, rfl⟩
          walk_at "go"
          exact ⟨s4, by rw [show i * c + (j + 1) = (i * c + j) + 1 by omega, Nat.succ_mul]; exact tl4, _, _, rfl⟩
      · rintro σ' H3 ⟨s3, tl3, v2, v3, rfl⟩
        walk_at "go"
        exact ⟨s3, by rw [Nat.succ_mul]; exact tl3, _, _, _, rfl⟩
    · rintro σ' H2 ⟨s2, tl2, v1, v2, v3, rfl⟩
      walk_at "go"
      exact q p H2 hp s2 tl2

theorem cp_law_order {s : Addr} {w h d c t n : Nat} {H : Hp} {Q : VK} {E : XK} (hS : H s = some (.lst [.int (w : Int), .int (h : Int), .int (d : Int), .int (c : Int), .int (t : Int)])) (hd : d ≤ 8) (hc : c ≤ 3) (hn : n ≤ 10000)
    (q : ∀ p H', H p = none → Same H H' → Gx.TL H' p (d * c * n) (Gd.ky n c d) → Q (.ref p) H') : Gx.CP sp_law_order [.ref s, .int (n : Int)] [] H Q E := ⟨s, w, h, d, c, t, n, rfl, hS, hd, hc, hn, q⟩

/-- the pixels of a tile as a list -/
def pxs (w h t k : Nat) : List V := (List.range (Rg.tileBox w h t k)).map fun m => .int ((Gd.pix w t k m : Nat) : Int)
def sp_law_pixels (K : PySem.W.Frag) : Sp := fun vs H Q _ => ∃ (s : Addr) (w h d c t k : Nat), vs = [.ref s, .int (k : Int)] ∧ SqL K H s [.int (w : Int), .int (h : Int), .int (d : Int), .int (c : Int), .int (t : Int)] ∧ Rg.Dim w h d c t ∧ k < Gd.ac w t * Gd.ac h t ∧ ∀ p H', H p = none → Same H H' → H' p = some (.lst (pxs w h t k)) → Q (.ref p) H'

theorem sc_law_pixels : FnScope ["sizes", "tile", "across", "left", "top", "pixels", "y", "x"] ["sizes", "tile"] (defScope s_law_pixels) := ⟨rfl, rfl, rfl, by decide +kernel, rfl, by decide +kernel, by decide +kernel⟩
theorem ok_law_pixels (T : Tx P K mg) : FnOk P w K mg base CX0 1 T.law_pixels.a T.law_pixels.d ["sizes", "tile"] (sp_law_pixels K) := by
  refine T.law_pixels.f.ok sc_law_pixels (fun vs H Q E h => ?_) (fun cdv A outer s H vs Q E hr h => ⟨_, pss_cons (ps_set (i := 2) sc_law_pixels.nd rfl (Or.inl rfl) (pe_op op_fdiv (pe_op op_sub (pe_op op_add (pe_ix (Gx.ix_seqK (K := K) rfl) (pv 0) (pe_int) (fun _ _ => rfl)) (pe_ix (Gx.ix_seqK (K := K) rfl) (pv 0) (pe_int) (fun _ _ => rfl))) (pe_int)) (pe_ix (Gx.ix_seqK (K := K) rfl) (pv 0) (pe_int) (fun _ _ => rfl))))
      (pss_cons (ps_set (i := 3) sc_law_pixels.nd rfl (Or.inl rfl) (pe_op op_mul (pe_op op_mod (pv 1) (pv 2)) (pe_ix (Gx.ix_seqK (K := K) rfl) (pv 0) (pe_int) (fun _ _ => rfl))))
      (pss_cons (ps_set (i := 4) sc_law_pixels.nd rfl (Or.inl rfl) (pe_op op_mul (pe_op op_fdiv (pv 1) (pv 2)) (pe_ix (Gx.ix_seqK (K := K) rfl) (pv 0) (pe_int) (fun _ _ => rfl))))
      (pss_cons (ps_set (i := 5) sc_law_pixels.nd rfl (Or.inl rfl) (pe_lst pa_nil))
      (pss_cons (ps_for PassesOwn.never rfl (pi_range2 rfl T.n_range (pa_cons (pv 4) (pa_cons (pe_callB (Gx.c_min2 rfl) rfl T.n_min (by decide +kernel) (pa_cons (pe_op op_add (pv 4) (pe_ix (Gx.ix_seqK (K := K) rfl) (pv 0) (pe_int) (fun _ _ => rfl))) (pa_cons (pe_ix (Gx.ix_seqK (K := K) rfl) (pv 0) (pe_int) (fun _ _ => rfl)) pa_nil))) pa_nil))) (pg_name (i := 6) sc_law_pixels.nd rfl (Or.inr rfl))
      (pss_one (ps_set (i := 5) sc_law_pixels.nd rfl (Or.inl rfl) (pe_op op_cat (pv 5) (pe_lc (own := [("x", 7)]) (g := (gName 7)) (tt := tYes) rfl sc_law_pixels.nd (pi_range2 rfl T.n_range (pa_cons (pv 3) (pa_cons (pe_callB (Gx.c_min2 rfl) rfl T.n_min (by decide +kernel) (pa_cons (pe_op op_add (pv 3) (pe_ix (Gx.ix_seqK (K := K) rfl) (pv 0) (pe_int) (fun _ _ => rfl))) (pa_cons (pe_ix (Gx.ix_seqK (K := K) rfl) (pv 0) (pe_int) (fun _ _ => rfl)) pa_nil))) pa_nil))) (blkOk_by (own := [("x", 7)]) (N := ["sizes", "tile", "across", "left", "top", "pixels", "y", "x"]) (sc := defScope s_law_pixels) (by decide +kernel)) (fun _ _ _ _ _ => (pg_name (i := 7) sc_law_pixels.nd rfl (Or.inl rfl))) (fun _ _ _ _ _ => pts_nil) (fun _ _ _ _ _ => pe_op op_add (pe_op op_mul (pv 6) (pe_ix (Gx.ix_seqK (K := K) rfl) (pv 0) (pe_int) (fun _ _ => rfl))) (pv 7)))))))
      (pss_one (ps_ret (pv 5))))))), ?_⟩)
  · obtain ⟨s, w, h, d, c, t, k, rfl, _⟩ := h
    rfl
  · skip
    obtain ⟨s', w, h, d, c, t, k, rfl, hs, D, hk, q⟩ := h
    obtain ⟨l1, l2, l3, l4, l5, l6, l7⟩ := D.ok
    obtain ⟨a1, a2, a3, a4, a5, a6, a7, a8, a9, a10⟩ := id D
    have m1 : k % Gd.ac w t < Gd.ac w t := Nat.mod_lt _ l3
    have m2 : k / Gd.ac w t < Gd.ac h t := Nat.div_lt_of_lt_mul hk
    have b1 := Gd.ac_mul (n := w) (t := t) (by omega) m1
    have b2 := Gd.ac_mul (n := h) (t := t) (by omega) m2
    have tw := Gd.sd_pos (n := w) (t := t) (by omega) m1
    walk_at "run"
    rw [Gd.ac_int (by omega)]
    walk_at "run"
    refine Nx.lst0 (by show 0 ≤ sizeLine; decide) fun p0 H0' n0 s0 h0 => ?_
    have hW : Gd.sd w t (k % Gd.ac w t) = min t (w - k % Gd.ac w t * t) := rfl
    have hH : Gd.sd h t (k / Gd.ac w t) = min t (h - k / Gd.ac w t * t) := rfl
    have e1 : ((k : Int) % ((Gd.ac w t : Nat) : Int) * (t : Int)) = ((k % Gd.ac w t * t : Nat) : Int) := by rw [Int.natCast_mul, Int.natCast_emod]
    have e2 : ((k : Int) / ((Gd.ac w t : Nat) : Int) * (t : Int)) = ((k / Gd.ac w t * t : Nat) : Int) := by rw [Int.natCast_mul, Int.natCast_ediv]
    rw [e1, e2]
    have fin := Gd.made_flat (Gd.sd w t (k % Gd.ac w t)) tw (fun i j => V.int (((k / Gd.ac w t * t + i) * w + (k % Gd.ac w t * t + j) : Nat) : Int)) (Gd.sd h t (k / Gd.ac w t))
    have fin2 : Gx.made (Gd.sd w t (k % Gd.ac w t)) (fun i j => V.int (((k / Gd.ac w t * t + i) * w + (k % Gd.ac w t * t + j) : Nat) : Int)) (Gd.sd h t (k / Gd.ac w t)) = pxs w h t k := fin
    clear fin e1 e2
    generalize pxs w h t k = PX at *
    generalize k % Gd.ac w t * t = X0 at *
    generalize k / Gd.ac w t * t = Y0 at *
    generalize Gd.sd w t (k % Gd.ac w t) = W0 at *
    generalize Gd.sd h t (k / Gd.ac w t) = H0 at *
    walk_at "run"
    refine Gx.min2 ?_
    rw [show (if (h : Int) < (Y0 : Int) + (t : Int) then (h : Int) else (Y0 : Int) + (t : Int)) = ((Y0 + H0 : Nat) : Int) by split <;> omega]
    walk_at "run"
    refine Gx.r2 ⟨by omega, by omega, by omega, by omega⟩ ?_
    rw [show (((Y0 + H0 : Nat) : Int) - (Y0 : Int)).toNat = H0 by omega]
    refine Gx.fw walk_range (fun i σ' H' => ∃ (q1 : Addr) (v6 v7 : Option V), Same H H' ∧ H q1 = none ∧ H' q1 = some (.lst (Gx.made W0 (fun i j => V.int (((Y0 + i) * w + (X0 + j) : Nat) : Int)) i)) ∧ σ' = [some (.ref s'), some (.int (k : Int)), some (.int ((Gd.ac w t : Nat) : Int)), some (.int (X0 : Int)), some (.int (Y0 : Int)), some (.ref q1), v6, v7]) ⟨p0, none, none, s0, n0, by rw [h0]; rfl, rfl⟩ (fun _ _ _ _ _ => trivial) ?_ ?_
    · rintro i y σ' H3 H3' hi ⟨q1, v6, v7, s3, nq, hq, rfl⟩ ⟨rfl, hy⟩
      have hy2 : y = .int ((Y0 + i : Nat) : Int) := hy.trans (congrArg V.int (by omega))
      subst hy2
      walk_at "run"
      refine Gx.min2 ?_
      rw [show (if (w : Int) < (X0 : Int) + (t : Int) then (w : Int) else (X0 : Int) + (t : Int)) = ((X0 + W0 : Nat) : Int) by split <;> omega]
      walk_at "run"
      refine Gx.r2 ⟨by omega, by omega, by omega, by omega⟩ ?_
      rw [show (((X0 + W0 : Nat) : Int) - (X0 : Int)).toNat = W0 by omega]
      refine Gx.lcMap walk_range (by omega) (fun j => V.int (((Y0 + i) * w + (X0 + j) : Nat) : Int)) (fun _ _ => trivial) Gx.sameFn ?_ ?_
      · rintro j v H4 H4' R R0 hj s4 ⟨rfl, hv⟩ hr
        have hv2 : v = .int ((X0 + j : Nat) : Int) := hv.trans (congrArg V.int (by omega))
        subst hv2
        walk_at "run"
        rw [← Int.natCast_mul, ← Int.natCast_add]
        exact hr _ (Same.refl _)
      intro q2 H5 n5 s5 h5
      have hiW : i * W0 ≤ 16 * 16 := Nat.mul_le_mul (by omega) (by omega)
      refine Nx.cat0 (s5 _ _ hq) h5 (by rw [Gx.made_len, List.length_map, List.length_range, sizeLine_eq]; omega) fun q3 H6 n6 s6 h6 => ?_
      rw [← Gx.made_succ] at h6
      walk_at "run"
      exact ⟨q3, _, _, (s3.trans s5).trans s6, (s3.trans s5).free n6, h6, rfl⟩
    rintro σ' H3 ⟨q1, v6, v7, s3, nq, hq, rfl⟩
    walk_at "run"
    rw [fin2] at hq
    exact q q1 H3 nq s3 hq

theorem cp_law_pixels {K : PySem.W.Frag} {s : Addr} {w h d c t k : Nat} {H : Hp} {Q : VK} {E : XK} (hs : SqL K H s [.int (w : Int), .int (h : Int), .int (d : Int), .int (c : Int), .int (t : Int)]) (D : Rg.Dim w h d c t) (hk : k < Gd.ac w t * Gd.ac h t) (q : ∀ p H', H p = none → Same H H' → H' p = some (.lst (pxs w h t k)) → Q (.ref p) H') :
    Gx.CP (sp_law_pixels K) [.ref s, .int (k : Int)] [] H Q E := ⟨s, w, h, d, c, t, k, rfl, hs, D, hk, q⟩

def sp_law_touches (K : PySem.W.Frag) : Sp := fun vs H Q _ => ∃ (s p : Addr) (w h d c t k : Nat) (l tp wd ht : Int) (xs : List V), vs = [.ref s, .ref p, .int (k : Int)] ∧ SqL K H s [.int (w : Int), .int (h : Int), .int (d : Int), .int (c : Int), .int (t : Int)] ∧ Rg.Dim w h d c t ∧ k < Gd.ac w t * Gd.ac h t ∧
  H p = some (.tup xs) ∧ atI xs 0 = some (.int l) ∧ atI xs 1 = some (.int tp) ∧ atI xs 2 = some (.int wd) ∧ atI xs 3 = some (.int ht) ∧ 1 ≤ wd ∧ 1 ≤ ht ∧ ∀ H', Same H H' → Q (.bl (Rg.tch w h t k l tp wd ht)) H'

theorem sc_law_touches : FnScope ["sizes", "rectangle", "tile", "pixel", "x", "y"] ["sizes", "rectangle", "tile"] (defScope s_law_touches) := ⟨rfl, rfl, rfl, by decide +kernel, rfl, by decide +kernel, by decide +kernel⟩
theorem ok_law_touches (T : Tx P K mg) : FnOk P w K mg base CX0 2 T.law_touches.a T.law_touches.d ["sizes", "rectangle", "tile"] (sp_law_touches K) := by
  refine T.law_touches.f.ok sc_law_touches (fun vs H Q E h => ?_) (fun cdv A outer s H vs Q E hr h => ⟨_, pss_cons (ps_for PassesOwn.never rfl (pi_list (pe_call (ok_law_pixels T) (hr.mono (by decide)) rfl T.law_pixels.g T.law_pixels.f.kp T.law_pixels.b .nil pass0 (pa_cons (pv 0) (pa_cons (pv 2) pa_nil)))) (pg_name (i := 3) sc_law_touches.nd rfl (Or.inl rfl))
      (pss_cons (ps_set (i := 4) sc_law_touches.nd rfl (Or.inl rfl) (pe_op op_mod (pv 3) (pe_ix (Gx.ix_seqK (K := K) rfl) (pv 0) (pe_int) (fun _ _ => rfl))))
      (pss_cons (ps_set (i := 5) sc_law_touches.nd rfl (Or.inl rfl) (pe_op op_fdiv (pv 3) (pe_ix (Gx.ix_seqK (K := K) rfl) (pv 0) (pe_int) (fun _ _ => rfl))))
      (pss_one (ps_if (PW.pt (pw_and (pt_cmpR op_le (pe_ix (Gx.ix_seqK (K := K) rfl) (pv 1) (pe_int) (fun _ _ => rfl)) (pv 4) (nomark _)) (pw_and1 (pt_cmpR op_lt (pv 4) (pe_op op_add (pe_ix (Gx.ix_seqK (K := K) rfl) (pv 1) (pe_int) (fun _ _ => rfl)) (pe_ix (Gx.ix_seqK (K := K) rfl) (pv 1) (pe_int) (fun _ _ => rfl))) (nomark _))))) (pss_one (ps_if (PW.pt (pw_and (pt_cmpR op_le (pe_ix (Gx.ix_seqK (K := K) rfl) (pv 1) (pe_int) (fun _ _ => rfl)) (pv 5) (nomark _)) (pw_and1 (pt_cmpR op_lt (pv 5) (pe_op op_add (pe_ix (Gx.ix_seqK (K := K) rfl) (pv 1) (pe_int) (fun _ _ => rfl)) (pe_ix (Gx.ix_seqK (K := K) rfl) (pv 1) (pe_int) (fun _ _ => rfl))) (nomark _))))) (pss_one (ps_ret (pe_bl))) (pss_nil))) (pss_nil))))))
      (pss_one (ps_ret (pe_bl))), ?_⟩)
  · obtain ⟨s, p, w, h, d, c, t, k, l, tp, wd, ht, xs, rfl, _⟩ := h
    rfl
  · skip
    obtain ⟨s', p, w, h, d, c, t, k, l, tp, wd, ht, xs, rfl, hs, D, hk, hp, x0, x1, x2, x3, hwd, hht, q⟩ := h
    obtain ⟨l1, l2, l3, l4, l5, l6, l7⟩ := D.ok
    obtain ⟨a1, a2, a3, a4, a5, a6, a7, a8, a9, a10⟩ := id D
    have key := Rg.tch_iff (w := w) (h := h) (t := t) (k := k) (l := l) (p := tp) (wd := wd) (ht := ht) (by omega) (by omega) hk hwd hht
    walk_at "run"
    refine cp_law_pixels hs D hk fun q1 H1 n1 s1 h1 => ?_
    walk_at "run"
    have hs := s1.seq hs
    have hp := s1 _ _ hp
    refine Gx.lp (SqL.of h1) ?_
    refine Gx.fw walk_list (fun i σ' H' => H' = H1 ∧ (∀ m, m < i → Rg.inR (Gd.pix w t k m % w) (Gd.pix w t k m / w) l tp wd ht = false) ∧ ∃ v3 v4 v5 : Option V, σ' = [some (.ref s'), some (.ref p), some (.int (k : Int)), v3, v4, v5]) ⟨rfl, fun m h => absurd h (Nat.not_lt_zero _), none, none, none, rfl⟩ (fun i σ' H' _ hh => by rw [hh.1]; exact SqL.of h1) ?_ ?_
    · rintro i y σ' H2 H2' hi ⟨rfl, hno, v3, v4, v5, rfl⟩ ⟨rfl, hy⟩
      have hi : i < Rg.tileBox w h t k := by
        unfold pxs at hi
        rw [List.length_map, List.length_range] at hi; exact hi
      have hy : y = .int ((Gd.pix w t k i : Nat) : Int) := by
        unfold pxs at hy
        rw [List.getElem?_map, List.getElem?_range hi] at hy
        exact (Option.some.inj hy).symm
      subst hy
      walk_at "run"
      rw [← Int.natCast_emod, ← Int.natCast_ediv]
      have nx : ∀ b : Bool, Rg.inR (Gd.pix w t k i % w) (Gd.pix w t k i / w) l tp wd ht = b → b = false → ∀ m, m < i + 1 → Rg.inR (Gd.pix w t k m % w) (Gd.pix w t k m / w) l tp wd ht = false := fun b e eb m hm => by
        rcases Nat.lt_or_ge m i with z | z
        · exact hno m z
        · rw [show m = i by omega, e, eb]
      have yes : Rg.inR (Gd.pix w t k i % w) (Gd.pix w t k i / w) l tp wd ht = true → Q (.bl true) H2' := fun e => by
        have := q H2' s1
        rw [key.mpr ⟨i, hi, e⟩] at this; exact this
      unfold Rg.inR at nx yes
      generalize Gd.pix w t k i % w = X at nx yes ⊢
      generalize Gd.pix w t k i / w = Y at nx yes ⊢
      refine Gx.ixT (SqT.of hp) x0 ?_
      walk_at "run"
      refine Gx.if_d (fun c1 => ?_) (fun c1 => ?_)
      rotate_left
      · walk_at "run"
        exact ⟨rfl, nx false (by simp [c1]) rfl, _, _, _, rfl⟩
      walk_at "run"
      refine Gx.ixT (SqT.of hp) x0 ?_
      walk_at "run"
      refine Gx.ixT (SqT.of hp) x2 ?_
      walk_at "run"
      refine Gx.if_d (fun c2 => ?_) (fun c2 => ?_)
      rotate_left
      · walk_at "run"
        exact ⟨rfl, nx false (by simp [c2]) rfl, _, _, _, rfl⟩
      walk_at "run"
      refine Gx.ixT (SqT.of hp) x1 ?_
      walk_at "run"
      refine Gx.if_d (fun c3 => ?_) (fun c3 => ?_)
      rotate_left
      · walk_at "run"
        exact ⟨rfl, nx false (by simp [c3]) rfl, _, _, _, rfl⟩
      walk_at "run"
      refine Gx.ixT (SqT.of hp) x1 ?_
      walk_at "run"
      refine Gx.ixT (SqT.of hp) x3 ?_
      walk_at "run"
      refine Gx.if_d (fun c4 => ?_) (fun c4 => ?_)
      rotate_left
      · walk_at "run"
        exact ⟨rfl, nx false (by simp [c4]) rfl, _, _, _, rfl⟩
      walk_at "run"
      exact yes (by simp [c1, c2, c3, c4])
    rintro σ' H2 ⟨rfl, hno, v3, v4, v5, rfl⟩
    walk_at "run"
    have := q H2 s1
    rw [show Rg.tch w h t k l tp wd ht = false by
      cases e : Rg.tch w h t k l tp wd ht with
      | false => rfl
      | true =>
        obtain ⟨m, hm, z⟩ := key.mp e
        rw [hno m (by unfold pxs; rw [List.length_map, List.length_range]; exact hm)] at z
        cases z] at this
    exact this

theorem cp_law_touches {K : PySem.W.Frag} {s p : Addr} {w h d c t k : Nat} {l tp wd ht : Int} {xs : List V} {H : Hp} {Q : VK} {E : XK} (hs : SqL K H s [.int (w : Int), .int (h : Int), .int (d : Int), .int (c : Int), .int (t : Int)]) (D : Rg.Dim w h d c t) (hk : k < Gd.ac w t * Gd.ac h t)
    (hp : H p = some (.tup xs)) (x0 : atI xs 0 = some (.int l)) (x1 : atI xs 1 = some (.int tp)) (x2 : atI xs 2 = some (.int wd)) (x3 : atI xs 3 = some (.int ht)) (hwd : 1 ≤ wd) (hht : 1 ≤ ht) (q : ∀ H', Same H H' → Q (.bl (Rg.tch w h t k l tp wd ht)) H') :
    Gx.CP (sp_law_touches K) [.ref s, .ref p, .int (k : Int)] [] H Q E := ⟨s, p, w, h, d, c, t, k, l, tp, wd, ht, xs, rfl, hs, D, hk, hp, x0, x1, x2, x3, hwd, hht, q⟩

def sp_law_tiles : Sp := fun vs H Q _ => ∃ (s : Addr) (w h d c t : Nat), vs = [.ref s] ∧ H s = some (.lst [.int (w : Int), .int (h : Int), .int (d : Int), .int (c : Int), .int (t : Int)]) ∧ 1 ≤ t ∧ t ≤ 16 ∧ w ≤ 64 ∧ Q (.int (Gd.ac w t * Gd.ac h t : Nat)) H

theorem sc_law_tiles : FnScope ["sizes"] ["sizes"] (defScope s_law_tiles) := ⟨rfl, rfl, rfl, by decide +kernel, rfl, by decide +kernel, by decide +kernel⟩
theorem ok_law_tiles (T : Tx P K mg) : FnOk P w K mg base CX0 1 T.law_tiles.a T.law_tiles.d ["sizes"] (sp_law_tiles) := by
  refine T.law_tiles.f.ok sc_law_tiles (fun vs H Q E h => ?_) (fun cdv A outer s H vs Q E hr h => ⟨_, pss_one (ps_ret (pe_op op_mul (pe_op op_fdiv (pe_op op_sub (pe_op op_add (pe_ix (Gx.ix_seqK (K := K) rfl) (pv 0) (pe_int) (fun _ _ => rfl)) (pe_ix (Gx.ix_seqK (K := K) rfl) (pv 0) (pe_int) (fun _ _ => rfl))) (pe_int)) (pe_ix (Gx.ix_seqK (K := K) rfl) (pv 0) (pe_int) (fun _ _ => rfl))) (pe_op op_fdiv (pe_op op_sub (pe_op op_add (pe_ix (Gx.ix_seqK (K := K) rfl) (pv 0) (pe_int) (fun _ _ => rfl)) (pe_ix (Gx.ix_seqK (K := K) rfl) (pv 0) (pe_int) (fun _ _ => rfl))) (pe_int)) (pe_ix (Gx.ix_seqK (K := K) rfl) (pv 0) (pe_int) (fun _ _ => rfl))))), ?_⟩)
  · obtain ⟨s, w, h, d, c, t, rfl, _⟩ := h
    rfl
  · skip
    obtain ⟨s, w, h, d, c, t, rfl, hS, ht1, ht2, hw, q⟩ := h
    have l1 := Gd.ac_le (n := w) (t := t) (by omega)
    walk_at "go"
    refine Gx.ixL (SqL.of hS) (at_of (j := 0) rfl rfl) ?_
    walk_at "go"
    refine Gx.ixL (SqL.of hS) (at_of (j := 4) rfl rfl) ?_
    walk_at "go"
    refine Gx.ixL (SqL.of hS) (at_of (j := 4) rfl rfl) ?_
    walk_at "go"
    refine Gx.ic ⟨by omega, by omega⟩ ?_
    walk_at "go"
    refine Gx.ixL (SqL.of hS) (at_of (j := 1) rfl rfl) ?_
    walk_at "go"
    refine Gx.ixL (SqL.of hS) (at_of (j := 4) rfl rfl) ?_
    walk_at "go"
    refine Gx.ixL (SqL.of hS) (at_of (j := 4) rfl rfl) ?_
    walk_at "go"
    refine Gx.ic ⟨by omega, by omega⟩ ?_
    walk_at "go"
    rw [Gd.ac_int (by omega), Gd.ac_int (by omega)]
    refine Gx.ic (.inl (by omega)) ?_
    rw [← Int.natCast_mul]
    exact q

theorem cp_law_tiles {s : Addr} {w h d c t : Nat} {H : Hp} {Q : VK} {E : XK} (hS : H s = some (.lst [.int (w : Int), .int (h : Int), .int (d : Int), .int (c : Int), .int (t : Int)])) (h1 : 1 ≤ t) (h2 : t ≤ 16) (hw : w ≤ 64) (q : Q (.int (Gd.ac w t * Gd.ac h t : Nat)) H) : Gx.CP sp_law_tiles [.ref s] [] H Q E := ⟨s, w, h, d, c, t, rfl, hS, h1, h2, hw, q⟩

def bsts (w h t : Nat) (rs : List (List Int)) (n : Nat) : List Int := (List.range n).map (Rg.bst w h t rs)
def sp_law_boosts (K : PySem.W.Frag) : Sp := fun vs H Q _ => ∃ (s p : Addr) (w h d c t : Nat) (rs : List (List Int)), vs = [.ref s, .ref p] ∧ H s = some (.lst [.int (w : Int), .int (h : Int), .int (d : Int), .int (c : Int), .int (t : Int)]) ∧ Rg.Dim w h d c t ∧ Rg.RL H p rs ∧ rs.length ≤ 1000 ∧ (∀ r ∈ rs, Rg.Reg r) ∧ ∀ q H', H q = none → Same H H' → H' q = some (.lst ((bsts w h t rs (Gd.ac w t * Gd.ac h t)).map V.int)) → Q (.ref q) H'

theorem sc_law_boosts : FnScope ["sizes", "regions", "boosts", "tile", "region"] ["sizes", "regions"] (defScope s_law_boosts) := ⟨rfl, rfl, rfl, by decide +kernel, rfl, by decide +kernel, by decide +kernel⟩
theorem ok_law_boosts (T : Tx P K mg) : FnOk P w K mg base CX0 3 T.law_boosts.a T.law_boosts.d ["sizes", "regions"] (sp_law_boosts K) := by
  refine T.law_boosts.f.ok sc_law_boosts (fun vs H Q E h => ?_) (fun cdv A outer s H vs Q E hr h => ⟨_, pss_cons (ps_set (i := 2) sc_law_boosts.nd rfl (Or.inl rfl) (pe_lst pa_nil))
      (pss_cons (ps_for PassesOwn.never rfl (pi_range1 rfl T.n_range (pa_cons (pe_call (ok_law_tiles T) (hr.mono (by decide)) rfl T.law_tiles.g T.law_tiles.f.kp T.law_tiles.b .nil pass0 (pa_cons (pv 0) pa_nil)) pa_nil)) (pg_name (i := 3) sc_law_boosts.nd rfl (Or.inr rfl))
      (pss_one (ps_expr (pe_bm PySem.F.plainAttrs_list PySem.F.slot_list_append PySem.F.type_list_append mt_append (pv 2) (pa_cons (pe_callB (Gx.c_maxL (K := K) rfl rfl) rfl T.n_max (by decide +kernel) (pa_cons (pe_op op_cat (pe_lst (pa_cons (pe_int) pa_nil)) (pe_lc (own := [("region", 4)]) (g := (gName 4)) rfl sc_law_boosts.nd (pi_list (pv 1)) (blkOk_by (own := [("region", 4)]) (N := ["sizes", "regions", "boosts", "tile", "region"]) (sc := defScope s_law_boosts) (by decide +kernel)) (fun _ _ _ _ _ => (pg_name (i := 4) sc_law_boosts.nd rfl (Or.inl rfl))) (fun _ _ _ _ _ => pts_one (pt_val (pe_call (ok_law_touches T) (hr.mono (by decide)) rfl T.law_touches.g T.law_touches.f.kp T.law_touches.b .nil pass0 (pa_cons (pv 0) (pa_cons (pv 4) (pa_cons (pv 3) pa_nil)))))) (fun _ _ _ _ _ => pe_ix (Gx.ix_seqK (K := K) rfl) (pv 4) (pe_int) (fun _ _ => rfl)))) pa_nil)) pa_nil)))))
      (pss_one (ps_ret (pv 2)))), ?_⟩)
  · obtain ⟨s, p, w, h, d, c, t, rs, rfl, _⟩ := h
    rfl
  · skip
    obtain ⟨s', p, w, h, d, c, t, rs, rfl, hs, D, hp, hlen, hrs, q⟩ := h
    obtain ⟨l1, l2, l3, l4, l5, l6, l7⟩ := D.ok
    obtain ⟨xs, h1, h2, h3⟩ := hp.all
    walk_at "run"
    refine Nx.lstT (by show 0 ≤ sizeLine; decide) fun b0 H0 O => ?_
    walk_at "run"
    refine cp_law_tiles (O.same _ _ hs) D.t1 D.t2 D.w2 ?_
    walk_at "run"
    refine Gx.r1 (by omega) (by omega) ?_
    refine Gx.fw walk_range (fun i σ' H' => ∃ (R : Hp) (v3 v4 : Option V), Same H R ∧ Fx.Own R H' (Nx.one b0 (.lst ((bsts w h t rs i).map V.int))) ∧ σ' = [some (.ref s'), some (.ref p), some (.ref b0), v3, v4]) ⟨H, none, none, Same.refl _, O, rfl⟩ (fun _ _ _ _ _ => trivial) ?_ ?_
    · rintro k y σ' H3 H3' hi ⟨R, v3, v4, sR, O, rfl⟩ ⟨rfl, hy⟩
      rw [Int.toNat_natCast] at hi
      have hy2 : y = .int (k : Int) := hy.trans (congrArg V.int (by omega))
      subst hy2
      walk_at "run"
      refine Gx.bmS (Gx.tyL (SqL.of (Nx.at1 O))) ?_
      walk_at "run"
      refine Nx.lstN (by show 1 ≤ sizeLine; decide) O fun z0 R1 H1 n1 O s1 hz => ?_
      walk_at "run"
      have hL1 : H1 p = some (.lst xs) := by walk_at "fact"
      refine Gx.lp (SqL.of hL1) ?_
      refine Gx.lcFil (walk_list (xs := xs)) (by omega) (fun j => Rg.hit w h t k (rs.getD j [])) (fun j => .int ((rs.getD j []).getD 4 0)) (fun _ s => s.seq (SqL.of hL1)) Gx.sameAt ?_ ?_
      · rintro i y H4 H4' Ry Rn hi2 s4 ⟨rfl, hy⟩ hr hn
        obtain ⟨a, rfl, hj, ha⟩ := h3 i y hy
        obtain ⟨l, tp, wd, ht, bo, e, h5⟩ := hrs _ (Rg.getD_mem hj)
        rw [e] at ha hr hn
        have ha : H4' a = some (.tup [.int l, .int tp, .int wd, .int ht, .int bo]) := by walk_at "fact"
        walk_at "run"
        refine cp_law_touches (by walk_at "fact") D hi ha rfl rfl rfl rfl h5.2.2.1 h5.2.2.2.1 fun H5 s5 => ?_
        have e1 : Rg.hit w h t k [l, tp, wd, ht, bo] = Rg.tch w h t k l tp wd ht := rfl
        walk_at "run"
        refine Gx.if_b (fun c1 => ?_) (fun c1 => ?_)
        · walk_at "run"
          exact hr (by rw [e1]; exact c1) _ s5
        · exact hn (by rw [e1]; exact c1) _ s5
      intro lp H2 nl s2 hL
      rw [h2, Rg.bvals_range] at hL
      refine Nx.cat0 (zs := (Rg.bvals w h t rs k).map V.int) (by walk_at "fact") hL (by unfold Rg.bvals; have := List.length_filter_le (Rg.hit w h t k) rs; simp [sizeLine_eq]; omega) fun q1 H5 n5 s5 h5 => ?_
      walk_at "run"
      refine Gx.maxL (ns := 0 :: Rg.bvals w h t rs k) (SqL.of h5) (by simp) fun m m1 m2 => ?_
      obtain ⟨R2, O, sR2, _⟩ := Nx.Own.grow O (s2.trans s5)
      walk_at "run"
      refine Nx.appT O (by unfold bsts; simp [sizeLine_eq]; omega) fun H6 O => ?_
      walk_at "run"
      refine ⟨R2, _, _, sR.trans (s1.trans sR2), ?_, rfl⟩
      rw [show m = Rg.bst w h t rs k from Rg.mx_of0 (Rg.bvals_nn hrs) m1 m2] at O
      have e9 : (bsts w h t rs (k + 1)).map V.int = (bsts w h t rs k).map V.int ++ [V.int (Rg.bst w h t rs k)] := by unfold bsts; rw [List.range_succ, List.map_append, List.map_append]; rfl
      rw [e9]; exact O
    rintro σ' H3 ⟨R, v3, v4, sR, O, rfl⟩
    rw [Int.toNat_natCast] at O
    walk_at "run"
    exact q b0 H3 (sR.free (Nx.no1 O)) (sR.trans O.same) (Nx.at1 O)

theorem cp_law_boosts {K : PySem.W.Frag} {s p : Addr} {w h d c t : Nat} {rs : List (List Int)} {H : Hp} {Q : VK} {E : XK} (hs : H s = some (.lst [.int (w : Int), .int (h : Int), .int (d : Int), .int (c : Int), .int (t : Int)])) (D : Rg.Dim w h d c t) (hp : Rg.RL H p rs) (hl : rs.length ≤ 1000) (hr : ∀ r ∈ rs, Rg.Reg r)
    (q : ∀ q H', H q = none → Same H H' → H' q = some (.lst ((bsts w h t rs (Gd.ac w t * Gd.ac h t)).map V.int)) → Q (.ref q) H') : Gx.CP (sp_law_boosts K) [.ref s, .ref p] [] H Q E := ⟨s, p, w, h, d, c, t, rs, rfl, hs, D, hp, hl, hr, q⟩

def sp_law_plan (K : PySem.W.Frag) : Sp := fun vs H Q _ => ∃ (s p : Addr) (w h d c t : Nat) (rs : List (List Int)), vs = [.ref s, .ref p] ∧ H s = some (.lst [.int (w : Int), .int (h : Int), .int (d : Int), .int (c : Int), .int (t : Int)]) ∧ Rg.Dim w h d c t ∧ Rg.RL H p rs ∧ Rg.RegsOk rs ∧
  ∀ q H', H q = none → Same H H' → Gx.TL H' q (d * c * (Gd.ac w t * Gd.ac h t)) (fun j => Gd.ky (Gd.ac w t * Gd.ac h t) c d ((Pl.pl w h d c t rs).getD j 0)) → Q (.ref q) H'
/-- references told by the numbers of their keys -/
def KR (H : Hp) (T c d : Nat) (xs : List V) (ns : List Nat) : Prop := ∃ ps : List Addr, xs = ps.map V.ref ∧ ps.length = ns.length ∧ ∀ j a, ps[j]? = some a → H a = some (.tup ((Gd.ky T c d (ns.getD j 0)).map V.int))
theorem KR.keep {H H' : Hp} {T c d : Nat} {xs : List V} {ns : List Nat} (x : KR H T c d xs ns) (s : Same H H') : KR H' T c d xs ns := by
  obtain ⟨ps, h1, h2, h3⟩ := x
  exact ⟨ps, h1, h2, fun j a e => s _ _ (h3 j a e)⟩
theorem KR.app {H : Hp} {T c d : Nat} {xs ys : List V} {ns ms : List Nat} (x : KR H T c d xs ns) (y : KR H T c d ys ms) : KR H T c d (xs ++ ys) (ns ++ ms) := by
  obtain ⟨ps, h1, h2, h3⟩ := x
  obtain ⟨qs, g1, g2, g3⟩ := y
  refine ⟨ps ++ qs, by rw [h1, g1, List.map_append], by rw [List.length_append, List.length_append]; omega, fun j a e => ?_⟩
  rcases Nat.lt_or_ge j ps.length with z | z
  · rw [List.getElem?_append_left z] at e
    rw [List.getD_eq_getElem?_getD, List.getElem?_append_left (by omega), ← List.getD_eq_getElem?_getD]
    exact h3 j a e
  · rw [List.getElem?_append_right z] at e
    rw [List.getD_eq_getElem?_getD, List.getElem?_append_right (by omega), ← List.getD_eq_getElem?_getD, ← h2]
    exact g3 _ a e
theorem KR.tl {H : Hp} {T c d : Nat} {l : Addr} {xs : List V} {ns : List Nat} (h : H l = some (.lst xs)) (x : KR H T c d xs ns) : Gx.TL H l ns.length (fun j => Gd.ky T c d (ns.getD j 0)) := by
  obtain ⟨ps, rfl, h2, h3⟩ := x
  exact ⟨ps, h, h2, h3⟩
theorem KR.pick {H : Hp} {T c d N : Nat} {ps : List Addr} (hl : ps.length = N) (hp : ∀ j a, ps[j]? = some a → H a = some (.tup ((Gd.ky T c d j).map V.int))) (p : Nat → Bool) : KR H T c d (((List.range N).filter p).map fun j => (ps.map V.ref).getD j .non) ((List.range N).filter p) := by
  refine ⟨((List.range N).filter p).map fun j => ps.getD j 0, ?_, by rw [List.length_map], fun j a e => ?_⟩
  · rw [List.map_map]
    refine List.map_congr_left fun j hj => ?_
    have hj := List.mem_range.mp (List.mem_filter.mp hj).1
    show (ps.map V.ref).getD j .non = V.ref (ps.getD j 0)
    rw [List.getD_eq_getElem?_getD, List.getD_eq_getElem?_getD, List.getElem?_map, List.getElem?_eq_getElem (by omega)]; rfl
  · rw [List.getElem?_map] at e
    cases ej : ((List.range N).filter p)[j]? with
    | none => rw [ej] at e; cases e
    | some n =>
      rw [ej] at e
      have hn := List.mem_range.mp (List.mem_filter.mp (List.mem_of_getElem? ej)).1
      have ea : ps.getD n 0 = a := Option.some.inj e
      rw [List.getD_eq_getElem?_getD, List.getElem?_eq_getElem (by omega)] at ea
      rw [List.getD_eq_getElem?_getD, ej]
      exact hp n a (by rw [List.getElem?_eq_getElem (by omega)]; exact congrArg some ea)

theorem sc_law_plan : FnScope ["sizes", "regions", "boosts", "keys", "rows", "down", "wanted", "key"] ["sizes", "regions"] (defScope s_law_plan) := ⟨rfl, rfl, rfl, by decide +kernel, rfl, by decide +kernel, by decide +kernel⟩
theorem ok_law_plan (T : Tx P K mg) : FnOk P w K mg base CX0 4 T.law_plan.a T.law_plan.d ["sizes", "regions"] (sp_law_plan K) := by
  refine T.law_plan.f.ok sc_law_plan (fun vs H Q E h => ?_) (fun cdv A outer s H vs Q E hr h => ⟨_, pss_cons (ps_set (i := 2) sc_law_plan.nd rfl (Or.inr rfl) (pe_call (ok_law_boosts T) (hr.mono (by decide)) rfl T.law_boosts.g T.law_boosts.f.kp T.law_boosts.b .nil pass0 (pa_cons (pv 0) (pa_cons (pv 1) pa_nil))))
      (pss_cons (ps_set (i := 3) sc_law_plan.nd rfl (Or.inl rfl) (pe_call (ok_law_order T) (hr.mono (by decide)) rfl T.law_order.g T.law_order.f.kp T.law_order.b .nil pass0 (pa_cons (pv 0) (pa_cons (pe_callB (Gx.c_lenK (K := K) rfl) rfl T.n_len (by decide +kernel) (pa_cons (pv 2) pa_nil)) pa_nil))))
      (pss_cons (ps_set (i := 4) sc_law_plan.nd rfl (Or.inl rfl) (pe_lst pa_nil))
      (pss_cons (ps_for PassesOwn.never rfl (pi_range1 rfl T.n_range (pa_cons (pe_op op_add (pe_ix (Gx.ix_seqK (K := K) rfl) (pv 0) (pe_int) (fun _ _ => rfl)) (pe_int)) pa_nil)) (pg_name (i := 5) sc_law_plan.nd rfl (Or.inl rfl))
      (pss_cons (ps_set (i := 6) sc_law_plan.nd rfl (Or.inr rfl) (pe_op op_sub (pe_op op_add (pe_ix (Gx.ix_seqK (K := K) rfl) (pv 0) (pe_int) (fun _ _ => rfl)) (pe_int)) (pv 5)))
      (pss_one (ps_set (i := 4) sc_law_plan.nd rfl (Or.inl rfl) (pe_op op_cat (pv 4) (pe_lc (own := [("key", 7)]) (g := (gName 7)) rfl sc_law_plan.nd (pi_list (pv 3)) (blkOk_by (own := [("key", 7)]) (N := ["sizes", "regions", "boosts", "keys", "rows", "down", "wanted", "key"]) (sc := defScope s_law_plan) (by decide +kernel)) (fun _ _ _ _ _ => (pg_name (i := 7) sc_law_plan.nd rfl (Or.inl rfl))) (fun _ _ _ _ _ => pts_one (pt_cmpR op_eq (pe_op op_add (pe_ix (Gx.ix_seqK (K := K) rfl) (pv 7) (pe_int) (fun _ _ => rfl)) (pe_ix (Gx.ix_seqK (K := K) rfl) (pv 2) (pe_ix (Gx.ix_seqK (K := K) rfl) (pv 7) (pe_int) (fun _ _ => rfl)) (fun _ _ => rfl))) (pv 6) (nomark _))) (fun _ _ _ _ _ => pv 7)))))))
      (pss_one (ps_ret (pv 4)))))), ?_⟩)
  · obtain ⟨s, p, w, h, d, c, t, rs, rfl, _⟩ := h
    rfl
  · skip
    obtain ⟨s', p, w, h, d, c, t, rs, rfl, hs, D, hp, ok, q⟩ := h
    obtain ⟨l1, l2, l3, l4, l5, l6, l7, l8, l9⟩ := D.ok
    have l10 : d * c * (Gd.ac w t * Gd.ac h t) ≤ 8 * 3 * (64 * 64) := Nat.mul_le_mul (Nat.mul_le_mul D.d2 l8) l6
    have hd2 := D.d2
    have hd1 := D.d1
    have hreg : ∀ r ∈ rs, Rg.Reg r := fun r hr => (ok.2 r hr).reg
    walk_at "run"
    refine cp_law_boosts hs D hp (by have := ok.1; omega) hreg fun bq H1 n1 s1 h1 => ?_
    walk_at "run"
    refine Gx.lenL (SqL.of h1) ?_
    rw [List.length_map, show (bsts w h t rs (Gd.ac w t * Gd.ac h t)).length = Gd.ac w t * Gd.ac h t by unfold bsts; simp]
    refine cp_law_order (s1 _ _ hs) hd2 l8 (by omega) fun kq H2 n2 s2 hK => ?_
    obtain ⟨ps, e1, e2, e3⟩ := id hK
    walk_at "run"
    refine Nx.lst0 (by show 0 ≤ sizeLine; decide) fun r0 H3 n3 s3 h3 => ?_
    walk_at "run"
    refine Gx.r1 (by omega) (by omega) ?_
    have M0 : ∀ i, i < d + 17 → Pl.down (Pl.sc w h d c t rs) (List.range (d * c * (Gd.ac w t * Gd.ac h t))) (d + 17 - i) = (List.range (d * c * (Gd.ac w t * Gd.ac h t))).filter (fun k => decide (Pl.sc w h d c t rs k = ((d + 16 - i : Nat) : Int))) ++ Pl.down (Pl.sc w h d c t rs) (List.range (d * c * (Gd.ac w t * Gd.ac h t))) (d + 17 - (i + 1)) := fun i hi => by
      rw [show d + 17 - i = (d + 16 - i) + 1 by omega, show d + 17 - (i + 1) = d + 16 - i by omega]
      rfl
    refine Gx.fw walk_range (fun i σ' H' => ∃ (rq : Addr) (xs : List V) (ns : List Nat) (v5 v6 v7 : Option V), Same H3 H' ∧ H rq = none ∧ H' rq = some (.lst xs) ∧ KR H' (Gd.ac w t * Gd.ac h t) c d xs ns ∧ xs.length ≤ i * (d * c * (Gd.ac w t * Gd.ac h t)) ∧ ns ++ Pl.down (Pl.sc w h d c t rs) (List.range (d * c * (Gd.ac w t * Gd.ac h t))) (d + 17 - i) = Pl.pl w h d c t rs ∧ σ' = [some (.ref s'), some (.ref p), some (.ref bq), some (.ref kq), some (.ref rq), v5, v6, v7])
      ⟨r0, [], [], none, none, none, Same.refl _, s1.free (s2.free n3), h3, ⟨[], rfl, rfl, fun j a e => nomatch e⟩, Nat.zero_le _, rfl, rfl⟩ (fun _ _ _ _ _ => trivial) ?_ ?_
    · rintro i y σ' H4 H4' hi ⟨rq, xs, ns, v5, v6, v7, s4, nr, hr, kr, hxl, hns, rfl⟩ ⟨rfl, hy⟩
      have hi2 : i < d + 17 := by omega
      have hy2 : y = .int (i : Int) := hy.trans (congrArg V.int (by omega))
      subst hy2
      have e14 : H4' kq = some (.lst (ps.map V.ref)) := by walk_at "fact"
      walk_at "run"
      refine Gx.lp (SqL.of e14) ?_
      refine Gx.lcFil (walk_list (xs := ps.map V.ref)) (by rw [List.length_map]; omega) (fun k => decide (Pl.sc w h d c t rs k = ((d + 16 - i : Nat) : Int))) (fun k => (ps.map V.ref).getD k .non) (fun _ s => s.seq (SqL.of e14)) Gx.sameAt ?_ ?_
      · rintro k y H5 H5' R R0 hk s5 ⟨rfl, hyk⟩ hyes hno
        rw [List.length_map] at hk
        have hyk2 : (ps.map V.ref).getD k .non = y := by rw [List.getD_eq_getElem?_getD, hyk]; rfl
        rw [hyk2] at hyes
        obtain ⟨a, rfl, ha⟩ : ∃ a, y = .ref a ∧ H2 a = some (.tup ((Gd.ky (Gd.ac w t * Gd.ac h t) c d k).map V.int)) := by
          rw [List.getElem?_map, List.getElem?_eq_getElem hk] at hyk
          exact ⟨_, (Option.some.inj hyk).symm, e3 k _ (List.getElem?_eq_getElem hk)⟩
        have ha : H5' a = some (.tup ((Gd.ky (Gd.ac w t * Gd.ac h t) c d k).map V.int)) := by walk_at "fact"
        rw [Gd.ky_at (by omega)] at ha
        have hm : k % (Gd.ac w t * Gd.ac h t) < Gd.ac w t * Gd.ac h t := Nat.mod_lt _ l5
        have e0 : Pl.sc w h d c t rs k = (d : Int) - 1 - ((k / (Gd.ac w t * Gd.ac h t) / c : Nat) : Int) + Rg.bst w h t rs (k % (Gd.ac w t * Gd.ac h t)) := by
          unfold Pl.sc
          rw [Gd.ky_at (by omega)]; rfl
        rw [e0] at hyes hno
        have hb : (bsts w h t rs (Gd.ac w t * Gd.ac h t)).getD (k % (Gd.ac w t * Gd.ac h t)) 0 = Rg.bst w h t rs (k % (Gd.ac w t * Gd.ac h t)) := by
          unfold bsts
          rw [List.getD_eq_getElem?_getD, List.getElem?_map, List.getElem?_range hm]; rfl
        have hbl : k % (Gd.ac w t * Gd.ac h t) < (bsts w h t rs (Gd.ac w t * Gd.ac h t)).length := by unfold bsts; simpa using hm
        have h15 : H5' bq = some (.lst ((bsts w h t rs (Gd.ac w t * Gd.ac h t)).map V.int)) := by walk_at "fact"
        generalize Gd.ac w t * Gd.ac h t = N at *
        generalize k / N / c = u at *
        generalize k / N % c = v at *
        have ha : H5' a = some (.tup [.int (v : Int), .int ((k % N : Nat) : Int), .int ((d : Int) - 1 - (u : Int))]) := ha
        generalize k % N = m at *
        walk_at "run"
        refine Gx.ixL (SqL.of h15) (Gx.at_map hbl) ?_
        rw [hb]
        walk_at "run"
        rw [show ((d : Int) + 16 - (i : Int)) = ((d + 16 - i : Nat) : Int) by omega]
        refine Gx.if_b (fun c1 => ?_) (fun c1 => ?_)
        · walk_at "run"
          exact hyes c1 _ (Same.refl _)
        · exact hno c1 _ (Same.refl _)
      intro fq H5 n5 s5 h5
      rw [List.length_map, e2] at h5
      have hfl := List.length_filter_le (fun k => decide (Pl.sc w h d c t rs k = ((d + 16 - i : Nat) : Int))) (List.range (d * c * (Gd.ac w t * Gd.ac h t)))
      rw [List.length_range] at hfl
      have hmul : i * (d * c * (Gd.ac w t * Gd.ac h t)) ≤ 25 * (8 * 3 * (64 * 64)) := Nat.mul_le_mul (by omega) l10
      refine Nx.cat0 (s5 _ _ hr) h5 (by rw [List.length_map, sizeLine_eq]; omega) fun rq2 H6 n6 s6 h6 => ?_
      walk_at "run"
      have pk := KR.pick (H := H6) (T := Gd.ac w t * Gd.ac h t) (c := c) (d := d) e2 (fun j a e => (s3.trans (s4.trans (s5.trans s6))) _ _ (e3 j a e)) (fun k => decide (Pl.sc w h d c t rs k = ((d + 16 - i : Nat) : Int)))
      refine ⟨rq2, _, _, _, _, _, by walk_at "xsame", s1.free (s2.free (s3.free (s4.free (s5.free n6)))), h6, (kr.keep (s5.trans s6)).app pk, ?_, ?_, rfl⟩
      · rw [List.length_append, List.length_map, Nat.succ_mul]; omega
      · rw [List.append_assoc, ← M0 i hi2]; exact hns
    rintro σ' H4 ⟨rq, xs, ns, v5, v6, v7, s4, nr, hr, kr, hxl, hns, rfl⟩
    walk_at "run"
    rw [show d + 17 - ((d : Int) + 17).toNat = 0 by omega] at hns
    have hns : ns = Pl.pl w h d c t rs := by rw [← hns]; exact (List.append_nil _).symm
    subst hns
    have := kr.tl hr
    rw [Pl.pl_len D ok.2] at this
    exact q rq H4 nr (by walk_at "xsame") this

theorem cp_law_plan {K : PySem.W.Frag} {s p : Addr} {w h d c t : Nat} {rs : List (List Int)} {H : Hp} {Q : VK} {E : XK} (hs : H s = some (.lst [.int (w : Int), .int (h : Int), .int (d : Int), .int (c : Int), .int (t : Int)])) (D : Rg.Dim w h d c t) (hp : Rg.RL H p rs) (ok : Rg.RegsOk rs)
    (q : ∀ q H', H q = none → Same H H' → Gx.TL H' q (d * c * (Gd.ac w t * Gd.ac h t)) (fun j => Gd.ky (Gd.ac w t * Gd.ac h t) c d ((Pl.pl w h d c t rs).getD j 0)) → Q (.ref q) H') : Gx.CP (sp_law_plan K) [.ref s, .ref p] [] H Q E := ⟨s, p, w, h, d, c, t, rs, rfl, hs, D, hp, ok, q⟩

theorem at_w {H : Hp} {p : Addr} {xs : List Int} (K : PySem.W.Frag) {i : Int} {k : Nat} {Q : VK} (h : H p = some (.lst (xs.map V.int))) (e : i = (k : Int)) (hk : k < xs.length) (hx : ∀ x ∈ xs, 0 ≤ x ∧ x < 960000) (q : ∀ z : Int, z = xs.getD k 0 → 0 ≤ z → z < 960000 → Q (.int z) H) : rIx K (.ref p) (.int i) H Q := by
  subst e
  refine Gx.ixL (SqL.of h) (Gx.at_map hk) ?_
  have hm : xs.getD k 0 ∈ xs := by rw [List.getD_eq_getElem?_getD, List.getElem?_eq_getElem hk]; exact List.getElem_mem hk
  exact q _ rfl (hx _ hm).1 (hx _ hm).2
def sp_law_regions (K : PySem.W.Frag) : Sp := fun vs H Q _ => ∃ (cc : Int) (s : Addr) (w h d c t : Nat), vs = [.int cc, .ref s] ∧ H s = some (.lst [.int (w : Int), .int (h : Int), .int (d : Int), .int (c : Int), .int (t : Int)]) ∧ Rg.Dim w h d c t ∧ ∀ (rs : List (List Int)) q H', rs.length ≤ 3 → (∀ r ∈ rs, Rg.RegB r) → H q = none → Same H H' → Rg.RL H' q rs → Q (.ref q) H'

theorem sc_law_regions : FnScope ["cell", "sizes", "picks", "regions", "k", "left", "top", "size", "wide", "high"] ["cell", "sizes"] (defScope s_law_regions) := ⟨rfl, rfl, rfl, by decide +kernel, rfl, by decide +kernel, by decide +kernel⟩
theorem ok_law_regions (T : Tx P K mg) : FnOk P w K mg base CX0 3 T.law_regions.a T.law_regions.d ["cell", "sizes"] (sp_law_regions K) := by
  refine T.law_regions.f.ok sc_law_regions (fun vs H Q E h => ?_) (fun cdv A outer s H vs Q E hr h => ⟨_, pss_cons (ps_set (i := 2) sc_law_regions.nd rfl (Or.inl rfl) (pe_call (ok_law_numbers T) (hr.mono (by decide)) rfl T.law_numbers.g T.law_numbers.f.kp T.law_numbers.b .nil pass0 (pa_cons (pv 0) (pa_cons (pe_int) (pa_cons (pe_int) pa_nil)))))
      (pss_cons (ps_set (i := 3) sc_law_regions.nd rfl (Or.inl rfl) (pe_lst pa_nil))
      (pss_cons (ps_for PassesOwn.never rfl (pi_range1 rfl T.n_range (pa_cons (pe_op op_mod (pe_ix (Gx.ix_seqK (K := K) rfl) (pv 2) (pe_int) (fun _ _ => rfl)) (pe_int)) pa_nil)) (pg_name (i := 4) sc_law_regions.nd rfl (Or.inl rfl))
      (C8.pss_cut (ps_set (i := 5) sc_law_regions.nd rfl (Or.inl rfl) (pe_ifExp (pt_cmpR op_eq (pe_op op_mod (pe_op op_fdiv (pe_ix (Gx.ix_seqK (K := K) rfl) (pv 2) (pe_op op_add (pe_op op_mul (pe_int) (pv 4)) (pe_int)) (fun _ _ => rfl)) (pe_int)) (pe_int)) (pe_int) (nomark _)) (pe_op op_mod (pe_ix (Gx.ix_seqK (K := K) rfl) (pv 2) (pe_op op_add (pe_op op_mul (pe_int) (pv 4)) (pe_int)) (fun _ _ => rfl)) (pe_int)) (pe_op op_mod (pe_op op_fdiv (pe_ix (Gx.ix_seqK (K := K) rfl) (pv 2) (pe_op op_add (pe_op op_mul (pe_int) (pv 4)) (pe_int)) (fun _ _ => rfl)) (pe_int)) (pe_ix (Gx.ix_seqK (K := K) rfl) (pv 1) (pe_int) (fun _ _ => rfl)))))
      (C8.pss_cut (ps_set (i := 6) sc_law_regions.nd rfl (Or.inl rfl) (pe_ifExp (pt_cmpR op_eq (pe_op op_mod (pe_op op_fdiv (pe_ix (Gx.ix_seqK (K := K) rfl) (pv 2) (pe_op op_add (pe_op op_mul (pe_int) (pv 4)) (pe_int)) (fun _ _ => rfl)) (pe_int)) (pe_int)) (pe_int) (nomark _)) (pe_op op_mod (pe_ix (Gx.ix_seqK (K := K) rfl) (pv 2) (pe_op op_add (pe_op op_mul (pe_int) (pv 4)) (pe_int)) (fun _ _ => rfl)) (pe_int)) (pe_op op_mod (pe_op op_fdiv (pe_ix (Gx.ix_seqK (K := K) rfl) (pv 2) (pe_op op_add (pe_op op_mul (pe_int) (pv 4)) (pe_int)) (fun _ _ => rfl)) (pe_int)) (pe_ix (Gx.ix_seqK (K := K) rfl) (pv 1) (pe_int) (fun _ _ => rfl)))))
      (pss_cons (ps_set (i := 7) sc_law_regions.nd rfl (Or.inl rfl) (pe_ix (Gx.ix_seqK (K := K) rfl) (pv 2) (pe_op op_add (pe_op op_mul (pe_int) (pv 4)) (pe_int)) (fun _ _ => rfl)))
      (C8.pss_cut (ps_set (i := 8) sc_law_regions.nd rfl (Or.inl rfl) (pe_op op_add (pe_int) (pe_ifExp (pt_cmpR op_eq (pe_op op_mod (pe_op op_fdiv (pv 7) (pe_int)) (pe_int)) (pe_int) (nomark _)) (pe_op op_mod (pv 7) (pe_int)) (pe_op op_mod (pe_op op_fdiv (pv 7) (pe_int)) (pe_ix (Gx.ix_seqK (K := K) rfl) (pv 1) (pe_int) (fun _ _ => rfl))))))
      (C8.pss_cut (ps_set (i := 9) sc_law_regions.nd rfl (Or.inl rfl) (pe_op op_add (pe_int) (pe_ifExp (pt_cmpR op_eq (pe_op op_mod (pe_op op_fdiv (pv 7) (pe_int)) (pe_int)) (pe_int) (nomark _)) (pe_op op_mod (pe_op op_fdiv (pv 7) (pe_int)) (pe_int)) (pe_op op_mod (pe_op op_fdiv (pv 7) (pe_int)) (pe_ix (Gx.ix_seqK (K := K) rfl) (pv 1) (pe_int) (fun _ _ => rfl))))))
      (pss_one (ps_expr (pe_bm PySem.F.plainAttrs_list PySem.F.slot_list_append PySem.F.type_list_append mt_append (pv 3) (pa_cons (pe_tup (pa_cons (pv 5) (pa_cons (pv 6) (pa_cons (pv 8) (pa_cons (pv 9) (pa_cons (pe_op op_mod (pe_op op_fdiv (pv 7) (pe_int)) (pe_int)) pa_nil)))))) pa_nil))))))))))
      (pss_one (ps_ret (pv 3))))), ?_⟩)
  · obtain ⟨cc, s, w, h, d, c, t, rfl, _⟩ := h
    rfl
  · skip
    obtain ⟨cc, s', w, h, d, c, t, rfl, hs, D, q⟩ := h
    obtain ⟨a1, a2, a3, a4, a5, a6, a7, a8, a9, a10⟩ := id D
    walk_at "run"
    refine cp_law_numbers (by decide) (by decide) (by decide) fun xs pk H1 hl hx n1 s1 h1 => ?_
    have hl : xs.length = 13 := hl
    walk_at "run"
    refine Nx.lstT (by show 0 ≤ sizeLine; decide) fun b0 H0 O => ?_
    have hs1 := s1 _ _ hs
    walk_at "run"
    refine at_w K (k := 0) (O.same _ _ h1) rfl (by omega) hx fun z0 _ hz0 hz1 => ?_
    walk_at "run"
    refine Gx.r1 (by omega) (by omega) ?_
    refine Gx.fw walk_range (fun i σ' H' => ∃ (R : Hp) (rs : List (List Int)) (vs : List V) (v4 v5 v6 v7 v8 v9 : Option V), rs.length = i ∧ (∀ r ∈ rs, Rg.RegB r) ∧ vs.length = i ∧ (∀ j v, vs[j]? = some v → ∃ a, v = .ref a ∧ R a = some (.tup ((rs.getD j []).map V.int))) ∧ Same H1 R ∧ Fx.Own R H' (Nx.one b0 (.lst vs)) ∧ σ' = [some (.int cc), some (.ref s'), some (.ref pk), some (.ref b0), v4, v5, v6, v7, v8, v9]) ⟨H1, [], [], none, none, none, none, none, none, rfl, (fun r h => nomatch h), rfl, (fun j v e => nomatch e), Same.refl _, O, rfl⟩ (fun _ _ _ _ _ => trivial) ?_ ?_
    · rintro i y σ' H3 H3' hi ⟨R, rs, vs, v4, v5, v6, v7, v8, v9, hrl, hrb, hvl, hvs, sR, O, rfl⟩ ⟨rfl, hy⟩
      have hi4 : i < 4 := by omega
      have hy2 : y = .int (i : Int) := hy.trans (congrArg V.int (by omega))
      subst hy2
      have hpk : H3' pk = some (.lst (xs.map V.int)) := by walk_at "fact"
      have hs3 : H3' s' = some (.lst [.int (w : Int), .int (h : Int), .int (d : Int), .int (c : Int), .int (t : Int)]) := by walk_at "fact"
      walk_at "run"
      refine Gx.cut (fun σ' H' => ∃ lf : Int, 0 ≤ lf ∧ lf ≤ 63 ∧ H' = H3' ∧ σ' = [some (.int cc), some (.ref s'), some (.ref pk), some (.ref b0), some (.int (i : Int)), some (.int lf), v6, v7, v8, v9]) ?_ ?_
      · walk_at "run"
        refine at_w K (k := 3 * i + 1) hpk (by omega) (by omega) hx fun z _ hz0 hz1 => ?_
        walk_at "run"
        refine Gx.if_d (fun _ => ?_) (fun _ => ?_)
        · walk_at "run"
          refine at_w K (k := 3 * i + 1) hpk (by omega) (by omega) hx fun z _ hz0 hz1 => ?_
          walk_at "run"
          exact ⟨_, by omega, by omega, rfl, rfl⟩
        · walk_at "run"
          refine at_w K (k := 3 * i + 1) hpk (by omega) (by omega) hx fun z _ hz0 hz1 => ?_
          walk_at "run"
          exact ⟨_, Int.emod_nonneg _ (by omega), by have := Int.emod_lt_of_pos (z / 192) (show (0 : Int) < w by omega); omega, rfl, rfl⟩
      rintro σ' H4 ⟨lf, lf0, lf1, rfl, rfl⟩
      refine Gx.cut (fun σ' H' => ∃ tp : Int, 0 ≤ tp ∧ tp ≤ 63 ∧ H' = H4 ∧ σ' = [some (.int cc), some (.ref s'), some (.ref pk), some (.ref b0), some (.int (i : Int)), some (.int lf), some (.int tp), v7, v8, v9]) ?_ ?_
      · walk_at "run"
        refine at_w K (k := 3 * i + 2) hpk (by omega) (by omega) hx fun z _ hz0 hz1 => ?_
        walk_at "run"
        refine Gx.if_d (fun _ => ?_) (fun _ => ?_)
        · walk_at "run"
          refine at_w K (k := 3 * i + 2) hpk (by omega) (by omega) hx fun z _ hz0 hz1 => ?_
          walk_at "run"
          exact ⟨_, by omega, by omega, rfl, rfl⟩
        · walk_at "run"
          refine at_w K (k := 3 * i + 2) hpk (by omega) (by omega) hx fun z _ hz0 hz1 => ?_
          walk_at "run"
          exact ⟨_, Int.emod_nonneg _ (by omega), by have := Int.emod_lt_of_pos (z / 192) (show (0 : Int) < h by omega); omega, rfl, rfl⟩
      rintro σ' H5 ⟨tp, tp0, tp1, rfl, rfl⟩
      walk_at "run"
      refine at_w K (k := 3 * i + 3) hpk (by omega) (by omega) hx fun sz _ hsz0 hsz1 => ?_
      walk_at "run"
      refine Gx.cut (fun σ' H' => ∃ wd : Int, 1 ≤ wd ∧ wd ≤ 64 ∧ H' = H5 ∧ σ' = [some (.int cc), some (.ref s'), some (.ref pk), some (.ref b0), some (.int (i : Int)), some (.int lf), some (.int tp), some (.int sz), some (.int wd), v9]) ?_ ?_
      · walk_at "run"
        refine Gx.if_d (fun _ => ?_) (fun _ => ?_)
        · walk_at "run"
          exact ⟨_, by omega, by omega, rfl, rfl⟩
        · walk_at "run"
          have g1 := Int.emod_nonneg (sz / 192) (show (w : Int) ≠ 0 by omega)
          have g2 := Int.emod_lt_of_pos (sz / 192) (show (0 : Int) < w by omega)
          exact ⟨_, by omega, by omega, rfl, rfl⟩
      rintro σ' H6 ⟨wd, wd0, wd1, rfl, rfl⟩
      refine Gx.cut (fun σ' H' => ∃ ht : Int, 1 ≤ ht ∧ ht ≤ 64 ∧ H' = H6 ∧ σ' = [some (.int cc), some (.ref s'), some (.ref pk), some (.ref b0), some (.int (i : Int)), some (.int lf), some (.int tp), some (.int sz), some (.int wd), some (.int ht)]) ?_ ?_
      · walk_at "run"
        refine Gx.if_d (fun _ => ?_) (fun _ => ?_)
        · walk_at "run"
          exact ⟨_, by omega, by omega, rfl, rfl⟩
        · walk_at "run"
          have g1 := Int.emod_nonneg (sz / 576) (show (h : Int) ≠ 0 by omega)
          have g2 := Int.emod_lt_of_pos (sz / 576) (show (0 : Int) < h by omega)
          exact ⟨_, by omega, by omega, rfl, rfl⟩
      rintro σ' H7 ⟨ht, ht0, ht1, rfl, rfl⟩
      walk_at "run"
      refine Gx.bmS (Gx.tyL (SqL.of (Nx.at1 O))) ?_
      walk_at "run"
      refine Nx.tupN (by show 5 ≤ sizeLine; decide) O fun tq R1 H8 n8 O s8 h8 => ?_
      walk_at "run"
      refine Nx.appT O (by rw [hvl, sizeLine_eq]; omega) fun H9 O => ?_
      walk_at "run"
      refine ⟨R1, rs ++ [[lf, tp, wd, ht, sz / 3 % 17]], _, _, _, _, _, _, _, by simp [hrl], fun r hr => ?_, by simp [hvl], fun j v e => ?_, sR.trans s8, O, rfl⟩
      · rcases List.mem_append.mp hr with hr | hr
        · exact hrb r hr
        · rw [List.mem_singleton.mp hr]
          exact ⟨_, _, _, _, _, rfl, ⟨lf0, lf1⟩, ⟨tp0, tp1⟩, ⟨wd0, wd1⟩, ⟨ht0, ht1⟩, by omega, by omega⟩
      · rcases Nat.lt_or_ge j vs.length with hj | hj
        · rw [List.getElem?_append_left hj] at e
          obtain ⟨a, rfl, ha⟩ := hvs j v e
          refine ⟨a, rfl, ?_⟩
          rw [List.getD_eq_getElem?_getD, List.getElem?_append_left (by omega), ← List.getD_eq_getElem?_getD]
          exact s8 _ _ ha
        · rw [List.getElem?_append_right hj] at e
          have hj2 : j - vs.length = 0 := by
            rcases Nat.eq_zero_or_pos (j - vs.length) with z | z
            · exact z
            · rw [List.getElem?_eq_none (by show 1 ≤ _; omega)] at e; cases e
          rw [hj2] at e
          cases e
          refine ⟨tq, rfl, ?_⟩
          rw [List.getD_eq_getElem?_getD, List.getElem?_append_right (by omega), show j - rs.length = 0 by omega]
          exact h8
    rintro σ' H3 ⟨R, rs, vs, v4, v5, v6, v7, v8, v9, hrl, hrb, hvl, hvs, sR, O, rfl⟩
    walk_at "run"
    refine q rs b0 H3 (by omega) hrb (s1.free (sR.free (Nx.no1 O))) (s1.trans (sR.trans O.same)) ?_
    obtain ⟨ps, rfl⟩ : ∃ ps : List Addr, vs = ps.map V.ref := by
      clear O
      have key : ∀ (vs : List V), (∀ v ∈ vs, ∃ a, v = V.ref a) → ∃ ps : List Addr, vs = ps.map V.ref := by
        intro vs
        induction vs with
        | nil => exact fun _ => ⟨[], rfl⟩
        | cons v vs ih =>
          intro hv
          obtain ⟨a, rfl⟩ := hv v List.mem_cons_self
          obtain ⟨ps, rfl⟩ := ih fun u hu => hv u (List.mem_cons_of_mem _ hu)
          exact ⟨a :: ps, rfl⟩
      refine key vs fun v hv => ?_
      obtain ⟨j, hj⟩ := List.getElem?_of_mem hv
      obtain ⟨a, e, _⟩ := hvs j v hj
      exact ⟨a, e⟩
    refine ⟨ps, Nx.at1 O, by rw [List.length_map] at hvl; omega, fun j a e => ?_⟩
    obtain ⟨a', e1, e2⟩ := hvs j (.ref a) (by rw [List.getElem?_map, e]; rfl)
    cases e1
    exact O.same _ _ e2

theorem cp_law_regions {K : PySem.W.Frag} {cc : Int} {s : Addr} {w h d c t : Nat} {H : Hp} {Q : VK} {E : XK} (hs : H s = some (.lst [.int (w : Int), .int (h : Int), .int (d : Int), .int (c : Int), .int (t : Int)])) (D : Rg.Dim w h d c t)
    (q : ∀ (rs : List (List Int)) q H', rs.length ≤ 3 → (∀ r ∈ rs, Rg.RegB r) → H q = none → Same H H' → Rg.RL H' q rs → Q (.ref q) H') : Gx.CP (sp_law_regions K) [.int cc, .ref s] [] H Q E := ⟨cc, s, w, h, d, c, t, rfl, hs, D, q⟩

def sp_check_size (C : Addr) : Sp := fun vs H Q E => ∃ (w h c : Int), vs = [.int w, .int h, .int c] ∧ (1 ≤ w ∧ w ≤ 64) ∧ (1 ≤ h ∧ h ≤ 64) ∧ (1 ≤ c ∧ c ≤ 3) ∧ (w * h * c ≤ 3072 → Q .non H) ∧ (w * h * c > 3072 → Sx.Err C H "size" E)

theorem sc_check_size : FnScope ["width", "height", "channels"] ["width", "height", "channels"] (defScope s_check_size) := ⟨rfl, rfl, rfl, by decide +kernel, rfl, by decide +kernel, by decide +kernel⟩
theorem ok_check_size (T : Tx P K mg) : FnOk P w K mg base (L2.CX P w) 3 T.check_size.a T.check_size.d ["width", "height", "channels"] (sp_check_size T.x_OutOfRange.C) := by
  refine T.check_size.f.okX sc_check_size (fun vs H Q E h => ?_) (fun cdv A outer s H vs Q E hr h => ⟨_, pss_one (ps_if (pt_cmpR op_gt (pe_op op_mul (pe_op op_mul (pv 0) (pv 1)) (pv 2)) (pe_glob (v := .int 3072) rfl T.c_VALUES_MOST ⟨_, rfl⟩) (nomark _)) (pss_one (ps_raise rfl (takes_of rfl rfl rfl rfl) (pmk_oex T.x_OutOfRange.o T.x_OutOfRange.i T.x_OutOfRange.t (ok_OutOfRange___init__ T) (hr.mono (by decide)) T.x_OutOfRange.b .nil pass0 rfl T.x_OutOfRange.g (pa_cons (pe_str) pa_nil)))) (pss_nil)), ?_⟩)
  · obtain ⟨w, h, c, rfl, _⟩ := h
    rfl
  · skip
    obtain ⟨w, h, c, rfl, hw, hh, hc, q, qe⟩ := h
    walk_at "go"
    refine Gx.ic (.inr (by omega)) ?_
    walk_at "go"
    refine Gx.ic (.inr (by omega)) ?_
    walk_at "go"
    refine Gx.if_d (fun a => ?_) (fun a => ?_)
    · walk_at "go"
      exact Sx.mkO (by decide) (qe (by omega)).now fun R h => by walk_at "go"; exact h
    walk_at "go"
    exact q (by omega)

theorem cs_check_size {C : Addr} {w h c : Int} {H : Hp} {Q : VK} {E : XK} (hw : 1 ≤ w ∧ w ≤ 64) (hh : 1 ≤ h ∧ h ≤ 64) (hc : 1 ≤ c ∧ c ≤ 3) (q : w * h * c ≤ 3072 → Q .non H) (qe : w * h * c > 3072 → Sx.Err C H "size" E) : Sx.CS (sp_check_size C) [.int w, .int h, .int c] H Q E := ⟨w, h, c, rfl, hw, hh, hc, q, qe⟩

def sp_check_kind (C : Addr) : Sp := fun vs H Q E => ∃ (w h d c : Int), vs = [.int w, .int h, .int d, .int c] ∧ (Sx.kindBad w h d c = none → ∀ H', Same H H' → Q .non H') ∧ (∀ z, Sx.kindBad w h d c = some z → Sx.Err C H z E)

theorem sc_check_kind : FnScope ["width", "height", "depth", "channels"] ["width", "height", "depth", "channels"] (defScope s_check_kind) := ⟨rfl, rfl, rfl, by decide +kernel, rfl, by decide +kernel, by decide +kernel⟩
theorem ok_check_kind (T : Tx P K mg) : FnOk P w K mg base (L2.CX P w) 4 T.check_kind.a T.check_kind.d ["width", "height", "depth", "channels"] (sp_check_kind T.x_OutOfRange.C) := by
  refine T.check_kind.f.okX sc_check_kind (fun vs H Q E h => ?_) (fun cdv A outer s H vs Q E hr h => ⟨_, pss_cons (ps_expr (pe_callS (ok_check_range T) (hr.mono (by decide)) rfl T.check_range.g T.check_range.f.kp T.check_range.b (fun σ => passAt (takes_of rfl rfl rfl rfl) σ) (pa_cons (pe_str) (pa_cons (pv 0) (pa_cons (pe_int) (pa_cons (pe_glob (v := .int 64) rfl T.c_SIDE_MOST ⟨_, rfl⟩) pa_nil))))))
      (pss_cons (ps_expr (pe_callS (ok_check_range T) (hr.mono (by decide)) rfl T.check_range.g T.check_range.f.kp T.check_range.b (fun σ => passAt (takes_of rfl rfl rfl rfl) σ) (pa_cons (pe_str) (pa_cons (pv 1) (pa_cons (pe_int) (pa_cons (pe_glob (v := .int 64) rfl T.c_SIDE_MOST ⟨_, rfl⟩) pa_nil))))))
      (pss_cons (ps_expr (pe_callS (ok_check_range T) (hr.mono (by decide)) rfl T.check_range.g T.check_range.f.kp T.check_range.b (fun σ => passAt (takes_of rfl rfl rfl rfl) σ) (pa_cons (pe_str) (pa_cons (pv 2) (pa_cons (pe_int) (pa_cons (pe_glob (v := .int 8) rfl T.c_DEPTH_MOST ⟨_, rfl⟩) pa_nil))))))
      (pss_one (ps_if (pt_cmpR op_notIn_seq (pv 3) (pe_tup (pa_cons (pe_int) (pa_cons (pe_int) pa_nil))) (by rfl)) (pss_one (ps_raise rfl (takes_of rfl rfl rfl rfl) (pmk_oex T.x_OutOfRange.o T.x_OutOfRange.i T.x_OutOfRange.t (ok_OutOfRange___init__ T) (hr.mono (by decide)) T.x_OutOfRange.b .nil pass0 rfl T.x_OutOfRange.g (pa_cons (pe_str) pa_nil)))) (pss_nil))))), ?_⟩)
  · obtain ⟨w, h, d, c, rfl, _⟩ := h
    rfl
  · skip
    obtain ⟨w, h, d, c, rfl, q, qe⟩ := h
    unfold Sx.kindBad at q qe
    walk_at "go"
    refine cs_check_range (fun a1 a2 => ?_) (fun a => qe _ (if_pos a))
    rw [if_neg (not_not_intro ⟨a1, a2⟩)] at q qe
    walk_at "go"
    refine cs_check_range (fun b1 b2 => ?_) (fun a => qe _ (if_pos a))
    rw [if_neg (not_not_intro ⟨b1, b2⟩)] at q qe
    walk_at "go"
    refine cs_check_range (fun c1 c2 => ?_) (fun a => qe _ (if_pos a))
    rw [if_neg (not_not_intro ⟨c1, c2⟩)] at q qe
    walk_at "go"
    refine Gx.tupP (by show 2 ≤ sizeLine; decide) fun p hp => ?_
    have s1 := Gx.same_new (o := .tup [.int 1, .int 3]) hp
    walk_at "go"
    refine Gx.inT (SqT.of upd_same) rfl ?_
    walk_at "go"
    have e : inV (.int c) [.int 1, .int 3] = decide (c = 1 ∨ c = 3) := by
      by_cases hc : c = 1 ∨ c = 3
      · rw [decide_eq_true hc]
        rcases hc with e | e <;> subst e <;> decide
      · rw [decide_eq_false hc]
        exact Gx.notin_ints [1, 3] (fun y hy e => hc (by simp at hy; omega))
    by_cases hc : c = 1 ∨ c = 3
    · rw [if_neg (not_not_intro hc)] at q
      refine Gx.if_n (by rw [e, decide_eq_true hc]; rfl) ?_
      walk_at "go"
      exact q rfl _ s1
    · rw [if_pos hc] at qe
      refine Gx.if_y (by rw [e, decide_eq_false hc]; rfl) ?_
      walk_at "go"
      exact Sx.mkO (by decide) ((qe _ rfl).mono s1).now fun R h => by walk_at "go"; exact h

theorem cs_check_kind {C : Addr} {w h d c : Int} {H : Hp} {Q : VK} {E : XK} (q : Sx.kindBad w h d c = none → ∀ H', Same H H' → Q .non H') (qe : ∀ z, Sx.kindBad w h d c = some z → Sx.Err C H z E) : Sx.CS (sp_check_kind C) [.int w, .int h, .int d, .int c] H Q E := ⟨w, h, d, c, rfl, q, qe⟩

def sp_Frame_init (CE C : Addr) : Sp := fun vs H Q E => ∃ (H0 : Hp) (x dx : Addr) (w h d c t : Int), vs = [.ref x, .int w, .int h, .int d, .int c, .int t] ∧ H x = some (.ins C dx []) ∧ Same H0 H ∧ H0 x = none ∧
  (Sx.frameBad w h d c t = none → ∀ (H' : Hp), Same H0 H' → Frm C H' x w.toNat h.toNat d.toNat c.toNat t.toNat → Q .non H') ∧ (∀ z, Sx.frameBad w h d c t = some z → Sx.Err CE H0 z E)

theorem sc_Frame___init__ : FnScope ["self", "width", "height", "depth", "channels", "tile"] ["self", "width", "height", "depth", "channels", "tile"] (defScope s_Frame___init__) := ⟨rfl, rfl, rfl, by decide +kernel, rfl, by decide +kernel, by decide +kernel⟩
theorem ok_Frame___init__ (T : Tx P K mg) : FnOk P w K mg base (L2.CX P w) 5 T.Frame___init__.a T.Frame___init__.d ["self", "width", "height", "depth", "channels", "tile"] (sp_Frame_init T.x_OutOfRange.C T.a_Frame) := by
  refine T.Frame___init__.f.okX sc_Frame___init__ (fun vs H Q E h => ?_) (fun cdv A outer s H vs Q E hr h => ⟨_, pss_cons (ps_expr (pe_callS (ok_check_kind T) (hr.mono (by decide)) rfl T.check_kind.g T.check_kind.f.kp T.check_kind.b (fun σ => passAt (takes_of rfl rfl rfl rfl) σ) (pa_cons (pv 1) (pa_cons (pv 2) (pa_cons (pv 3) (pa_cons (pv 4) pa_nil))))))
      (pss_cons (ps_expr (pe_callS (ok_check_range T) (hr.mono (by decide)) rfl T.check_range.g T.check_range.f.kp T.check_range.b (fun σ => passAt (takes_of rfl rfl rfl rfl) σ) (pa_cons (pe_str) (pa_cons (pv 5) (pa_cons (pe_int) (pa_cons (pe_glob (v := .int 16) rfl T.c_TILE_MOST ⟨_, rfl⟩) pa_nil))))))
      (pss_cons (ps_expr (pe_callS (ok_check_size T) (hr.mono (by decide)) rfl T.check_size.g T.check_size.f.kp T.check_size.b (fun σ => passAt (takes_of rfl rfl rfl rfl) σ) (pa_cons (pv 1) (pa_cons (pv 2) (pa_cons (pv 4) pa_nil)))))
      (pss_cons (ps_fld (pv 0) (pv 1) rfl)
      (pss_cons (ps_fld (pv 0) (pv 2) rfl)
      (pss_cons (ps_fld (pv 0) (pv 3) rfl)
      (pss_cons (ps_fld (pv 0) (pv 4) rfl)
      (pss_one (ps_fld (pv 0) (pv 5) rfl)))))))), ?_⟩)
  · obtain ⟨H0, x, dx, w, h, d, c, t, rfl, _⟩ := h
    rfl
  · skip
    obtain ⟨H0, x, dx, w, h, d, c, t, rfl, hx, s0, h0, q, qe⟩ := h
    unfold Sx.frameBad at q qe
    walk_at "go"
    refine cs_check_kind (fun hk H1 s1 => ?_) (fun z e => (qe z (by rw [e])).mono s0)
    rw [hk] at q qe
    dsimp only at q qe
    obtain ⟨k1, k2, k3, k4⟩ := Sx.kindBad_none.mp hk
    have hx := s1 _ _ hx
    have s0 := s0.trans s1
    walk_at "go"
    refine cs_check_range (fun a1 a2 => ?_) (fun a => (qe _ (if_pos a)).mono s0)
    rw [if_neg (not_not_intro ⟨a1, a2⟩)] at q qe
    walk_at "go"
    refine cs_check_size k1 k2 (by omega) (fun a => ?_) (fun a => (qe _ (if_pos a)).mono s0)
    rw [if_neg (by omega)] at q
    walk_at "go"
    refine Gx.sfp hx T.cl_Frame T.na_Frame_width (by walk_at "few") rfl ?_
    walk_at "go"
    refine Gx.sfp upd_same T.cl_Frame T.na_Frame_height (by walk_at "few") rfl ?_
    walk_at "go"
    refine Gx.sfp upd_same T.cl_Frame T.na_Frame_depth (by walk_at "few") rfl ?_
    walk_at "go"
    refine Gx.sfp upd_same T.cl_Frame T.na_Frame_channels (by walk_at "few") rfl ?_
    walk_at "go"
    refine Gx.sfp upd_same T.cl_Frame T.na_Frame_tile (by walk_at "few") rfl ?_
    rw [upd_upd, upd_upd, upd_upd, upd_upd, ini_Frame]
    refine q rfl _ (Gx.same_up h0 s0) ⟨dx, ?_⟩
    rw [upd_same, Int.toNat_of_nonneg (by omega), Int.toNat_of_nonneg (by omega), Int.toNat_of_nonneg (by omega), Int.toNat_of_nonneg (by omega), Int.toNat_of_nonneg (by omega)]

theorem mk_Frame {CE C : Addr} {w h d c t : Nat} {H : Hp} {Q : VK} {E : XK} (hw : 1 ≤ w ∧ w ≤ 64) (hh : 1 ≤ h ∧ h ≤ 64) (hd : 1 ≤ d ∧ d ≤ 8) (hc : c = 1 ∨ c = 3) (ht : 1 ≤ t ∧ t ≤ 16) (hs : w * h * c ≤ 3072) (q : ∀ x H2, Same H H2 → H x = none → Frm C H2 x w h d c t → Q (.ref x) H2) :
    Gx.MkP C (sp_Frame_init CE C) [.int (w : Int), .int (h : Int), .int (d : Int), .int (c : Int), .int (t : Int)] [] H Q E := by
  intro x dx hx hdx hne
  have ok : Sx.frameBad (w : Int) (h : Int) (d : Int) (c : Int) (t : Int) = none := Sx.frameBad_none.mpr ⟨by omega, by omega, by omega, by omega, by omega, by rw [← Int.natCast_mul, ← Int.natCast_mul]; omega⟩
  exact ⟨H, x, dx, w, h, d, c, t, rfl, upd_same, Gx.same_up hx (Gx.same_new hdx), hx, fun _ H2 s2 fr => ⟨rfl, q x H2 s2 hx fr⟩, fun z e => by rw [ok] at e; cases e⟩
theorem mks_Frame {CE C : Addr} {w h d c t : Int} {H : Hp} {Q : VK} {E : XK} (q : Sx.frameBad w h d c t = none → ∀ x H2, Same H H2 → H x = none → Frm C H2 x w.toNat h.toNat d.toNat c.toNat t.toNat → Q (.ref x) H2) (qe : ∀ z, Sx.frameBad w h d c t = some z → Sx.Err CE H z E) :
    Sx.MkS C (sp_Frame_init CE C) [.int w, .int h, .int d, .int c, .int t] H Q E := by
  intro x dx hx hdx hne
  exact ⟨H, x, dx, w, h, d, c, t, rfl, upd_same, Gx.same_up hx (Gx.same_new hdx), hx, fun ok H2 s2 fr => ⟨rfl, q ok x H2 s2 hx fr⟩, qe⟩

def sp_law_frame (K : PySem.W.Frag) (C : Addr) : Sp := fun vs H Q _ => ∃ (p : Addr) (w h d c t : Nat), vs = [.ref p] ∧ SqL K H p [.int (w : Int), .int (h : Int), .int (d : Int), .int (c : Int), .int (t : Int)] ∧ (1 ≤ w ∧ w ≤ 64) ∧ (1 ≤ h ∧ h ≤ 64) ∧ (1 ≤ d ∧ d ≤ 8) ∧ (c = 1 ∨ c = 3) ∧ (1 ≤ t ∧ t ≤ 16) ∧ w * h * c ≤ 3072 ∧ ∀ x H', H x = none → Same H H' → Frm C H' x w h d c t → Q (.ref x) H'

theorem sc_law_frame : FnScope ["sizes"] ["sizes"] (defScope s_law_frame) := ⟨rfl, rfl, rfl, by decide +kernel, rfl, by decide +kernel, by decide +kernel⟩
theorem ok_law_frame (T : Tx P K mg) : FnOk P w K mg base CX0 7 T.law_frame.a T.law_frame.d ["sizes"] (sp_law_frame K T.a_Frame) := by
  refine T.law_frame.f.ok sc_law_frame (fun vs H Q E h => ?_) (fun cdv A outer s H vs Q E hr h => ⟨_, pss_one (ps_ret (pe_make ⟨T.mk_Frame, T.Frame___init__.m.at_, T.Frame___init__.m.fn, T.kp_Frame⟩ (ok_Frame___init__ T) (hr.mono (by decide)) rfl T.g_Frame T.Frame___init__.b .nil passL (pa_cons (pe_ix (Gx.ix_seqK (K := K) rfl) (pv 0) (pe_int) (fun _ _ => rfl)) (pa_cons (pe_ix (Gx.ix_seqK (K := K) rfl) (pv 0) (pe_int) (fun _ _ => rfl)) (pa_cons (pe_ix (Gx.ix_seqK (K := K) rfl) (pv 0) (pe_int) (fun _ _ => rfl)) (pa_cons (pe_ix (Gx.ix_seqK (K := K) rfl) (pv 0) (pe_int) (fun _ _ => rfl)) (pa_cons (pe_ix (Gx.ix_seqK (K := K) rfl) (pv 0) (pe_int) (fun _ _ => rfl)) pa_nil))))))), ?_⟩)
  · obtain ⟨p, w, h, d, c, t, rfl, _⟩ := h
    rfl
  · skip
    obtain ⟨p, w, h, d, c, t, rfl, hp, hw, hh, hd, hc, ht, hs, q⟩ := h
    walk_at "run"
    exact mk_Frame hw hh hd hc ht hs fun x H2 s hx fr => q x H2 hx s fr

theorem cp_law_frame {K : PySem.W.Frag} {C p : Addr} {w h d c t : Nat} {H : Hp} {Q : VK} {E : XK} (hp : SqL K H p [.int (w : Int), .int (h : Int), .int (d : Int), .int (c : Int), .int (t : Int)]) (hw : 1 ≤ w ∧ w ≤ 64) (hh : 1 ≤ h ∧ h ≤ 64) (hd : 1 ≤ d ∧ d ≤ 8) (hc : c = 1 ∨ c = 3) (ht : 1 ≤ t ∧ t ≤ 16) (hs : w * h * c ≤ 3072) (q : ∀ x H', H x = none → Same H H' → Frm C H' x w h d c t → Q (.ref x) H') :
    Gx.CP (sp_law_frame K C) [.ref p] [] H Q E := ⟨p, w, h, d, c, t, rfl, hp, hw, hh, hd, hc, ht, hs, q⟩

/-- width, height, depth, channels, tile -/
def sp_law_sizes : Sp := fun vs H Q _ => ∃ (c : Int) (m : Nat), vs = [.int c, .int (m : Int)] ∧ 1 ≤ m ∧ m ≤ 64 ∧
  ∀ (w h d ch t : Nat) (p : Addr) (H' : Hp), 1 ≤ w ∧ w ≤ m ∧ 1 ≤ h ∧ h ≤ m ∧ 1 ≤ d ∧ d ≤ 8 ∧ (ch = 1 ∨ ch = 3) ∧ 1 ≤ t ∧ t ≤ 16 ∧ w * h * ch ≤ 3072 → H p = none → Same H H' → H' p = some (.lst [.int (w : Int), .int (h : Int), .int (d : Int), .int (ch : Int), .int (t : Int)]) → Q (.ref p) H'

theorem sc_law_sizes : FnScope ["cell", "most", "row", "channels", "width", "height"] ["cell", "most"] (defScope s_law_sizes) := ⟨rfl, rfl, rfl, by decide +kernel, rfl, by decide +kernel, by decide +kernel⟩
theorem ok_law_sizes (T : Tx P K mg) : FnOk P w K mg base CX0 3 T.law_sizes.a T.law_sizes.d ["cell", "most"] (sp_law_sizes) := by
  refine T.law_sizes.f.ok sc_law_sizes (fun vs H Q E h => ?_) (fun cdv A outer s H vs Q E hr h => ⟨_, pss_cons (ps_set (i := 2) sc_law_sizes.nd rfl (Or.inl rfl) (pe_call (ok_law_numbers T) (hr.mono (by decide)) rfl T.law_numbers.g T.law_numbers.f.kp T.law_numbers.b .nil pass0 (pa_cons (pv 0) (pa_cons (pe_int) (pa_cons (pe_int) pa_nil)))))
      (pss_cons (ps_set (i := 3) sc_law_sizes.nd rfl (Or.inl rfl) (pe_op op_add (pe_int) (pe_op op_mul (pe_int) (pe_op op_mod (pe_ix (Gx.ix_seqK (K := K) rfl) (pv 2) (pe_int) (fun _ _ => rfl)) (pe_int)))))
      (pss_cons (ps_set (i := 4) sc_law_sizes.nd rfl (Or.inl rfl) (pe_op op_add (pe_int) (pe_op op_mod (pe_ix (Gx.ix_seqK (K := K) rfl) (pv 2) (pe_int) (fun _ _ => rfl)) (pv 1))))
      (pss_cons (ps_set (i := 5) sc_law_sizes.nd rfl (Or.inl rfl) (pe_callB (Gx.c_min2 rfl) rfl T.n_min (by decide +kernel) (pa_cons (pe_op op_add (pe_int) (pe_op op_mod (pe_ix (Gx.ix_seqK (K := K) rfl) (pv 2) (pe_int) (fun _ _ => rfl)) (pv 1))) (pa_cons (pe_op op_fdiv (pe_int) (pe_op op_mul (pv 4) (pv 3))) pa_nil))))
      (pss_one (ps_ret (pe_lst (pa_cons (pv 4) (pa_cons (pv 5) (pa_cons (pe_op op_add (pe_int) (pe_op op_mod (pe_ix (Gx.ix_seqK (K := K) rfl) (pv 2) (pe_int) (fun _ _ => rfl)) (pe_int))) (pa_cons (pv 3) (pa_cons (pe_op op_add (pe_int) (pe_op op_mod (pe_ix (Gx.ix_seqK (K := K) rfl) (pv 2) (pe_int) (fun _ _ => rfl)) (pe_int))) pa_nil))))))))))), ?_⟩)
  · obtain ⟨c, m, rfl, _⟩ := h
    rfl
  · skip
    obtain ⟨c, m, rfl, hm1, hm2, q⟩ := h
    walk_at "go"
    refine cp_law_numbers (by decide) (by decide) (by decide) fun xs p H1 hl hb hp s1 hL => ?_
    obtain ⟨r0, r1, r2, r3, r4, rfl⟩ : ∃ r0 r1 r2 r3 r4 : Int, xs = [r0, r1, r2, r3, r4] := by
      match xs, hl with
      | [r0, r1, r2, r3, r4], _ => exact ⟨_, _, _, _, _, rfl⟩
    have b0 := hb r0 (by simp)
    have b1 := hb r1 (by simp)
    have b2 := hb r2 (by simp)
    have b3 := hb r3 (by simp)
    have b4 := hb r4 (by simp)
    obtain ⟨ch, hch, hc⟩ : ∃ ch : Nat, 1 + 2 * (r3 % 2) = (ch : Int) ∧ (ch = 1 ∨ ch = 3) := ⟨(1 + 2 * (r3 % 2)).toNat, by omega, by omega⟩
    obtain ⟨w, hw, hw1, hw2⟩ : ∃ w : Nat, 1 + r0 % (m : Int) = (w : Int) ∧ 1 ≤ w ∧ w ≤ m := by
      have e0 := Int.emod_nonneg r0 (show (m : Int) ≠ 0 by omega)
      have e1 := Int.emod_lt_of_pos r0 (show (0 : Int) < m by omega)
      exact ⟨(1 + r0 % (m : Int)).toNat, by omega, by omega, by omega⟩
    obtain ⟨g, hg, hg1, hg2⟩ : ∃ g : Nat, 1 + r1 % (m : Int) = (g : Int) ∧ 1 ≤ g ∧ g ≤ m := by
      have e0 := Int.emod_nonneg r1 (show (m : Int) ≠ 0 by omega)
      have e1 := Int.emod_lt_of_pos r1 (show (0 : Int) < m by omega)
      exact ⟨(1 + r1 % (m : Int)).toNat, by omega, by omega, by omega⟩
    obtain ⟨d, hd, hd1, hd2⟩ : ∃ d : Nat, 1 + r2 % 8 = (d : Int) ∧ 1 ≤ d ∧ d ≤ 8 := ⟨(1 + r2 % 8).toNat, by omega, by omega, by omega⟩
    obtain ⟨t, ht, ht1, ht2⟩ : ∃ t : Nat, 1 + r4 % 16 = (t : Int) ∧ 1 ≤ t ∧ t ≤ 16 := ⟨(1 + r4 % 16).toNat, by omega, by omega, by omega⟩
    have wc1 : w * ch ≤ 64 * 3 := Nat.mul_le_mul (by omega) (by omega)
    have wc0 : 0 < w * ch := Nat.mul_pos (by omega) (by omega)
    have q3 : 16 ≤ 3072 / (w * ch) := (Nat.le_div_iff_mul_le wc0).mpr (by omega)
    obtain ⟨h, hh, hh1, hh2, hh3⟩ : ∃ h : Nat, (if ((3072 / (w * ch) : Nat) : Int) < (g : Int) then ((3072 / (w * ch) : Nat) : Int) else (g : Int)) = (h : Int) ∧ 1 ≤ h ∧ h ≤ m ∧ h ≤ 3072 / (w * ch) := by
      generalize 3072 / (w * ch) = z at *
      by_cases e : ((z : Nat) : Int) < (g : Int)
      · exact ⟨z, by rw [if_pos e], by omega, by omega, by omega⟩
      · exact ⟨g, by rw [if_neg e], by omega, by omega, by omega⟩
    have big := Gd.room hh3 wc0
    have at' : ∀ {i : Nat} {z : Int}, [r0, r1, r2, r3, r4][i]? = some z → atI ([r0, r1, r2, r3, r4].map V.int) (i : Int) = some (.int z) := fun {i z} e => atI_nat (by rw [List.getElem?_map, e]; rfl)
    walk_at "go"
    refine Gx.ixL (SqL.of hL) (at' (i := 3) rfl) ?_
    walk_at "go"
    refine Gx.ic (by decide) ?_
    walk_at "go"
    refine Gx.ic (.inl (by decide)) ?_
    walk_at "go"
    rw [hch]
    refine Gx.ixL (SqL.of hL) (at' (i := 0) rfl) ?_
    walk_at "go"
    refine Gx.ic (show (0 : Int) < (m : Int) by omega) ?_
    walk_at "go"
    rw [hw]
    refine Gx.ixL (SqL.of hL) (at' (i := 1) rfl) ?_
    walk_at "go"
    refine Gx.ic (show (0 : Int) < (m : Int) by omega) ?_
    walk_at "go"
    rw [hg]
    refine Gx.ic (.inl (by omega)) ?_
    walk_at "go"
    rw [← Int.natCast_mul]
    refine Gx.ic ⟨by omega, by omega⟩ ?_
    walk_at "go"
    refine Gx.min2 ?_
    walk_at "go"
    rw [show (3072 : Int) / ((w * ch : Nat) : Int) = ((3072 / (w * ch) : Nat) : Int) from rfl, hh]
    refine Gx.ixL (SqL.of hL) (at' (i := 2) rfl) ?_
    walk_at "go"
    refine Gx.ic (by decide) ?_
    walk_at "go"
    refine Gx.ixL (SqL.of hL) (at' (i := 4) rfl) ?_
    walk_at "go"
    refine Gx.ic (by decide) ?_
    walk_at "go"
    rw [hd, ht]
    refine Gx.lstP (by show 5 ≤ sizeLine; decide) fun p2 hp2 => ?_
    exact q w h d ch t p2 _ ⟨hw1, hw2, hh1, hh2, hd1, hd2, hc, ht1, ht2, big⟩ (s1.free hp2) (Gx.same_up (s1.free hp2) s1) upd_same

theorem cp_law_sizes {c : Int} {m : Nat} {H : Hp} {Q : VK} {E : XK} (hm1 : 1 ≤ m) (hm2 : m ≤ 64)
    (q : ∀ (w h d ch t : Nat) (p : Addr) (H' : Hp), 1 ≤ w ∧ w ≤ m ∧ 1 ≤ h ∧ h ≤ m ∧ 1 ≤ d ∧ d ≤ 8 ∧ (ch = 1 ∨ ch = 3) ∧ 1 ≤ t ∧ t ≤ 16 ∧ w * h * ch ≤ 3072 → H p = none → Same H H' → H' p = some (.lst [.int (w : Int), .int (h : Int), .int (d : Int), .int (ch : Int), .int (t : Int)]) → Q (.ref p) H') :
    Gx.CP sp_law_sizes [.int c, .int (m : Int)] [] H Q E := ⟨c, m, rfl, hm1, hm2, q⟩


theorem sc_law : FnScope ["script", "sizes", "frame", "regions", "boosts", "keys", "dues", "key", "counts", "count", "told", "bad"] ["script"] (defScope s_law) := ⟨rfl, rfl, rfl, by decide +kernel, rfl, by decide +kernel, by decide +kernel⟩
theorem ok_law (T : Tx P K mg) : FnOk P w K mg base CX0 9 T.law.a T.law.d ["script"] (spLaw K) := by
  refine T.law.f.ok sc_law (fun vs H Q E h => ?_) (fun cdv A outer s H vs Q E hr h => ⟨_, pss_cons (ps_set (i := 1) sc_law.nd rfl (Or.inl rfl) (pe_call (ok_law_sizes T) (hr.mono (by decide)) rfl T.law_sizes.g T.law_sizes.f.kp T.law_sizes.b .nil pass0 (pa_cons (pe_call (ok_law_cell T) (hr.mono (by decide)) rfl T.law_cell.g T.law_cell.f.kp T.law_cell.b .nil pass0 (pa_cons (pv 0) (pa_cons (pe_int) pa_nil))) (pa_cons (pe_int) pa_nil))))
      (pss_cons (ps_set (i := 2) sc_law.nd rfl (Or.inl rfl) (pe_call (ok_law_frame T) (hr.mono (by decide)) rfl T.law_frame.g T.law_frame.f.kp T.law_frame.b .nil pass0 (pa_cons (pv 1) pa_nil)))
      (pss_cons (ps_set (i := 3) sc_law.nd rfl (Or.inl rfl) (pe_call (ok_law_regions T) (hr.mono (by decide)) rfl T.law_regions.g T.law_regions.f.kp T.law_regions.b .nil pass0 (pa_cons (pe_call (ok_law_cell T) (hr.mono (by decide)) rfl T.law_cell.g T.law_cell.f.kp T.law_cell.b .nil pass0 (pa_cons (pv 0) (pa_cons (pe_int) pa_nil))) (pa_cons (pv 1) pa_nil))))
      (pss_cons (ps_set (i := 4) sc_law.nd rfl (Or.inr rfl) (pe_call (ok_law_boosts T) (hr.mono (by decide)) rfl T.law_boosts.g T.law_boosts.f.kp T.law_boosts.b .nil pass0 (pa_cons (pv 1) (pa_cons (pv 3) pa_nil))))
      (pss_cons (ps_set (i := 5) sc_law.nd rfl (Or.inl rfl) (pe_call (ok_law_plan T) (hr.mono (by decide)) rfl T.law_plan.g T.law_plan.f.kp T.law_plan.b .nil pass0 (pa_cons (pv 1) (pa_cons (pv 3) pa_nil))))
      (pss_cons (ps_set (i := 6) sc_law.nd rfl (Or.inl rfl) (pe_op op_cat (pe_lc (own := [("key", 7)]) (g := (gName 7)) (tt := tYes) rfl sc_law.nd (pi_list (pv 5)) (blkOk_by (own := [("key", 7)]) (N := ["script", "sizes", "frame", "regions", "boosts", "keys", "dues", "key", "counts", "count", "told", "bad"]) (sc := defScope s_law) (by decide +kernel)) (fun _ _ _ _ _ => (pg_name (i := 7) sc_law.nd rfl (Or.inl rfl))) (fun _ _ _ _ _ => pts_nil) (fun _ _ _ _ _ => pe_op op_shl (pe_int) (pe_op op_add (pe_ix (Gx.ix_seqK (K := K) rfl) (pv 7) (pe_int) (fun _ _ => rfl)) (pe_ix (Gx.ix_seqK (K := K) rfl) (pv 4) (pe_ix (Gx.ix_seqK (K := K) rfl) (pv 7) (pe_int) (fun _ _ => rfl)) (fun _ _ => rfl))))) (pe_lst (pa_cons (pe_int) pa_nil))))
      (pss_cons (ps_set (i := 8) sc_law.nd rfl (Or.inl rfl) (pe_call (ok_law_numbers T) (hr.mono (by decide)) rfl T.law_numbers.g T.law_numbers.f.kp T.law_numbers.b .nil pass0 (pa_cons (pe_call (ok_law_cell T) (hr.mono (by decide)) rfl T.law_cell.g T.law_cell.f.kp T.law_cell.b .nil pass0 (pa_cons (pv 0) (pa_cons (pe_int) pa_nil))) (pa_cons (pe_int) (pa_cons (pe_op op_add (pe_callB (Gx.c_lenK (K := K) rfl) rfl T.n_len (by decide +kernel) (pa_cons (pv 5) pa_nil)) (pe_int)) pa_nil)))))
      (pss_cons (ps_for PassesOwn.never rfl (pi_list (pe_lst (pa_cons (pe_op op_sub (pe_ix (Gx.ix_seqK (K := K) rfl) (pv 8) (pe_int) (fun _ _ => rfl)) (pe_int)) (pa_cons (pe_op op_sub (pe_ix (Gx.ix_seqK (K := K) rfl) (pv 8) (pe_int) (fun _ _ => rfl)) (pe_int)) (pa_cons (pe_callB (Gx.c_lenK (K := K) rfl) rfl T.n_len (by decide +kernel) (pa_cons (pv 5) pa_nil)) (pa_cons (pe_int) pa_nil)))))) (pg_name (i := 9) sc_law.nd rfl (Or.inl rfl))
      (pss_cons (ps_set (i := 10) sc_law.nd rfl (Or.inl rfl) (pe_call (ok_law_told T) (hr.mono (by decide)) rfl T.law_told.g T.law_told.f.kp T.law_told.b .nil pass0 (pa_cons (pv 2) (pa_cons (pv 3) (pa_cons (pv 9) pa_nil)))))
      (pss_one (ps_if (PW.pt (pw_or (pt_cmpR op_lt (pv 9) (pe_int) (nomark _)) (pw_or1 (pt_cmpR op_gt (pv 9) (pe_callB (Gx.c_lenK (K := K) rfl) rfl T.n_len (by decide +kernel) (pa_cons (pv 5) pa_nil)) (nomark _))))) (pss_one (ps_if (pt_cmpR (op_neD hr.units) (pv 10) (pe_tup (pa_cons (pe_str) (pa_cons (pe_str) pa_nil))) (nomark _)) (pss_one (ps_ret (pe_bl))) (pss_nil))) (pss_one (ps_if (PW.pt (pw_or (pt_not (pt_val (pe_call (ok_law_is_int T) (hr.mono (by decide)) rfl T.law_is_int.g T.law_is_int.f.kp T.law_is_int.b .nil pass0 (pa_cons (pv 10) pa_nil)))) (pw_or1 (pt_cmpR op_ne (pv 10) (pe_ix (Gx.ix_seqK (K := K) rfl) (pv 6) (pv 9) (fun _ _ => rfl)) (nomark _))))) (pss_one (ps_ret (pe_bl))) (pss_nil)))))))
      (pss_cons (ps_set (i := 11) sc_law.nd rfl (Or.inl rfl) (pe_op op_cat (pv 3) (pe_lst (pa_cons (pe_tup (pa_cons (pe_int) (pa_cons (pe_int) (pa_cons (pe_int) (pa_cons (pe_int) (pa_cons (pe_int) pa_nil)))))) pa_nil))))
      (pss_cons (ps_if (PW.pt (pw_or (pt_cmpR (op_neD hr.units) (pe_call (ok_law_told T) (hr.mono (by decide)) rfl T.law_told.g T.law_told.f.kp T.law_told.b .nil pass0 (pa_cons (pv 2) (pa_cons (pv 11) (pa_cons (pe_un un_neg (pe_int)) pa_nil)))) (pe_tup (pa_cons (pe_str) (pa_cons (pe_str) pa_nil))) (nomark _)) (pw_or1 (pt_cmpR (op_neD hr.units) (pe_call (ok_law_told T) (hr.mono (by decide)) rfl T.law_told.g T.law_told.f.kp T.law_told.b .nil pass0 (pa_cons (pv 2) (pa_cons (pv 11) (pa_cons (pe_int) pa_nil)))) (pe_tup (pa_cons (pe_str) (pa_cons (pe_str) pa_nil))) (nomark _))))) (pss_one (ps_ret (pe_bl))) (pss_nil))
      (pss_one (ps_ret (pe_cmpR (op_eqD hr.units) (pe_call (ok_law_told T) (hr.mono (by decide)) rfl T.law_told.g T.law_told.f.kp T.law_told.b .nil pass0 (pa_cons (pv 2) (pa_cons (pv 3) (pa_cons (pe_op op_add (pe_callB (Gx.c_lenK (K := K) rfl) rfl T.n_len (by decide +kernel) (pa_cons (pv 5) pa_nil)) (pe_int)) pa_nil)))) (pe_tup (pa_cons (pe_str) (pa_cons (pe_str) pa_nil))) (nomark _))))))))))))), ?_⟩)
  · obtain ⟨a, ns, rfl, _⟩ := h
    rfl
  · skip
    obtain ⟨a, ns, rfl, hs, hlen, hbits, q⟩ := h
    walk_at "run"
    refine cp_law_cell hs (by decide) (by decide) fun c0 _ => ?_
    walk_at "run"
    refine cp_law_sizes (m := 6) (by omega) (by omega) fun w h d ch t ps H1 hb hps s1 hL => ?_
    have D : Rg.Dim w h d ch t := by
      obtain ⟨b1, b2, b3, b4, b5, b6, b7, b8, b9, b10⟩ := hb
      exact ⟨b1, by omega, b3, by omega, b5, b6, b7, b8, b9, b10⟩
    obtain ⟨l1, l2, l3, l4, l5, l6, l7, l8, l9⟩ := D.ok
    have hd2 := D.d2
    have l10 : d * ch * (Gd.ac w t * Gd.ac h t) ≤ 8 * 3 * (64 * 64) := Nat.mul_le_mul (Nat.mul_le_mul D.d2 l8) l6
    walk_at "run"
    refine cp_law_frame (SqL.of hL) ⟨D.w1, D.w2⟩ ⟨D.h1, D.h2⟩ ⟨D.d1, D.d2⟩ D.c1 ⟨D.t1, D.t2⟩ D.sz fun x H2 nx s2 fr => ?_
    walk_at "run"
    refine cp_law_cell (by walk_at "fact") (by decide) (by decide) fun c2 _ => ?_
    walk_at "run"
    refine cp_law_regions (by walk_at "fact") D fun rs rl H3 hrl hrb n3 s3 hR => ?_
    have ok : Rg.RegsOk rs := ⟨by omega, hrb⟩
    have h5 : ∀ r ∈ rs, r.length = 5 := fun r hr => by obtain ⟨_, _, _, _, _, rfl, _⟩ := hrb r hr; rfl
    walk_at "run"
    refine cp_law_boosts (by walk_at "fact") D hR (by omega) (fun r hr => (hrb r hr).reg) fun bq H4 n4 s4 hB => ?_
    walk_at "run"
    refine cp_law_plan (by walk_at "fact") D (hR.keep s4) ok fun kq H5 n5 s5 hK => ?_
    obtain ⟨kps, k1, k2, k3⟩ := id hK
    walk_at "run"
    refine Gx.lp (SqL.of k1) ?_
    have hlp := Pl.pl_len D hrb
    refine Gx.lcMap (walk_list (xs := kps.map V.ref)) (by rw [List.length_map, k2]; omega) (fun k => .int (Pl.bd w h d ch t rs k)) (fun _ s => s.seq (SqL.of k1)) Gx.sameAt ?_ ?_
    · rintro j y H6 H6' R R0 hj s6 ⟨rfl, hy⟩ hr
      rw [List.length_map] at hj
      rw [List.getElem?_map, List.getElem?_eq_getElem hj] at hy
      have hy := Option.some.inj hy
      subst hy
      have hjl : j < (Pl.pl w h d ch t rs).length := by omega
      have hm0 : (Pl.pl w h d ch t rs).getD j 0 ∈ Pl.pl w h d ch t rs := by rw [List.getD_eq_getElem?_getD, List.getElem?_eq_getElem hjl]; exact List.getElem_mem hjl
      have hmn := Pl.pl_mem hm0
      have hbd := Pl.sc_bd D hrb _ hmn
      have ha := s6 _ _ (k3 j _ (List.getElem?_eq_getElem hj))
      dsimp only at ha
      have hrr : Pl.bd w h d ch t rs j = ((2 ^ (Pl.sc w h d ch t rs ((Pl.pl w h d ch t rs).getD j 0)).toNat : Nat) : Int) := by
        unfold Pl.bd
        rw [if_neg (by omega)]
      rw [hrr] at hr
      generalize (Pl.pl w h d ch t rs).getD j 0 = k at ha hmn hbd hr
      rw [Gd.ky_at (by omega)] at ha
      have hm : k % (Gd.ac w t * Gd.ac h t) < Gd.ac w t * Gd.ac h t := Nat.mod_lt _ l5
      have e0 : Pl.sc w h d ch t rs k = (d : Int) - 1 - ((k / (Gd.ac w t * Gd.ac h t) / ch : Nat) : Int) + Rg.bst w h t rs (k % (Gd.ac w t * Gd.ac h t)) := by
        unfold Pl.sc
        rw [Gd.ky_at (by omega)]; rfl
      have hbb : (bsts w h t rs (Gd.ac w t * Gd.ac h t)).getD (k % (Gd.ac w t * Gd.ac h t)) 0 = Rg.bst w h t rs (k % (Gd.ac w t * Gd.ac h t)) := by
        unfold bsts
        rw [List.getD_eq_getElem?_getD, List.getElem?_map, List.getElem?_range hm]; rfl
      have hbl : k % (Gd.ac w t * Gd.ac h t) < (bsts w h t rs (Gd.ac w t * Gd.ac h t)).length := by unfold bsts; simpa using hm
      have h15 : H6' bq = some (.lst ((bsts w h t rs (Gd.ac w t * Gd.ac h t)).map V.int)) := by walk_at "fact"
      generalize Gd.ac w t * Gd.ac h t = N at *
      generalize k / N / ch = u at *
      generalize k / N % ch = v at *
      have ha : H6' kps[j] = some (.tup [.int (v : Int), .int ((k % N : Nat) : Int), .int ((d : Int) - 1 - (u : Int))]) := ha
      generalize k % N = m at *
      walk_at "run"
      refine Gx.ixL (SqL.of h15) (Gx.at_map hbl) ?_
      rw [hbb]
      walk_at "run"
      obtain ⟨z, hz⟩ : ∃ z : Nat, Pl.sc w h d ch t rs k = z := ⟨_, (Int.toNat_of_nonneg hbd.1).symm⟩
      rw [hz, Int.toNat_natCast] at hr
      rw [← e0, hz, Gy.pw]
      exact hr _ (Same.refl _)
    intro dq0 H6 n6 s6 h6
    rw [List.length_map, k2] at h6
    walk_at "run"
    refine Nx.lst0 (by show 1 ≤ sizeLine; decide) fun zq H7 n7 s7 h7 => ?_
    refine Nx.cat0 (by walk_at "fact") h7 (by simp [sizeLine_eq]; omega) fun dq H8 n8 s8 h8 => ?_
    have hdues : ∀ m : Nat, m ≤ d * ch * (Gd.ac w t * Gd.ac h t) → ((List.range (d * ch * (Gd.ac w t * Gd.ac h t))).map (fun k => V.int (Pl.bd w h d ch t rs k)) ++ [V.int 0])[m]? = some (.int (Pl.bd w h d ch t rs m)) := fun m hm => by
      rcases Nat.lt_or_ge m (d * ch * (Gd.ac w t * Gd.ac h t)) with z | z
      · rw [List.getElem?_append_left (by simpa using z), List.getElem?_map, List.getElem?_range z]; rfl
      · have : m = d * ch * (Gd.ac w t * Gd.ac h t) := by omega
        subst this
        rw [List.getElem?_append_right (by simp)]
        simp [Pl.bd]
    walk_at "run"
    refine cp_law_cell (by walk_at "fact") (by decide) (by decide) fun c3 _ => ?_
    walk_at "run"
    have hkl : ∀ {H' : Hp}, Same H5 H' → SqL K H' kq (kps.map V.ref) := fun s => SqL.of (s _ _ k1)
    refine Gx.lenL (hkl (show Same H5 H8 by walk_at "xsame")) ?_
    rw [List.length_map, k2]
    walk_at "run"
    refine cp_law_numbers (by decide) (by omega) (by omega) fun cs cq H9 hcl hcx n9 s9 h9 => ?_
    obtain ⟨z0, z1, z2, rfl⟩ : ∃ z0 z1 z2 : Int, cs = [z0, z1, z2] := by
      match cs, hcl with
      | [z0, z1, z2], _ => exact ⟨_, _, _, rfl⟩
    walk_at "run"
    refine Gx.lenL (hkl (show Same H5 H9 by walk_at "xsame")) ?_
    rw [List.length_map, k2]
    walk_at "run"
    refine Nx.lst0 (by show 4 ≤ sizeLine; decide) fun lq HA nA sA hA => ?_
    walk_at "run"
    refine Gx.lp (SqL.of hA) ?_
    refine Gx.fw (walk_list (xs := [.int (z0 - 1), .int (z1 - 1), .int ((d * ch * (Gd.ac w t * Gd.ac h t) : Nat) : Int), .int 0])) (fun j σ' H' => Same HA H' ∧ ∃ v7 v9 v10 v11 : Option V, σ' = [some (.ref a), some (.ref ps), some (.ref x), some (.ref rl), some (.ref bq), some (.ref kq), some (.ref dq), v7, some (.ref cq), v9, v10, v11]) ⟨Same.refl _, _, _, _, _, rfl⟩ (fun i σ' H' _ hh => hh.1.seq (SqL.of hA)) ?_ ?_
    · rintro j y σ' HB HB' hj ⟨sB, v7, v9, v10, v11, rfl⟩ ⟨rfl, hy⟩
      obtain ⟨z, rfl⟩ : ∃ z : Int, y = .int z := by
        have hj : j < 4 := hj
        rcases (show j = 0 ∨ j = 1 ∨ j = 2 ∨ j = 3 by omega) with e | e | e | e <;> subst e <;> exact ⟨_, (Option.some.inj hy).symm⟩
      walk_at "run"
      have fin : ∀ (H' : Hp) (v10 : Option V), Same HB' H' → Same HA H' := fun H' _ s => sB.trans s
      refine cp_law_told (fr.keep (show Same H2 HB' by walk_at "xsame")) D (hR.keep (show Same H3 HB' by walk_at "xsame")) (by omega) h5 (fun _ b0 b1 HC sC => ?_) (fun bad => absurd ok bad) (fun _ bad tq HC sC hT => ?_)
      · walk_at "run"
        refine Gx.if_n (decide_eq_false (by omega)) ?_
        walk_at "run"
        refine Gx.lenL (hkl (show Same H5 HC by walk_at "xsame")) ?_
        rw [List.length_map, k2]
        walk_at "run"
        refine Gx.if_n (decide_eq_false (by omega)) ?_
        walk_at "run"
        refine cp_law_is_int ?_
        walk_at "run"
        obtain ⟨m, rfl⟩ : ∃ m : Nat, z = m := ⟨z.toNat, by omega⟩
        refine Gx.ixL (by walk_at "fact") (atI_nat (hdues m (by omega))) ?_
        rw [Int.toNat_natCast]
        walk_at "run"
        rw [decide_eq_true rfl]
        walk_at "run"
        exact ⟨fin _ none sC, _, _, _, _, rfl⟩
      · walk_at "run"
        by_cases z0 : z < 0
        · refine Gx.if_y (decide_eq_true z0) ?_
          walk_at "run"
          refine Nx.tup0 (by show 2 ≤ sizeLine; decide) fun uq HD nD sD hD => ?_
          walk_at "run"
          refine Nx.neTS (xs := ["refused", "count"]) (ys := ["refused", "count"]) (SqT.of (sD _ _ hT)) (SqT.of hD) (by decide +kernel) (by decide +kernel) ?_
          rw [decide_eq_true rfl]
          walk_at "run"
          exact ⟨fin _ none (sC.trans sD), _, _, _, _, rfl⟩
        · refine Gx.if_n (decide_eq_false z0) ?_
          walk_at "run"
          refine Gx.lenL (hkl (show Same H5 HC by walk_at "xsame")) ?_
          rw [List.length_map, k2]
          walk_at "run"
          refine Gx.if_y (decide_eq_true (by omega)) ?_
          walk_at "run"
          refine Nx.tup0 (by show 2 ≤ sizeLine; decide) fun uq HD nD sD hD => ?_
          walk_at "run"
          refine Nx.neTS (xs := ["refused", "count"]) (ys := ["refused", "count"]) (SqT.of (sD _ _ hT)) (SqT.of hD) (by decide +kernel) (by decide +kernel) ?_
          rw [decide_eq_true rfl]
          walk_at "run"
          exact ⟨fin _ none (sC.trans sD), _, _, _, _, rfl⟩
    rintro σ' HB ⟨sB, v7, v9, v10, v11, rfl⟩
    walk_at "run"
    refine Nx.tup0 (by show 5 ≤ sizeLine; decide) fun b1 HC nC sC hC => ?_
    walk_at "run"
    refine Nx.lst0 (by show 1 ≤ sizeLine; decide) fun b2 HD nD sD hD => ?_
    obtain ⟨xs, hx, rr⟩ := hR.rr
    have hxl := rr.len
    refine Nx.cat0 (show HD rl = some (.lst xs) by walk_at "fact") hD (by simp [sizeLine_eq]; omega) fun b3 HE nE sE hE => ?_
    have hbR : Rg.RL HE b3 (rs ++ [[0, 0, 1, 0, 0]]) := Rg.RR.rl hE ((rr.keep (show Same H3 HE by walk_at "xsame")).app (Rg.RR.one (show HE b1 = some (.tup (([0, 0, 1, 0, 0] : List Int).map V.int)) by walk_at "fact")))
    have hbad : ¬ Rg.RegsOk (rs ++ [[0, 0, 1, 0, 0]]) := fun k => by
      obtain ⟨_, _, _, _, _, e, _, _, _, h4, _⟩ := k.2 [0, 0, 1, 0, 0] (by simp)
      cases e
      exact absurd h4.1 (by decide)
    have hb5 : ∀ r ∈ rs ++ [[0, 0, 1, 0, 0]], r.length = 5 := fun r hr => by
      rcases List.mem_append.mp hr with hr | hr
      · exact h5 r hr
      · rw [List.mem_singleton.mp hr]; rfl
    walk_at "run"
    refine cp_law_told (fr.keep (show Same H2 HE by walk_at "xsame")) D hbR (by simp; omega) hb5 (fun k => absurd k hbad) (fun _ t1 HF sF hF => ?_) (fun k => absurd k hbad)
    walk_at "run"
    refine Nx.tup0 (by show 2 ≤ sizeLine; decide) fun u1 HG nG sG hG => ?_
    walk_at "run"
    refine Nx.neTS (xs := ["refused", "regions"]) (ys := ["refused", "regions"]) (SqT.of (sG _ _ hF)) (SqT.of hG) (by decide +kernel) (by decide +kernel) ?_
    rw [decide_eq_true rfl]
    walk_at "run"
    refine cp_law_told (fr.keep (show Same H2 HG by walk_at "xsame")) D (hbR.keep (show Same HE HG by walk_at "xsame")) (by simp; omega) hb5 (fun k => absurd k hbad) (fun _ t2 HH sH hH => ?_) (fun k => absurd k hbad)
    walk_at "run"
    refine Nx.tup0 (by show 2 ≤ sizeLine; decide) fun u2 HI nI sI hI => ?_
    walk_at "run"
    refine Nx.neTS (xs := ["refused", "regions"]) (ys := ["refused", "regions"]) (SqT.of (sI _ _ hH)) (SqT.of hI) (by decide +kernel) (by decide +kernel) ?_
    rw [decide_eq_true rfl]
    walk_at "run"
    refine Gx.lenL (hkl (show Same H5 HI by walk_at "xsame")) ?_
    rw [List.length_map, k2]
    walk_at "run"
    refine cp_law_told (fr.keep (show Same H2 HI by walk_at "xsame")) D (hR.keep (show Same H3 HI by walk_at "xsame")) (by omega) h5 (fun _ b0 b1 => absurd b1 (by omega)) (fun bad => absurd ok bad) (fun _ _ t3 HJ sJ hJ => ?_)
    walk_at "run"
    refine Nx.tup0 (by show 2 ≤ sizeLine; decide) fun u3 HK nK sK hK => ?_
    walk_at "run"
    refine Nx.eqTS (xs := ["refused", "count"]) (ys := ["refused", "count"]) (SqT.of (sK _ _ hJ)) (SqT.of hK) (by decide +kernel) (by decide +kernel) ?_
    rw [decide_eq_true rfl]
    exact q _


end
theorem all_mk {l : PySem.W.OpenLaw} {w : World} {K : PySem.W.Frag} {h : Heap} {mg : Str → Option Value} {fa : Addr} (X : K.In h) (G : h.Ns mainGlobals mg) (hfa : mg "law" = some (.ref fa))
    {C_Frame : Addr}
    {C_OutOfRange f_OutOfRange cda_OutOfRange cc_OutOfRange N_OutOfRange : Addr} {nm_OutOfRange q_OutOfRange fi_OutOfRange : Str} {bs_OutOfRange bm_OutOfRange sub_OutOfRange : List Value} {sn_OutOfRange : List Str} {ab_OutOfRange : Bool} {col_OutOfRange : Option Bool} {dd_OutOfRange od_OutOfRange an_OutOfRange cdd_OutOfRange cld_OutOfRange : Option Addr} {k0_OutOfRange k1_OutOfRange k2_OutOfRange k3_OutOfRange k5_OutOfRange : Option Value} {oc_OutOfRange kV_OutOfRange dc_OutOfRange pm_OutOfRange ct_OutOfRange ccl_OutOfRange cl_OutOfRange : Value} {sl_OutOfRange ccs_OutOfRange csl_OutOfRange : Array (Option Value)} {vs_OutOfRange : Array Value} {tf_OutOfRange : Tok}
    {f_Frame_down : Addr} {od_Frame_down an_Frame_down : Option Addr} {sl_Frame_down : Array (Option Value)} {oc_Frame_down kV_Frame_down dc_Frame_down pm_Frame_down cd_Frame_down ct_Frame_down : Value}
    {f_Frame_across : Addr} {od_Frame_across an_Frame_across : Option Addr} {sl_Frame_across : Array (Option Value)} {oc_Frame_across kV_Frame_across dc_Frame_across pm_Frame_across cd_Frame_across ct_Frame_across : Value}
    {f_Frame_tiles : Addr} {od_Frame_tiles an_Frame_tiles : Option Addr} {sl_Frame_tiles : Array (Option Value)} {oc_Frame_tiles kV_Frame_tiles dc_Frame_tiles pm_Frame_tiles cd_Frame_tiles ct_Frame_tiles : Value}
    {f_Frame_packets : Addr} {od_Frame_packets an_Frame_packets : Option Addr} {sl_Frame_packets : Array (Option Value)} {oc_Frame_packets kV_Frame_packets dc_Frame_packets pm_Frame_packets cd_Frame_packets ct_Frame_packets : Value}
    {f_key_at : Addr} {od_key_at an_key_at : Option Addr} {sl_key_at : Array (Option Value)} {oc_key_at kV_key_at dc_key_at pm_key_at cd_key_at ct_key_at : Value}
    {f_all_keys : Addr} {od_all_keys an_all_keys : Option Addr} {sl_all_keys : Array (Option Value)} {oc_all_keys kV_all_keys dc_all_keys pm_all_keys cd_all_keys ct_all_keys : Value}
    {f_tile_corner : Addr} {od_tile_corner an_tile_corner : Option Addr} {sl_tile_corner : Array (Option Value)} {oc_tile_corner kV_tile_corner dc_tile_corner pm_tile_corner cd_tile_corner ct_tile_corner : Value}
    {f_tile_size : Addr} {od_tile_size an_tile_size : Option Addr} {sl_tile_size : Array (Option Value)} {oc_tile_size kV_tile_size dc_tile_size pm_tile_size cd_tile_size ct_tile_size : Value}
    {f_touches : Addr} {od_touches an_touches : Option Addr} {sl_touches : Array (Option Value)} {oc_touches kV_touches dc_touches pm_touches cd_touches ct_touches : Value}
    {f_boost : Addr} {od_boost an_boost : Option Addr} {sl_boost : Array (Option Value)} {oc_boost kV_boost dc_boost pm_boost cd_boost ct_boost : Value}
    {f_all_scores : Addr} {od_all_scores an_all_scores : Option Addr} {sl_all_scores : Array (Option Value)} {oc_all_scores kV_all_scores dc_all_scores pm_all_scores cd_all_scores ct_all_scores : Value}
    {f_check_range : Addr} {od_check_range an_check_range : Option Addr} {sl_check_range : Array (Option Value)} {oc_check_range kV_check_range dc_check_range pm_check_range cd_check_range ct_check_range : Value}
    {f_check_sides : Addr} {od_check_sides an_check_sides : Option Addr} {sl_check_sides : Array (Option Value)} {oc_check_sides kV_check_sides dc_check_sides pm_check_sides cd_check_sides ct_check_sides : Value}
    {f_check_regions : Addr} {od_check_regions an_check_regions : Option Addr} {sl_check_regions : Array (Option Value)} {oc_check_regions kV_check_regions dc_check_regions pm_check_regions cd_check_regions ct_check_regions : Value}
    {f_bound : Addr} {od_bound an_bound : Option Addr} {sl_bound : Array (Option Value)} {oc_bound kV_bound dc_bound pm_bound cd_bound ct_bound : Value}
    {f_law_told : Addr} {od_law_told an_law_told : Option Addr} {sl_law_told : Array (Option Value)} {oc_law_told kV_law_told dc_law_told pm_law_told cd_law_told ct_law_told : Value}
    {f_law_is_int : Addr} {od_law_is_int an_law_is_int : Option Addr} {sl_law_is_int : Array (Option Value)} {oc_law_is_int kV_law_is_int dc_law_is_int pm_law_is_int cd_law_is_int ct_law_is_int : Value}
    {f_law_mixed : Addr} {od_law_mixed an_law_mixed : Option Addr} {sl_law_mixed : Array (Option Value)} {oc_law_mixed kV_law_mixed dc_law_mixed pm_law_mixed cd_law_mixed ct_law_mixed : Value}
    {f_law_numbers : Addr} {od_law_numbers an_law_numbers : Option Addr} {sl_law_numbers : Array (Option Value)} {oc_law_numbers kV_law_numbers dc_law_numbers pm_law_numbers cd_law_numbers ct_law_numbers : Value}
    {f_law_cell : Addr} {od_law_cell an_law_cell : Option Addr} {sl_law_cell : Array (Option Value)} {oc_law_cell kV_law_cell dc_law_cell pm_law_cell cd_law_cell ct_law_cell : Value}
    {f_law_order : Addr} {od_law_order an_law_order : Option Addr} {sl_law_order : Array (Option Value)} {oc_law_order kV_law_order dc_law_order pm_law_order cd_law_order ct_law_order : Value}
    {f_law_pixels : Addr} {od_law_pixels an_law_pixels : Option Addr} {sl_law_pixels : Array (Option Value)} {oc_law_pixels kV_law_pixels dc_law_pixels pm_law_pixels cd_law_pixels ct_law_pixels : Value}
    {f_law_touches : Addr} {od_law_touches an_law_touches : Option Addr} {sl_law_touches : Array (Option Value)} {oc_law_touches kV_law_touches dc_law_touches pm_law_touches cd_law_touches ct_law_touches : Value}
    {f_law_tiles : Addr} {od_law_tiles an_law_tiles : Option Addr} {sl_law_tiles : Array (Option Value)} {oc_law_tiles kV_law_tiles dc_law_tiles pm_law_tiles cd_law_tiles ct_law_tiles : Value}
    {f_law_boosts : Addr} {od_law_boosts an_law_boosts : Option Addr} {sl_law_boosts : Array (Option Value)} {oc_law_boosts kV_law_boosts dc_law_boosts pm_law_boosts cd_law_boosts ct_law_boosts : Value}
    {f_law_plan : Addr} {od_law_plan an_law_plan : Option Addr} {sl_law_plan : Array (Option Value)} {oc_law_plan kV_law_plan dc_law_plan pm_law_plan cd_law_plan ct_law_plan : Value}
    {f_law_regions : Addr} {od_law_regions an_law_regions : Option Addr} {sl_law_regions : Array (Option Value)} {oc_law_regions kV_law_regions dc_law_regions pm_law_regions cd_law_regions ct_law_regions : Value}
    {f_check_size : Addr} {od_check_size an_check_size : Option Addr} {sl_check_size : Array (Option Value)} {oc_check_size kV_check_size dc_check_size pm_check_size cd_check_size ct_check_size : Value}
    {f_check_kind : Addr} {od_check_kind an_check_kind : Option Addr} {sl_check_kind : Array (Option Value)} {oc_check_kind kV_check_kind dc_check_kind pm_check_kind cd_check_kind ct_check_kind : Value}
    {f_Frame___init__ : Addr} {od_Frame___init__ an_Frame___init__ : Option Addr} {sl_Frame___init__ : Array (Option Value)} {oc_Frame___init__ kV_Frame___init__ dc_Frame___init__ pm_Frame___init__ cd_Frame___init__ ct_Frame___init__ : Value}
    {f_law_frame : Addr} {od_law_frame an_law_frame : Option Addr} {sl_law_frame : Array (Option Value)} {oc_law_frame kV_law_frame dc_law_frame pm_law_frame cd_law_frame ct_law_frame : Value}
    {f_law_sizes : Addr} {od_law_sizes an_law_sizes : Option Addr} {sl_law_sizes : Array (Option Value)} {oc_law_sizes kV_law_sizes dc_law_sizes pm_law_sizes cd_law_sizes ct_law_sizes : Value}
    {f_law : Addr} {od_law an_law : Option Addr} {sl_law : Array (Option Value)} {oc_law kV_law dc_law pm_law cd_law ct_law : Value}
    {t_BOOST_MOST : Tok}
    {t_DEPTH_MOST : Tok}
    {t_REGIONS_MOST : Tok}
    {t_SIDE_MOST : Tok}
    {t_TILE_MOST : Tok}
    {t_VALUES_MOST : Tok}
    (g_Frame : PySem.W.nsIn K mainGlobals "Frame" = some (some (.ref C_Frame)))
    (pg_Frame : PySem.W.plainGet K C_Frame Str.empty = true)
    (hd_Frame : PySem.W.hasDictIn K C_Frame = true)
    (po_Frame : PySem.W.plainOver K C_Frame = true)
    (sa_Frame : PySem.W.findIn K (.ref C_Frame) "__setattr__" = some (some (.builtin "object.__setattr__")))
    (mk_Frame : PySem.W.makesIn K C_Frame = true)
    (kc_Frame : PySem.W.keepIn K (.ref C_Frame) = true)
    (na_Frame_width : PySem.W.findIn K (.ref C_Frame) "width" = some none)
    (na_Frame_height : PySem.W.findIn K (.ref C_Frame) "height" = some none)
    (na_Frame_depth : PySem.W.findIn K (.ref C_Frame) "depth" = some none)
    (na_Frame_channels : PySem.W.findIn K (.ref C_Frame) "channels" = some none)
    (na_Frame_tile : PySem.W.findIn K (.ref C_Frame) "tile" = some none)
    (topS : (l.prog.main.scope.names.lookup ("super" : Str)).isSome = false)
    (nsS : PySem.W.nsIn K mainGlobals "super" = some none)
    (opS : PySem.W.nsIn K cStatics "thirdparty.any" = some none)
    (spS : PySem.W.specialIn K (.builtin "object.__class__") "__get__" = some (some (.builtin "getset_descriptor.__get__")))
    (tkS : PySem.W.takesIn K (.builtin "object.__class__") = some true)
    (g_OutOfRange : PySem.W.nsIn K mainGlobals "OutOfRange" = some (some (.ref C_OutOfRange)))
    (lC_OutOfRange : K.lookup C_OutOfRange = some (excClassObj nm_OutOfRange q_OutOfRange C_OutOfRange N_OutOfRange bs_OutOfRange bm_OutOfRange true sn_OutOfRange sub_OutOfRange ab_OutOfRange col_OutOfRange dd_OutOfRange k0_OutOfRange k1_OutOfRange k2_OutOfRange k3_OutOfRange k5_OutOfRange "ValueError.__new__"))
    (rv_OutOfRange : PySem.HandSPX.refsVE bm_OutOfRange = true)
    (sa_OutOfRange : PySem.W.findIn K (.ref C_OutOfRange) "__setattr__" = some (some (.builtin "object.__setattr__")))
    (bb_OutOfRange : PySem.W.subIn K (.ref C_OutOfRange) (.type "BaseException") = some true)
    (ty_OutOfRange : PySem.W.typeIn K (.ref C_OutOfRange) = some (.type "type"))
    (kC_OutOfRange : PySem.W.keepIn K (.ref C_OutOfRange) = true)
    (iC_OutOfRange : PySem.W.findIn K (.ref C_OutOfRange) "__init__" = some (some (.ref f_OutOfRange)))
    (tI_OutOfRange : PySem.W.typeIn K (.ref f_OutOfRange) = some (.type "function"))
    (lf_OutOfRange : K.lookup f_OutOfRange = some ⟨oc_OutOfRange, od_OutOfRange, .func (PySem.W.ksFn "__init__" "OutOfRange.__init__" (defArgs s_OutOfRange___init__) (defBody s_OutOfRange___init__) (defScope s_OutOfRange___init__) .none kV_OutOfRange dc_OutOfRange pm_OutOfRange an_OutOfRange (.ref cda_OutOfRange) ct_OutOfRange cc_OutOfRange), sl_OutOfRange⟩)
    (cf_OutOfRange : PySem.W.codeIn K (.ref cda_OutOfRange) "OutOfRange.__init__" = true)
    (lcd_OutOfRange : K.lookup cda_OutOfRange = some ⟨ccl_OutOfRange, cdd_OutOfRange, .fields vs_OutOfRange, ccs_OutOfRange⟩)
    (vs2_OutOfRange : vs_OutOfRange[2]? = some (.str fi_OutOfRange tf_OutOfRange))
    (fil_OutOfRange : ((l.prog.main.file : Str) == fi_OutOfRange) = true)
    (lcc_OutOfRange : K.lookup cc_OutOfRange = some ⟨cl_OutOfRange, cld_OutOfRange, .cell (some (.ref C_OutOfRange)), csl_OutOfRange⟩)
    (su_OutOfRange : PySem.W.mroIn K C_OutOfRange (.ref C_OutOfRange) = some true)
    (sup_OutOfRange : PySem.W.ks_superIn K C_OutOfRange C_OutOfRange "__init__" = some (some (.builtin "ValueError.__init__")))
    (isV_OutOfRange : PySem.W.subIn K (.ref C_OutOfRange) (.type "ValueError") = some true)
    (ga_OutOfRange : PySem.W.findIn K (.ref C_OutOfRange) "__getattribute__" = some (some (.builtin "BaseException.__getattribute__")))
    (gg_OutOfRange : PySem.W.findIn K (.ref C_OutOfRange) "__getattr__" = some none)
    (ca_OutOfRange : PySem.W.findIn K (.ref C_OutOfRange) "__class__" = some (some (.builtin "object.__class__")))
    (ob_OutOfRange : PySem.W.mroIn K C_OutOfRange (.type "object") = some true)
    (hd_OutOfRange : PySem.W.hasDictIn K C_OutOfRange = true)
    (ss_OutOfRange : PySem.W.subIn K (.ref C_OutOfRange) (.ref C_OutOfRange) = some true)
    (nf_OutOfRange_name : PySem.W.findIn K (.ref C_OutOfRange) "name" = some none)
    (a_Frame_down : PySem.W.findIn K (.ref C_Frame) "down" = some (some (.ref f_Frame_down)))
    (i_Frame_down : PySem.W.isFn K (.ref f_Frame_down) = true)
    (l_Frame_down : K.lookup f_Frame_down = some ⟨oc_Frame_down, od_Frame_down, .func (PySem.W.fnOf "down" "Frame.down" (defArgs s_Frame_down) (defBody s_Frame_down) (defScope s_Frame_down) .none kV_Frame_down dc_Frame_down pm_Frame_down an_Frame_down cd_Frame_down ct_Frame_down), sl_Frame_down⟩)
    (c_Frame_down : PySem.W.codeIn K cd_Frame_down "Frame.down" = true)
    (k_Frame_down : PySem.W.keepIn K (.ref f_Frame_down) = true)
    (a_Frame_across : PySem.W.findIn K (.ref C_Frame) "across" = some (some (.ref f_Frame_across)))
    (i_Frame_across : PySem.W.isFn K (.ref f_Frame_across) = true)
    (l_Frame_across : K.lookup f_Frame_across = some ⟨oc_Frame_across, od_Frame_across, .func (PySem.W.fnOf "across" "Frame.across" (defArgs s_Frame_across) (defBody s_Frame_across) (defScope s_Frame_across) .none kV_Frame_across dc_Frame_across pm_Frame_across an_Frame_across cd_Frame_across ct_Frame_across), sl_Frame_across⟩)
    (c_Frame_across : PySem.W.codeIn K cd_Frame_across "Frame.across" = true)
    (k_Frame_across : PySem.W.keepIn K (.ref f_Frame_across) = true)
    (a_Frame_tiles : PySem.W.findIn K (.ref C_Frame) "tiles" = some (some (.ref f_Frame_tiles)))
    (i_Frame_tiles : PySem.W.isFn K (.ref f_Frame_tiles) = true)
    (l_Frame_tiles : K.lookup f_Frame_tiles = some ⟨oc_Frame_tiles, od_Frame_tiles, .func (PySem.W.fnOf "tiles" "Frame.tiles" (defArgs s_Frame_tiles) (defBody s_Frame_tiles) (defScope s_Frame_tiles) .none kV_Frame_tiles dc_Frame_tiles pm_Frame_tiles an_Frame_tiles cd_Frame_tiles ct_Frame_tiles), sl_Frame_tiles⟩)
    (c_Frame_tiles : PySem.W.codeIn K cd_Frame_tiles "Frame.tiles" = true)
    (k_Frame_tiles : PySem.W.keepIn K (.ref f_Frame_tiles) = true)
    (a_Frame_packets : PySem.W.findIn K (.ref C_Frame) "packets" = some (some (.ref f_Frame_packets)))
    (i_Frame_packets : PySem.W.isFn K (.ref f_Frame_packets) = true)
    (l_Frame_packets : K.lookup f_Frame_packets = some ⟨oc_Frame_packets, od_Frame_packets, .func (PySem.W.fnOf "packets" "Frame.packets" (defArgs s_Frame_packets) (defBody s_Frame_packets) (defScope s_Frame_packets) .none kV_Frame_packets dc_Frame_packets pm_Frame_packets an_Frame_packets cd_Frame_packets ct_Frame_packets), sl_Frame_packets⟩)
    (c_Frame_packets : PySem.W.codeIn K cd_Frame_packets "Frame.packets" = true)
    (k_Frame_packets : PySem.W.keepIn K (.ref f_Frame_packets) = true)
    (a_key_at : PySem.W.nsIn K mainGlobals "key_at" = some (some (.ref f_key_at)))
    (l_key_at : K.lookup f_key_at = some ⟨oc_key_at, od_key_at, .func (PySem.W.fnOf "key_at" "key_at" (defArgs s_key_at) (defBody s_key_at) (defScope s_key_at) .none kV_key_at dc_key_at pm_key_at an_key_at cd_key_at ct_key_at), sl_key_at⟩)
    (c_key_at : PySem.W.codeIn K cd_key_at "key_at" = true)
    (k_key_at : PySem.W.keepIn K (.ref f_key_at) = true)
    (a_all_keys : PySem.W.nsIn K mainGlobals "all_keys" = some (some (.ref f_all_keys)))
    (l_all_keys : K.lookup f_all_keys = some ⟨oc_all_keys, od_all_keys, .func (PySem.W.fnOf "all_keys" "all_keys" (defArgs s_all_keys) (defBody s_all_keys) (defScope s_all_keys) .none kV_all_keys dc_all_keys pm_all_keys an_all_keys cd_all_keys ct_all_keys), sl_all_keys⟩)
    (c_all_keys : PySem.W.codeIn K cd_all_keys "all_keys" = true)
    (k_all_keys : PySem.W.keepIn K (.ref f_all_keys) = true)
    (a_tile_corner : PySem.W.nsIn K mainGlobals "tile_corner" = some (some (.ref f_tile_corner)))
    (l_tile_corner : K.lookup f_tile_corner = some ⟨oc_tile_corner, od_tile_corner, .func (PySem.W.fnOf "tile_corner" "tile_corner" (defArgs s_tile_corner) (defBody s_tile_corner) (defScope s_tile_corner) .none kV_tile_corner dc_tile_corner pm_tile_corner an_tile_corner cd_tile_corner ct_tile_corner), sl_tile_corner⟩)
    (c_tile_corner : PySem.W.codeIn K cd_tile_corner "tile_corner" = true)
    (k_tile_corner : PySem.W.keepIn K (.ref f_tile_corner) = true)
    (a_tile_size : PySem.W.nsIn K mainGlobals "tile_size" = some (some (.ref f_tile_size)))
    (l_tile_size : K.lookup f_tile_size = some ⟨oc_tile_size, od_tile_size, .func (PySem.W.fnOf "tile_size" "tile_size" (defArgs s_tile_size) (defBody s_tile_size) (defScope s_tile_size) .none kV_tile_size dc_tile_size pm_tile_size an_tile_size cd_tile_size ct_tile_size), sl_tile_size⟩)
    (c_tile_size : PySem.W.codeIn K cd_tile_size "tile_size" = true)
    (k_tile_size : PySem.W.keepIn K (.ref f_tile_size) = true)
    (a_touches : PySem.W.nsIn K mainGlobals "touches" = some (some (.ref f_touches)))
    (l_touches : K.lookup f_touches = some ⟨oc_touches, od_touches, .func (PySem.W.fnOf "touches" "touches" (defArgs s_touches) (defBody s_touches) (defScope s_touches) .none kV_touches dc_touches pm_touches an_touches cd_touches ct_touches), sl_touches⟩)
    (c_touches : PySem.W.codeIn K cd_touches "touches" = true)
    (k_touches : PySem.W.keepIn K (.ref f_touches) = true)
    (a_boost : PySem.W.nsIn K mainGlobals "boost" = some (some (.ref f_boost)))
    (l_boost : K.lookup f_boost = some ⟨oc_boost, od_boost, .func (PySem.W.fnOf "boost" "boost" (defArgs s_boost) (defBody s_boost) (defScope s_boost) .none kV_boost dc_boost pm_boost an_boost cd_boost ct_boost), sl_boost⟩)
    (c_boost : PySem.W.codeIn K cd_boost "boost" = true)
    (k_boost : PySem.W.keepIn K (.ref f_boost) = true)
    (a_all_scores : PySem.W.nsIn K mainGlobals "all_scores" = some (some (.ref f_all_scores)))
    (l_all_scores : K.lookup f_all_scores = some ⟨oc_all_scores, od_all_scores, .func (PySem.W.fnOf "all_scores" "all_scores" (defArgs s_all_scores) (defBody s_all_scores) (defScope s_all_scores) .none kV_all_scores dc_all_scores pm_all_scores an_all_scores cd_all_scores ct_all_scores), sl_all_scores⟩)
    (c_all_scores : PySem.W.codeIn K cd_all_scores "all_scores" = true)
    (k_all_scores : PySem.W.keepIn K (.ref f_all_scores) = true)
    (a_check_range : PySem.W.nsIn K mainGlobals "check_range" = some (some (.ref f_check_range)))
    (l_check_range : K.lookup f_check_range = some ⟨oc_check_range, od_check_range, .func (PySem.W.fnOf "check_range" "check_range" (defArgs s_check_range) (defBody s_check_range) (defScope s_check_range) .none kV_check_range dc_check_range pm_check_range an_check_range cd_check_range ct_check_range), sl_check_range⟩)
    (c_check_range : PySem.W.codeIn K cd_check_range "check_range" = true)
    (k_check_range : PySem.W.keepIn K (.ref f_check_range) = true)
    (a_check_sides : PySem.W.nsIn K mainGlobals "check_sides" = some (some (.ref f_check_sides)))
    (l_check_sides : K.lookup f_check_sides = some ⟨oc_check_sides, od_check_sides, .func (PySem.W.fnOf "check_sides" "check_sides" (defArgs s_check_sides) (defBody s_check_sides) (defScope s_check_sides) .none kV_check_sides dc_check_sides pm_check_sides an_check_sides cd_check_sides ct_check_sides), sl_check_sides⟩)
    (c_check_sides : PySem.W.codeIn K cd_check_sides "check_sides" = true)
    (k_check_sides : PySem.W.keepIn K (.ref f_check_sides) = true)
    (a_check_regions : PySem.W.nsIn K mainGlobals "check_regions" = some (some (.ref f_check_regions)))
    (l_check_regions : K.lookup f_check_regions = some ⟨oc_check_regions, od_check_regions, .func (PySem.W.fnOf "check_regions" "check_regions" (defArgs s_check_regions) (defBody s_check_regions) (defScope s_check_regions) .none kV_check_regions dc_check_regions pm_check_regions an_check_regions cd_check_regions ct_check_regions), sl_check_regions⟩)
    (c_check_regions : PySem.W.codeIn K cd_check_regions "check_regions" = true)
    (k_check_regions : PySem.W.keepIn K (.ref f_check_regions) = true)
    (a_bound : PySem.W.nsIn K mainGlobals "bound" = some (some (.ref f_bound)))
    (l_bound : K.lookup f_bound = some ⟨oc_bound, od_bound, .func (PySem.W.fnOf "bound" "bound" (defArgs s_bound) (defBody s_bound) (defScope s_bound) .none kV_bound dc_bound pm_bound an_bound cd_bound ct_bound), sl_bound⟩)
    (c_bound : PySem.W.codeIn K cd_bound "bound" = true)
    (k_bound : PySem.W.keepIn K (.ref f_bound) = true)
    (a_law_told : PySem.W.nsIn K mainGlobals "_law_told" = some (some (.ref f_law_told)))
    (l_law_told : K.lookup f_law_told = some ⟨oc_law_told, od_law_told, .func (PySem.W.fnOf "_law_told" "_law_told" (defArgs s_law_told) (defBody s_law_told) (defScope s_law_told) .none kV_law_told dc_law_told pm_law_told an_law_told cd_law_told ct_law_told), sl_law_told⟩)
    (c_law_told : PySem.W.codeIn K cd_law_told "_law_told" = true)
    (k_law_told : PySem.W.keepIn K (.ref f_law_told) = true)
    (a_law_is_int : PySem.W.nsIn K mainGlobals "_law_is_int" = some (some (.ref f_law_is_int)))
    (l_law_is_int : K.lookup f_law_is_int = some ⟨oc_law_is_int, od_law_is_int, .func (PySem.W.fnOf "_law_is_int" "_law_is_int" (defArgs s_law_is_int) (defBody s_law_is_int) (defScope s_law_is_int) .none kV_law_is_int dc_law_is_int pm_law_is_int an_law_is_int cd_law_is_int ct_law_is_int), sl_law_is_int⟩)
    (c_law_is_int : PySem.W.codeIn K cd_law_is_int "_law_is_int" = true)
    (k_law_is_int : PySem.W.keepIn K (.ref f_law_is_int) = true)
    (a_law_mixed : PySem.W.nsIn K mainGlobals "_law_mixed" = some (some (.ref f_law_mixed)))
    (l_law_mixed : K.lookup f_law_mixed = some ⟨oc_law_mixed, od_law_mixed, .func (PySem.W.fnOf "_law_mixed" "_law_mixed" (defArgs s_law_mixed) (defBody s_law_mixed) (defScope s_law_mixed) .none kV_law_mixed dc_law_mixed pm_law_mixed an_law_mixed cd_law_mixed ct_law_mixed), sl_law_mixed⟩)
    (c_law_mixed : PySem.W.codeIn K cd_law_mixed "_law_mixed" = true)
    (k_law_mixed : PySem.W.keepIn K (.ref f_law_mixed) = true)
    (a_law_numbers : PySem.W.nsIn K mainGlobals "_law_numbers" = some (some (.ref f_law_numbers)))
    (l_law_numbers : K.lookup f_law_numbers = some ⟨oc_law_numbers, od_law_numbers, .func (PySem.W.fnOf "_law_numbers" "_law_numbers" (defArgs s_law_numbers) (defBody s_law_numbers) (defScope s_law_numbers) .none kV_law_numbers dc_law_numbers pm_law_numbers an_law_numbers cd_law_numbers ct_law_numbers), sl_law_numbers⟩)
    (c_law_numbers : PySem.W.codeIn K cd_law_numbers "_law_numbers" = true)
    (k_law_numbers : PySem.W.keepIn K (.ref f_law_numbers) = true)
    (a_law_cell : PySem.W.nsIn K mainGlobals "_law_cell" = some (some (.ref f_law_cell)))
    (l_law_cell : K.lookup f_law_cell = some ⟨oc_law_cell, od_law_cell, .func (PySem.W.fnOf "_law_cell" "_law_cell" (defArgs s_law_cell) (defBody s_law_cell) (defScope s_law_cell) .none kV_law_cell dc_law_cell pm_law_cell an_law_cell cd_law_cell ct_law_cell), sl_law_cell⟩)
    (c_law_cell : PySem.W.codeIn K cd_law_cell "_law_cell" = true)
    (k_law_cell : PySem.W.keepIn K (.ref f_law_cell) = true)
    (a_law_order : PySem.W.nsIn K mainGlobals "_law_order" = some (some (.ref f_law_order)))
    (l_law_order : K.lookup f_law_order = some ⟨oc_law_order, od_law_order, .func (PySem.W.fnOf "_law_order" "_law_order" (defArgs s_law_order) (defBody s_law_order) (defScope s_law_order) .none kV_law_order dc_law_order pm_law_order an_law_order cd_law_order ct_law_order), sl_law_order⟩)
    (c_law_order : PySem.W.codeIn K cd_law_order "_law_order" = true)
    (k_law_order : PySem.W.keepIn K (.ref f_law_order) = true)
    (a_law_pixels : PySem.W.nsIn K mainGlobals "_law_pixels" = some (some (.ref f_law_pixels)))
    (l_law_pixels : K.lookup f_law_pixels = some ⟨oc_law_pixels, od_law_pixels, .func (PySem.W.fnOf "_law_pixels" "_law_pixels" (defArgs s_law_pixels) (defBody s_law_pixels) (defScope s_law_pixels) .none kV_law_pixels dc_law_pixels pm_law_pixels an_law_pixels cd_law_pixels ct_law_pixels), sl_law_pixels⟩)
    (c_law_pixels : PySem.W.codeIn K cd_law_pixels "_law_pixels" = true)
    (k_law_pixels : PySem.W.keepIn K (.ref f_law_pixels) = true)
    (a_law_touches : PySem.W.nsIn K mainGlobals "_law_touches" = some (some (.ref f_law_touches)))
    (l_law_touches : K.lookup f_law_touches = some ⟨oc_law_touches, od_law_touches, .func (PySem.W.fnOf "_law_touches" "_law_touches" (defArgs s_law_touches) (defBody s_law_touches) (defScope s_law_touches) .none kV_law_touches dc_law_touches pm_law_touches an_law_touches cd_law_touches ct_law_touches), sl_law_touches⟩)
    (c_law_touches : PySem.W.codeIn K cd_law_touches "_law_touches" = true)
    (k_law_touches : PySem.W.keepIn K (.ref f_law_touches) = true)
    (a_law_tiles : PySem.W.nsIn K mainGlobals "_law_tiles" = some (some (.ref f_law_tiles)))
    (l_law_tiles : K.lookup f_law_tiles = some ⟨oc_law_tiles, od_law_tiles, .func (PySem.W.fnOf "_law_tiles" "_law_tiles" (defArgs s_law_tiles) (defBody s_law_tiles) (defScope s_law_tiles) .none kV_law_tiles dc_law_tiles pm_law_tiles an_law_tiles cd_law_tiles ct_law_tiles), sl_law_tiles⟩)
    (c_law_tiles : PySem.W.codeIn K cd_law_tiles "_law_tiles" = true)
    (k_law_tiles : PySem.W.keepIn K (.ref f_law_tiles) = true)
    (a_law_boosts : PySem.W.nsIn K mainGlobals "_law_boosts" = some (some (.ref f_law_boosts)))
    (l_law_boosts : K.lookup f_law_boosts = some ⟨oc_law_boosts, od_law_boosts, .func (PySem.W.fnOf "_law_boosts" "_law_boosts" (defArgs s_law_boosts) (defBody s_law_boosts) (defScope s_law_boosts) .none kV_law_boosts dc_law_boosts pm_law_boosts an_law_boosts cd_law_boosts ct_law_boosts), sl_law_boosts⟩)
    (c_law_boosts : PySem.W.codeIn K cd_law_boosts "_law_boosts" = true)
    (k_law_boosts : PySem.W.keepIn K (.ref f_law_boosts) = true)
    (a_law_plan : PySem.W.nsIn K mainGlobals "_law_plan" = some (some (.ref f_law_plan)))
    (l_law_plan : K.lookup f_law_plan = some ⟨oc_law_plan, od_law_plan, .func (PySem.W.fnOf "_law_plan" "_law_plan" (defArgs s_law_plan) (defBody s_law_plan) (defScope s_law_plan) .none kV_law_plan dc_law_plan pm_law_plan an_law_plan cd_law_plan ct_law_plan), sl_law_plan⟩)
    (c_law_plan : PySem.W.codeIn K cd_law_plan "_law_plan" = true)
    (k_law_plan : PySem.W.keepIn K (.ref f_law_plan) = true)
    (a_law_regions : PySem.W.nsIn K mainGlobals "_law_regions" = some (some (.ref f_law_regions)))
    (l_law_regions : K.lookup f_law_regions = some ⟨oc_law_regions, od_law_regions, .func (PySem.W.fnOf "_law_regions" "_law_regions" (defArgs s_law_regions) (defBody s_law_regions) (defScope s_law_regions) .none kV_law_regions dc_law_regions pm_law_regions an_law_regions cd_law_regions ct_law_regions), sl_law_regions⟩)
    (c_law_regions : PySem.W.codeIn K cd_law_regions "_law_regions" = true)
    (k_law_regions : PySem.W.keepIn K (.ref f_law_regions) = true)
    (a_check_size : PySem.W.nsIn K mainGlobals "check_size" = some (some (.ref f_check_size)))
    (l_check_size : K.lookup f_check_size = some ⟨oc_check_size, od_check_size, .func (PySem.W.fnOf "check_size" "check_size" (defArgs s_check_size) (defBody s_check_size) (defScope s_check_size) .none kV_check_size dc_check_size pm_check_size an_check_size cd_check_size ct_check_size), sl_check_size⟩)
    (c_check_size : PySem.W.codeIn K cd_check_size "check_size" = true)
    (k_check_size : PySem.W.keepIn K (.ref f_check_size) = true)
    (a_check_kind : PySem.W.nsIn K mainGlobals "check_kind" = some (some (.ref f_check_kind)))
    (l_check_kind : K.lookup f_check_kind = some ⟨oc_check_kind, od_check_kind, .func (PySem.W.fnOf "check_kind" "check_kind" (defArgs s_check_kind) (defBody s_check_kind) (defScope s_check_kind) .none kV_check_kind dc_check_kind pm_check_kind an_check_kind cd_check_kind ct_check_kind), sl_check_kind⟩)
    (c_check_kind : PySem.W.codeIn K cd_check_kind "check_kind" = true)
    (k_check_kind : PySem.W.keepIn K (.ref f_check_kind) = true)
    (a_Frame___init__ : PySem.W.findIn K (.ref C_Frame) "__init__" = some (some (.ref f_Frame___init__)))
    (i_Frame___init__ : PySem.W.isFn K (.ref f_Frame___init__) = true)
    (l_Frame___init__ : K.lookup f_Frame___init__ = some ⟨oc_Frame___init__, od_Frame___init__, .func (PySem.W.fnOf "__init__" "Frame.__init__" (defArgs s_Frame___init__) (defBody s_Frame___init__) (defScope s_Frame___init__) .none kV_Frame___init__ dc_Frame___init__ pm_Frame___init__ an_Frame___init__ cd_Frame___init__ ct_Frame___init__), sl_Frame___init__⟩)
    (c_Frame___init__ : PySem.W.codeIn K cd_Frame___init__ "Frame.__init__" = true)
    (k_Frame___init__ : PySem.W.keepIn K (.ref f_Frame___init__) = true)
    (a_law_frame : PySem.W.nsIn K mainGlobals "_law_frame" = some (some (.ref f_law_frame)))
    (l_law_frame : K.lookup f_law_frame = some ⟨oc_law_frame, od_law_frame, .func (PySem.W.fnOf "_law_frame" "_law_frame" (defArgs s_law_frame) (defBody s_law_frame) (defScope s_law_frame) .none kV_law_frame dc_law_frame pm_law_frame an_law_frame cd_law_frame ct_law_frame), sl_law_frame⟩)
    (c_law_frame : PySem.W.codeIn K cd_law_frame "_law_frame" = true)
    (k_law_frame : PySem.W.keepIn K (.ref f_law_frame) = true)
    (a_law_sizes : PySem.W.nsIn K mainGlobals "_law_sizes" = some (some (.ref f_law_sizes)))
    (l_law_sizes : K.lookup f_law_sizes = some ⟨oc_law_sizes, od_law_sizes, .func (PySem.W.fnOf "_law_sizes" "_law_sizes" (defArgs s_law_sizes) (defBody s_law_sizes) (defScope s_law_sizes) .none kV_law_sizes dc_law_sizes pm_law_sizes an_law_sizes cd_law_sizes ct_law_sizes), sl_law_sizes⟩)
    (c_law_sizes : PySem.W.codeIn K cd_law_sizes "_law_sizes" = true)
    (k_law_sizes : PySem.W.keepIn K (.ref f_law_sizes) = true)
    (a_law : PySem.W.nsIn K mainGlobals "law" = some (some (.ref f_law)))
    (l_law : K.lookup f_law = some ⟨oc_law, od_law, .func (PySem.W.fnOf "law" "law" (defArgs s_law) (defBody s_law) (defScope s_law) .none kV_law dc_law pm_law an_law cd_law ct_law), sl_law⟩)
    (c_law : PySem.W.codeIn K cd_law "law" = true)
    (k_law : PySem.W.keepIn K (.ref f_law) = true)
    (n_abs : PySem.W.nsIn K mainGlobals "abs" = some none)
    (n_bool : PySem.W.nsIn K mainGlobals "bool" = some none)
    (n_divmod : PySem.W.nsIn K mainGlobals "divmod" = some none)
    (n_int : PySem.W.nsIn K mainGlobals "int" = some none)
    (n_isinstance : PySem.W.nsIn K mainGlobals "isinstance" = some none)
    (n_len : PySem.W.nsIn K mainGlobals "len" = some none)
    (n_max : PySem.W.nsIn K mainGlobals "max" = some none)
    (n_min : PySem.W.nsIn K mainGlobals "min" = some none)
    (n_range : PySem.W.nsIn K mainGlobals "range" = some none)
    (n_sorted : PySem.W.nsIn K mainGlobals "sorted" = some none)
    (c_BOOST_MOST : PySem.W.nsIn K mainGlobals "BOOST_MOST" = some (some (.int 16 t_BOOST_MOST)))
    (c_DEPTH_MOST : PySem.W.nsIn K mainGlobals "DEPTH_MOST" = some (some (.int 8 t_DEPTH_MOST)))
    (c_REGIONS_MOST : PySem.W.nsIn K mainGlobals "REGIONS_MOST" = some (some (.int 16 t_REGIONS_MOST)))
    (c_SIDE_MOST : PySem.W.nsIn K mainGlobals "SIDE_MOST" = some (some (.int 64 t_SIDE_MOST)))
    (c_TILE_MOST : PySem.W.nsIn K mainGlobals "TILE_MOST" = some (some (.int 16 t_TILE_MOST)))
    (c_VALUES_MOST : PySem.W.nsIn K mainGlobals "VALUES_MOST" = some (some (.int 3072 t_VALUES_MOST))) :
    ∃ fd : FuncData, (∀ (s : Shared) (v : Value), BindsTo s fd ⟨[v], []⟩ [("script", v)]) ∧ ∀ base : Heap, K.In base → base.Ns mainGlobals mg → FnOk l.prog w K mg base CX0 9 fa fd ["script"] (spLaw K) := by
  have e := hfa.symm.trans (PySem.W.mg_of X G a_law)
  cases e
  have F_Frame_down := fun_mk (st := s_Frame_down) l_Frame_down c_Frame_down k_Frame_down
  have F_Frame_across := fun_mk (st := s_Frame_across) l_Frame_across c_Frame_across k_Frame_across
  have F_Frame_tiles := fun_mk (st := s_Frame_tiles) l_Frame_tiles c_Frame_tiles k_Frame_tiles
  have F_Frame_packets := fun_mk (st := s_Frame_packets) l_Frame_packets c_Frame_packets k_Frame_packets
  have F_key_at := fun_mk (st := s_key_at) l_key_at c_key_at k_key_at
  have F_all_keys := fun_mk (st := s_all_keys) l_all_keys c_all_keys k_all_keys
  have F_tile_corner := fun_mk (st := s_tile_corner) l_tile_corner c_tile_corner k_tile_corner
  have F_tile_size := fun_mk (st := s_tile_size) l_tile_size c_tile_size k_tile_size
  have F_touches := fun_mk (st := s_touches) l_touches c_touches k_touches
  have F_boost := fun_mk (st := s_boost) l_boost c_boost k_boost
  have F_all_scores := fun_mk (st := s_all_scores) l_all_scores c_all_scores k_all_scores
  have F_check_range := fun_mk (st := s_check_range) l_check_range c_check_range k_check_range
  have F_check_sides := fun_mk (st := s_check_sides) l_check_sides c_check_sides k_check_sides
  have F_check_regions := fun_mk (st := s_check_regions) l_check_regions c_check_regions k_check_regions
  have F_bound := fun_mk (st := s_bound) l_bound c_bound k_bound
  have F_law_told := fun_mk (st := s_law_told) l_law_told c_law_told k_law_told
  have F_law_is_int := fun_mk (st := s_law_is_int) l_law_is_int c_law_is_int k_law_is_int
  have F_law_mixed := fun_mk (st := s_law_mixed) l_law_mixed c_law_mixed k_law_mixed
  have F_law_numbers := fun_mk (st := s_law_numbers) l_law_numbers c_law_numbers k_law_numbers
  have F_law_cell := fun_mk (st := s_law_cell) l_law_cell c_law_cell k_law_cell
  have F_law_order := fun_mk (st := s_law_order) l_law_order c_law_order k_law_order
  have F_law_pixels := fun_mk (st := s_law_pixels) l_law_pixels c_law_pixels k_law_pixels
  have F_law_touches := fun_mk (st := s_law_touches) l_law_touches c_law_touches k_law_touches
  have F_law_tiles := fun_mk (st := s_law_tiles) l_law_tiles c_law_tiles k_law_tiles
  have F_law_boosts := fun_mk (st := s_law_boosts) l_law_boosts c_law_boosts k_law_boosts
  have F_law_plan := fun_mk (st := s_law_plan) l_law_plan c_law_plan k_law_plan
  have F_law_regions := fun_mk (st := s_law_regions) l_law_regions c_law_regions k_law_regions
  have F_check_size := fun_mk (st := s_check_size) l_check_size c_check_size k_check_size
  have F_check_kind := fun_mk (st := s_check_kind) l_check_kind c_check_kind k_check_kind
  have F_Frame___init__ := fun_mk (st := s_Frame___init__) l_Frame___init__ c_Frame___init__ k_Frame___init__
  have F_law_frame := fun_mk (st := s_law_frame) l_law_frame c_law_frame k_law_frame
  have F_law_sizes := fun_mk (st := s_law_sizes) l_law_sizes c_law_sizes k_law_sizes
  have F_law := fun_mk (st := s_law) l_law c_law k_law
  exact ⟨PySem.W.fnOf "law" "law" (defArgs s_law) (defBody s_law) (defScope s_law) .none kV_law dc_law pm_law an_law cd_law ct_law, fun s v => .of_eq rfl, fun base _ _ => ok_law (mg := mg) {
    a_Frame := C_Frame,
    cl_Frame := ⟨pg_Frame, hd_Frame, po_Frame, sa_Frame⟩,
    g_Frame := PySem.W.mg_of X G g_Frame,
    mk_Frame := mk_Frame,
    kp_Frame := kc_Frame,
    na_Frame_width := na_Frame_width,
    na_Frame_height := na_Frame_height,
    na_Frame_depth := na_Frame_depth,
    na_Frame_channels := na_Frame_channels,
    na_Frame_tile := na_Frame_tile,
    x_OutOfRange := ⟨C_OutOfRange, f_OutOfRange, _, PySem.W.mg_of X G g_OutOfRange, ⟨⟨nm_OutOfRange, q_OutOfRange, N_OutOfRange, bs_OutOfRange, bm_OutOfRange, sn_OutOfRange, sub_OutOfRange, ab_OutOfRange, col_OutOfRange, dd_OutOfRange, k0_OutOfRange, k1_OutOfRange, k2_OutOfRange, k3_OutOfRange, k5_OutOfRange, lC_OutOfRange, rv_OutOfRange⟩, sa_OutOfRange, bb_OutOfRange, ty_OutOfRange, kC_OutOfRange⟩,
      ⟨⟨_, _, _, _, _, _, _, _, _, _, rfl, lf_OutOfRange, cf_OutOfRange, ⟨_, _, _, _, _, _, lcd_OutOfRange, vs2_OutOfRange, fil_OutOfRange⟩, _, _, _, lcc_OutOfRange⟩, topS, PySem.W.mg_none_of X G nsS, su_OutOfRange, opS, sup_OutOfRange, isV_OutOfRange⟩, iC_OutOfRange, tI_OutOfRange, Binds.all fun us hl => (match us, hl with | [_, _], _ => rfl),
      ⟨ga_OutOfRange, gg_OutOfRange, bb_OutOfRange, hd_OutOfRange⟩, ⟨by unfold PySem.W.clsIn; rw [lC_OutOfRange] <;> rfl, ga_OutOfRange, gg_OutOfRange, bb_OutOfRange, ca_OutOfRange, spS, tkS, ob_OutOfRange⟩, PySem.W.exm_ref bb_OutOfRange hd_OutOfRange ty_OutOfRange ss_OutOfRange⟩,
    nf_OutOfRange_name := nf_OutOfRange_name,
    Frame_down := ⟨_, _, F_Frame_down, F_Frame_down.binds fun _ _ _ _ _ _ us hl => match us, hl with | [_], _ => rfl, ⟨a_Frame_down, i_Frame_down, k_Frame_down⟩⟩,
    Frame_across := ⟨_, _, F_Frame_across, F_Frame_across.binds fun _ _ _ _ _ _ us hl => match us, hl with | [_], _ => rfl, ⟨a_Frame_across, i_Frame_across, k_Frame_across⟩⟩,
    Frame_tiles := ⟨_, _, F_Frame_tiles, F_Frame_tiles.binds fun _ _ _ _ _ _ us hl => match us, hl with | [_], _ => rfl, ⟨a_Frame_tiles, i_Frame_tiles, k_Frame_tiles⟩⟩,
    Frame_packets := ⟨_, _, F_Frame_packets, F_Frame_packets.binds fun _ _ _ _ _ _ us hl => match us, hl with | [_], _ => rfl, ⟨a_Frame_packets, i_Frame_packets, k_Frame_packets⟩⟩,
    key_at := ⟨_, _, F_key_at, PySem.W.mg_of X G a_key_at, F_key_at.binds fun _ _ _ _ _ _ us hl => match us, hl with | [_, _], _ => rfl⟩,
    all_keys := ⟨_, _, F_all_keys, PySem.W.mg_of X G a_all_keys, F_all_keys.binds fun _ _ _ _ _ _ us hl => match us, hl with | [_], _ => rfl⟩,
    tile_corner := ⟨_, _, F_tile_corner, PySem.W.mg_of X G a_tile_corner, F_tile_corner.binds fun _ _ _ _ _ _ us hl => match us, hl with | [_, _], _ => rfl⟩,
    tile_size := ⟨_, _, F_tile_size, PySem.W.mg_of X G a_tile_size, F_tile_size.binds fun _ _ _ _ _ _ us hl => match us, hl with | [_, _], _ => rfl⟩,
    touches := ⟨_, _, F_touches, PySem.W.mg_of X G a_touches, F_touches.binds fun _ _ _ _ _ _ us hl => match us, hl with | [_, _, _], _ => rfl⟩,
    boost := ⟨_, _, F_boost, PySem.W.mg_of X G a_boost, F_boost.binds fun _ _ _ _ _ _ us hl => match us, hl with | [_, _, _], _ => rfl⟩,
    all_scores := ⟨_, _, F_all_scores, PySem.W.mg_of X G a_all_scores, F_all_scores.binds fun _ _ _ _ _ _ us hl => match us, hl with | [_, _], _ => rfl⟩,
    check_range := ⟨_, _, F_check_range, PySem.W.mg_of X G a_check_range, F_check_range.binds fun _ _ _ _ _ _ us hl => match us, hl with | [_, _, _, _], _ => rfl⟩,
    check_sides := ⟨_, _, F_check_sides, PySem.W.mg_of X G a_check_sides, F_check_sides.binds fun _ _ _ _ _ _ us hl => match us, hl with | [_, _, _, _, _], _ => rfl⟩,
    check_regions := ⟨_, _, F_check_regions, PySem.W.mg_of X G a_check_regions, F_check_regions.binds fun _ _ _ _ _ _ us hl => match us, hl with | [_], _ => rfl⟩,
    bound := ⟨_, _, F_bound, PySem.W.mg_of X G a_bound, F_bound.binds fun _ _ _ _ _ _ us hl => match us, hl with | [_, _, _], _ => rfl⟩,
    law_told := ⟨_, _, F_law_told, PySem.W.mg_of X G a_law_told, F_law_told.binds fun _ _ _ _ _ _ us hl => match us, hl with | [_, _, _], _ => rfl⟩,
    law_is_int := ⟨_, _, F_law_is_int, PySem.W.mg_of X G a_law_is_int, F_law_is_int.binds fun _ _ _ _ _ _ us hl => match us, hl with | [_], _ => rfl⟩,
    law_mixed := ⟨_, _, F_law_mixed, PySem.W.mg_of X G a_law_mixed, F_law_mixed.binds fun _ _ _ _ _ _ us hl => match us, hl with | [_, _, _], _ => rfl⟩,
    law_numbers := ⟨_, _, F_law_numbers, PySem.W.mg_of X G a_law_numbers, F_law_numbers.binds fun _ _ _ _ _ _ us hl => match us, hl with | [_, _, _], _ => rfl⟩,
    law_cell := ⟨_, _, F_law_cell, PySem.W.mg_of X G a_law_cell, F_law_cell.binds fun _ _ _ _ _ _ us hl => match us, hl with | [_, _], _ => rfl⟩,
    law_order := ⟨_, _, F_law_order, PySem.W.mg_of X G a_law_order, F_law_order.binds fun _ _ _ _ _ _ us hl => match us, hl with | [_, _], _ => rfl⟩,
    law_pixels := ⟨_, _, F_law_pixels, PySem.W.mg_of X G a_law_pixels, F_law_pixels.binds fun _ _ _ _ _ _ us hl => match us, hl with | [_, _], _ => rfl⟩,
    law_touches := ⟨_, _, F_law_touches, PySem.W.mg_of X G a_law_touches, F_law_touches.binds fun _ _ _ _ _ _ us hl => match us, hl with | [_, _, _], _ => rfl⟩,
    law_tiles := ⟨_, _, F_law_tiles, PySem.W.mg_of X G a_law_tiles, F_law_tiles.binds fun _ _ _ _ _ _ us hl => match us, hl with | [_], _ => rfl⟩,
    law_boosts := ⟨_, _, F_law_boosts, PySem.W.mg_of X G a_law_boosts, F_law_boosts.binds fun _ _ _ _ _ _ us hl => match us, hl with | [_, _], _ => rfl⟩,
    law_plan := ⟨_, _, F_law_plan, PySem.W.mg_of X G a_law_plan, F_law_plan.binds fun _ _ _ _ _ _ us hl => match us, hl with | [_, _], _ => rfl⟩,
    law_regions := ⟨_, _, F_law_regions, PySem.W.mg_of X G a_law_regions, F_law_regions.binds fun _ _ _ _ _ _ us hl => match us, hl with | [_, _], _ => rfl⟩,
    check_size := ⟨_, _, F_check_size, PySem.W.mg_of X G a_check_size, F_check_size.binds fun _ _ _ _ _ _ us hl => match us, hl with | [_, _, _], _ => rfl⟩,
    check_kind := ⟨_, _, F_check_kind, PySem.W.mg_of X G a_check_kind, F_check_kind.binds fun _ _ _ _ _ _ us hl => match us, hl with | [_, _, _, _], _ => rfl⟩,
    Frame___init__ := ⟨_, _, F_Frame___init__, F_Frame___init__.binds fun _ _ _ _ _ _ us hl => match us, hl with | [_, _, _, _, _, _], _ => rfl, ⟨a_Frame___init__, i_Frame___init__, k_Frame___init__⟩⟩,
    law_frame := ⟨_, _, F_law_frame, PySem.W.mg_of X G a_law_frame, F_law_frame.binds fun _ _ _ _ _ _ us hl => match us, hl with | [_], _ => rfl⟩,
    law_sizes := ⟨_, _, F_law_sizes, PySem.W.mg_of X G a_law_sizes, F_law_sizes.binds fun _ _ _ _ _ _ us hl => match us, hl with | [_, _], _ => rfl⟩,
    law := ⟨_, _, F_law, PySem.W.mg_of X G a_law, F_law.binds fun _ _ _ _ _ _ us hl => match us, hl with | [_], _ => rfl⟩,
    n_abs := PySem.W.mg_none_of X G n_abs,
    n_bool := PySem.W.mg_none_of X G n_bool,
    n_divmod := PySem.W.mg_none_of X G n_divmod,
    n_int := PySem.W.mg_none_of X G n_int,
    n_isinstance := PySem.W.mg_none_of X G n_isinstance,
    n_len := PySem.W.mg_none_of X G n_len,
    n_max := PySem.W.mg_none_of X G n_max,
    n_min := PySem.W.mg_none_of X G n_min,
    n_range := PySem.W.mg_none_of X G n_range,
    n_sorted := PySem.W.mg_none_of X G n_sorted,
    t_BOOST_MOST := t_BOOST_MOST,
    c_BOOST_MOST := PySem.W.mg_of X G c_BOOST_MOST,
    t_DEPTH_MOST := t_DEPTH_MOST,
    c_DEPTH_MOST := PySem.W.mg_of X G c_DEPTH_MOST,
    t_REGIONS_MOST := t_REGIONS_MOST,
    c_REGIONS_MOST := PySem.W.mg_of X G c_REGIONS_MOST,
    t_SIDE_MOST := t_SIDE_MOST,
    c_SIDE_MOST := PySem.W.mg_of X G c_SIDE_MOST,
    t_TILE_MOST := t_TILE_MOST,
    c_TILE_MOST := PySem.W.mg_of X G c_TILE_MOST,
    t_VALUES_MOST := t_VALUES_MOST,
    c_VALUES_MOST := PySem.W.mg_of X G c_VALUES_MOST }⟩
theorem walk {l : PySem.W.OpenLaw} {q : Program} {loose : List Str} {XP : (Str → Option Value) → Heap → Prop} {YP : World → Heap → Prop} {d : DefRec} {K : Params → PySem.W.Frag} (hn : l.most = some 63) (hdf : d.params.defaults = [])
    (hY : ∀ (w : World) (h : Heap), YP w h → (K w.params).In h)
    (F : ∀ (w : World) (mg : Str → Option Value) (fa : Addr) (h : Heap), (K w.params).In h → h.Ns mainGlobals mg → mg d.name = some (.ref fa) →
      ∃ fd : FuncData, (∀ (s : Shared) (u : Value), BindsTo s fd ⟨[u], []⟩ [("script", u)]) ∧ ∀ base : Heap, (K w.params).In base → base.Ns mainGlobals mg → FnOk l.prog w (K w.params) mg base CX0 9 fa fd ["script"] (spLaw (K w.params))) :
    PySem.W.WalkO q loose XP YP l.row.toRowW d [] (fun f vs => PySem.call f vs) :=
  L2.walk_ofB (n := 63) (k := 9) (x := "script") (CX := fun _ => CX0) (sp := fun w => spLaw (K w.params)) hn (by decide) hdf ⟨rfl, by decide, by decide⟩ hY F (fun _ _ a ns hl hb _ hS => ⟨a, ns, rfl, hS, hl, hb, fun _ => rfl⟩) fun _ _ _ _ _ z => z
end My
open PySem PySem.W PyProof.Rows
set_option maxRecDepth 100000 in
set_option maxHeartbeats 0 in
theorem PySem.Challenge.cw_packetpicture_k45_bound_of_a_plan_holds : PySem.Challenge.rw_packetpicture_k45_bound_of_a_plan.Holds := by
  w_on; o_law; k_head; (case hw => w_witness2)
  k_fill
  refine My.walk (l := PySem.Challenge.rw_packetpicture_k45_bound_of_a_plan) rfl rfl (fun w h Y => PySem.W.kIn_of Y) ?F
  case F =>
    intro w mg fa h KX G hmg
    refine' My.all_mk KX G hmg ?g_Frame ?pg_Frame ?hd_Frame ?po_Frame ?sa_Frame ?mk_Frame ?kc_Frame ?na_Frame_width ?na_Frame_height ?na_Frame_depth ?na_Frame_channels ?na_Frame_tile ?topS ?nsS ?opS ?spS ?tkS ?g_OutOfRange ?lC_OutOfRange ?rv_OutOfRange ?sa_OutOfRange ?bb_OutOfRange ?ty_OutOfRange ?kC_OutOfRange ?iC_OutOfRange ?tI_OutOfRange ?lf_OutOfRange ?cf_OutOfRange ?lcd_OutOfRange ?vs2_OutOfRange ?fil_OutOfRange ?lcc_OutOfRange ?su_OutOfRange ?sup_OutOfRange ?isV_OutOfRange ?ga_OutOfRange ?gg_OutOfRange ?ca_OutOfRange ?ob_OutOfRange ?hd_OutOfRange ?ss_OutOfRange ?nf_OutOfRange_name ?a_Frame_down ?i_Frame_down ?l_Frame_down ?c_Frame_down ?k_Frame_down ?a_Frame_across ?i_Frame_across ?l_Frame_across ?c_Frame_across ?k_Frame_across ?a_Frame_tiles ?i_Frame_tiles ?l_Frame_tiles ?c_Frame_tiles ?k_Frame_tiles ?a_Frame_packets ?i_Frame_packets ?l_Frame_packets ?c_Frame_packets ?k_Frame_packets ?a_key_at ?l_key_at ?c_key_at ?k_key_at ?a_all_keys ?l_all_keys ?c_all_keys ?k_all_keys ?a_tile_corner ?l_tile_corner ?c_tile_corner ?k_tile_corner ?a_tile_size ?l_tile_size ?c_tile_size ?k_tile_size ?a_touches ?l_touches ?c_touches ?k_touches ?a_boost ?l_boost ?c_boost ?k_boost ?a_all_scores ?l_all_scores ?c_all_scores ?k_all_scores ?a_check_range ?l_check_range ?c_check_range ?k_check_range ?a_check_sides ?l_check_sides ?c_check_sides ?k_check_sides ?a_check_regions ?l_check_regions ?c_check_regions ?k_check_regions ?a_bound ?l_bound ?c_bound ?k_bound ?a_law_told ?l_law_told ?c_law_told ?k_law_told ?a_law_is_int ?l_law_is_int ?c_law_is_int ?k_law_is_int ?a_law_mixed ?l_law_mixed ?c_law_mixed ?k_law_mixed ?a_law_numbers ?l_law_numbers ?c_law_numbers ?k_law_numbers ?a_law_cell ?l_law_cell ?c_law_cell ?k_law_cell ?a_law_order ?l_law_order ?c_law_order ?k_law_order ?a_law_pixels ?l_law_pixels ?c_law_pixels ?k_law_pixels ?a_law_touches ?l_law_touches ?c_law_touches ?k_law_touches ?a_law_tiles ?l_law_tiles ?c_law_tiles ?k_law_tiles ?a_law_boosts ?l_law_boosts ?c_law_boosts ?k_law_boosts ?a_law_plan ?l_law_plan ?c_law_plan ?k_law_plan ?a_law_regions ?l_law_regions ?c_law_regions ?k_law_regions ?a_check_size ?l_check_size ?c_check_size ?k_check_size ?a_check_kind ?l_check_kind ?c_check_kind ?k_check_kind ?a_Frame___init__ ?i_Frame___init__ ?l_Frame___init__ ?c_Frame___init__ ?k_Frame___init__ ?a_law_frame ?l_law_frame ?c_law_frame ?k_law_frame ?a_law_sizes ?l_law_sizes ?c_law_sizes ?k_law_sizes ?a_law ?l_law ?c_law ?k_law ?n_abs ?n_bool ?n_divmod ?n_int ?n_isinstance ?n_len ?n_max ?n_min ?n_range ?n_sorted ?c_BOOST_MOST ?c_DEPTH_MOST ?c_REGIONS_MOST ?c_SIDE_MOST ?c_TILE_MOST ?c_VALUES_MOST
    (case g_Frame => k_is)
    (case pg_Frame => k_is)
    (case hd_Frame => k_is)
    (case po_Frame => k_is)
    (case sa_Frame => k_is)
    (case mk_Frame => k_is)
    (case kc_Frame => k_is)
    (case na_Frame_width => k_is)
    (case na_Frame_height => k_is)
    (case na_Frame_depth => k_is)
    (case na_Frame_channels => k_is)
    (case na_Frame_tile => k_is)
    (case topS => first | rfl | decide +kernel)
    (case nsS => k_is)
    (case opS => k_is)
    (case spS => k_is)
    (case tkS => k_is)
    (case g_OutOfRange => k_is)
    (case lC_OutOfRange => k_is)
    (case rv_OutOfRange => first | rfl | decide +kernel)
    (case sa_OutOfRange => k_is)
    (case bb_OutOfRange => k_is)
    (case ty_OutOfRange => k_is)
    (case kC_OutOfRange => k_is)
    (case iC_OutOfRange => k_is)
    (case tI_OutOfRange => k_is)
    (case lf_OutOfRange => k_is)
    (case cf_OutOfRange => k_is)
    (case lcd_OutOfRange => k_is)
    (case vs2_OutOfRange => first | rfl | decide +kernel)
    (case fil_OutOfRange => first | rfl | decide +kernel)
    (case lcc_OutOfRange => k_is)
    (case su_OutOfRange => k_is)
    (case sup_OutOfRange => ks_is)
    (case isV_OutOfRange => k_is)
    (case ga_OutOfRange => k_is)
    (case gg_OutOfRange => k_is)
    (case ca_OutOfRange => k_is)
    (case ob_OutOfRange => k_is)
    (case hd_OutOfRange => k_is)
    (case ss_OutOfRange => first | rfl | k_is)
    (case nf_OutOfRange_name => k_is)
    (case a_Frame_down => k_is)
    (case i_Frame_down => k_is)
    (case l_Frame_down => k_is)
    (case c_Frame_down => k_is)
    (case k_Frame_down => k_is)
    (case a_Frame_across => k_is)
    (case i_Frame_across => k_is)
    (case l_Frame_across => k_is)
    (case c_Frame_across => k_is)
    (case k_Frame_across => k_is)
    (case a_Frame_tiles => k_is)
    (case i_Frame_tiles => k_is)
    (case l_Frame_tiles => k_is)
    (case c_Frame_tiles => k_is)
    (case k_Frame_tiles => k_is)
    (case a_Frame_packets => k_is)
    (case i_Frame_packets => k_is)
    (case l_Frame_packets => k_is)
    (case c_Frame_packets => k_is)
    (case k_Frame_packets => k_is)
    (case a_key_at => k_is)
    (case l_key_at => k_is)
    (case c_key_at => k_is)
    (case k_key_at => k_is)
    (case a_all_keys => k_is)
    (case l_all_keys => k_is)
    (case c_all_keys => k_is)
    (case k_all_keys => k_is)
    (case a_tile_corner => k_is)
    (case l_tile_corner => k_is)
    (case c_tile_corner => k_is)
    (case k_tile_corner => k_is)
    (case a_tile_size => k_is)
    (case l_tile_size => k_is)
    (case c_tile_size => k_is)
    (case k_tile_size => k_is)
    (case a_touches => k_is)
    (case l_touches => k_is)
    (case c_touches => k_is)
    (case k_touches => k_is)
    (case a_boost => k_is)
    (case l_boost => k_is)
    (case c_boost => k_is)
    (case k_boost => k_is)
    (case a_all_scores => k_is)
    (case l_all_scores => k_is)
    (case c_all_scores => k_is)
    (case k_all_scores => k_is)
    (case a_check_range => k_is)
    (case l_check_range => k_is)
    (case c_check_range => k_is)
    (case k_check_range => k_is)
    (case a_check_sides => k_is)
    (case l_check_sides => k_is)
    (case c_check_sides => k_is)
    (case k_check_sides => k_is)
    (case a_check_regions => k_is)
    (case l_check_regions => k_is)
    (case c_check_regions => k_is)
    (case k_check_regions => k_is)
    (case a_bound => k_is)
    (case l_bound => k_is)
    (case c_bound => k_is)
    (case k_bound => k_is)
    (case a_law_told => k_is)
    (case l_law_told => k_is)
    (case c_law_told => k_is)
    (case k_law_told => k_is)
    (case a_law_is_int => k_is)
    (case l_law_is_int => k_is)
    (case c_law_is_int => k_is)
    (case k_law_is_int => k_is)
    (case a_law_mixed => k_is)
    (case l_law_mixed => k_is)
    (case c_law_mixed => k_is)
    (case k_law_mixed => k_is)
    (case a_law_numbers => k_is)
    (case l_law_numbers => k_is)
    (case c_law_numbers => k_is)
    (case k_law_numbers => k_is)
    (case a_law_cell => k_is)
    (case l_law_cell => k_is)
    (case c_law_cell => k_is)
    (case k_law_cell => k_is)
    (case a_law_order => k_is)
    (case l_law_order => k_is)
    (case c_law_order => k_is)
    (case k_law_order => k_is)
    (case a_law_pixels => k_is)
    (case l_law_pixels => k_is)
    (case c_law_pixels => k_is)
    (case k_law_pixels => k_is)
    (case a_law_touches => k_is)
    (case l_law_touches => k_is)
    (case c_law_touches => k_is)
    (case k_law_touches => k_is)
    (case a_law_tiles => k_is)
    (case l_law_tiles => k_is)
    (case c_law_tiles => k_is)
    (case k_law_tiles => k_is)
    (case a_law_boosts => k_is)
    (case l_law_boosts => k_is)
    (case c_law_boosts => k_is)
    (case k_law_boosts => k_is)
    (case a_law_plan => k_is)
    (case l_law_plan => k_is)
    (case c_law_plan => k_is)
    (case k_law_plan => k_is)
    (case a_law_regions => k_is)
    (case l_law_regions => k_is)
    (case c_law_regions => k_is)
    (case k_law_regions => k_is)
    (case a_check_size => k_is)
    (case l_check_size => k_is)
    (case c_check_size => k_is)
    (case k_check_size => k_is)
    (case a_check_kind => k_is)
    (case l_check_kind => k_is)
    (case c_check_kind => k_is)
    (case k_check_kind => k_is)
    (case a_Frame___init__ => k_is)
    (case i_Frame___init__ => k_is)
    (case l_Frame___init__ => k_is)
    (case c_Frame___init__ => k_is)
    (case k_Frame___init__ => k_is)
    (case a_law_frame => k_is)
    (case l_law_frame => k_is)
    (case c_law_frame => k_is)
    (case k_law_frame => k_is)
    (case a_law_sizes => k_is)
    (case l_law_sizes => k_is)
    (case c_law_sizes => k_is)
    (case k_law_sizes => k_is)
    (case a_law => k_is)
    (case l_law => k_is)
    (case c_law => k_is)
    (case k_law => k_is)
    (case n_abs => k_is)
    (case n_bool => k_is)
    (case n_divmod => k_is)
    (case n_int => k_is)
    (case n_isinstance => k_is)
    (case n_len => k_is)
    (case n_max => k_is)
    (case n_min => k_is)
    (case n_range => k_is)
    (case n_sorted => k_is)
    (case c_BOOST_MOST => k_is)
    (case c_DEPTH_MOST => k_is)
    (case c_REGIONS_MOST => k_is)
    (case c_SIDE_MOST => k_is)
    (case c_TILE_MOST => k_is)
    (case c_VALUES_MOST => k_is)
