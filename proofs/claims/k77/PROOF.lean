import PyProof.Rows.All
import Wide.All
import OpenK.AllK
import Wide.FinOn
import HandS.ForMost
import HandS.EndBits
import HandS.IsInst
import HandS.Conv
import HandS.RevRange
import HandS.Walk
import HandS.Wide
import HandS.Codes
import HandS.ForExc
import HandS.ExcInit
import HandS.ExcSuper
import KE.KSuper
import KE.RegKSuper
import KE.KExcSuper
import KE.KExcIs
import HandS.ExcField
import HandS.ExcIs
import HandS.FStr
import KE.RegKIsAll
import HandS.ForExc
import HandS.NoneIn
import HandS.FStr
import HandS.IntHex
import KE.IntTextLaws
import KE.KIntText
import PyProof.Rows.StrMul
import PyProof.StrBlock2
import PySem.Challenge.RW_packetpicture_k77_torn_blocks_are_told
set_option Elab.async false
set_option linter.all false
set_option maxRecDepth 100000
set_option maxHeartbeats 4000000
set_option exponentiation.threshold 4000
/-! Steps of a reading, one lemma a construct; `walk_at "go"` tries them one after another. -/
namespace Gx
open PySem L2
section
variable {K : PySem.W.Frag} {σ : L2.St} {H : Hp} {Q : VK} {D : Ends} {ta tb te to ti tv : TE} {t u : TT} {tr : TA} {tu tw : TS} {x y z v : V} {i j : Int} {B : Bool → Hp → Prop} {A1 A2 : Prop} {b : Bool}
/-- a test's answer; a branch -/
def TB (x : V) (H : Hp) (Q : Bool → Hp → Prop) : Prop := ∃ k, x = .bl k ∧ Q k H
def IfP (c : Bool) (A B : Prop) : Prop := if c = true then A else B
theorem tB_ (q : TB (.bl b) H B ) : TB (.bl b) H B := q
theorem tb_go (q : B b H) : TB (.bl b) H B := ⟨b, rfl, q⟩
theorem if_t (q : A1) : IfP true A1 A2 := by unfold IfP; rw [if_pos rfl]; exact q
theorem if_f (q : A2) : IfP false A1 A2 := by unfold IfP; rw [if_neg Bool.false_ne_true]; exact q
theorem if_nt (q : A2) : IfP (!true) A1 A2 := if_f q
theorem if_nf (q : A1) : IfP (!false) A1 A2 := if_t q
theorem if_y {c : Bool} (h : c = true) (q : A1) : IfP c A1 A2 := by subst h; exact if_t q
theorem if_n {c : Bool} (h : c = false) (q : A2) : IfP c A1 A2 := by subst h; exact if_f q
theorem if_b {c : Bool} (q1 : c = true → A1) (q2 : c = false → A2) : IfP c A1 A2 := by
  cases c with
  | true => exact if_t (q1 rfl)
  | false => exact if_f (q2 rfl)
theorem if_d {p : Prop} [Decidable p] (q1 : p → A1) (q2 : ¬ p → A2) : IfP (decide p) A1 A2 := if_b (fun h => q1 (of_decide_eq_true h)) (fun h => q2 (of_decide_eq_false h))
theorem if_dn {p : Prop} [Decidable p] (q1 : ¬ p → A1) (q2 : p → A2) : IfP (!decide p) A1 A2 := by
  by_cases h : p
  · rw [decide_eq_true h]; exact if_f (q2 h)
  · rw [decide_eq_false h]; exact if_t (q1 h)
theorem if_andc {c d : Bool} {X : Prop} {B : Bool → Hp → Prop} {H : Hp} (h : B d H → X) (q : B (c && d) H) : IfP c X (B false H) := by
  cases c with
  | true => exact if_t (h q)
  | false => exact if_f q
theorem if_andf {c : Bool} (h : c = true → A2 → A1) (q : A2) : IfP c A1 A2 := by
  cases c with
  | true => exact if_t (h rfl q)
  | false => exact if_f q
theorem if_orc {c d : Bool} {X : Prop} {B : Bool → Hp → Prop} {H : Hp} (h : B d H → X) (q : B (c || d) H) : IfP c (B true H) X := by
  cases c with
  | true => exact if_t q
  | false => exact if_f (h q)
theorem if_dy {p : Prop} [Decidable p] (h : p) (q : A1) : IfP (decide p) A1 A2 := if_y (decide_eq_true h) q
theorem if_dno {p : Prop} [Decidable p] (h : ¬ p) (q : A2) : IfP (decide p) A1 A2 := if_n (decide_eq_false h) q
theorem if_two {c : Bool} {x y : Int} {σ : L2.St} {H : Hp} {Q' : VK} (q : ∀ n, (n = x ∨ n = y) → Q' (.int n) H) : IfP c (tC (.int x) σ H Q') (tC (.int y) σ H Q') := if_b (fun _ => q x (.inl rfl)) (fun _ => q y (.inr rfl))
/-- names, constants -/
theorem var {i : Nat} (h : σ[i]? = some (some v)) (q : Q v H) : tVar i σ H Q := ⟨v, h, q⟩
theorem cst (q : Q v H) : tC v σ H Q := q
/-- operators -/
theorem op {r : R2} (q : ta σ H fun x H1 => tb σ H1 fun y H2 => r x y H2 Q) : tOp r ta tb σ H Q := q
theorem un {r : V → Hp → VK → Prop} (q : ta σ H fun x H1 => r x H1 Q) : tUn r ta σ H Q := q
theorem i0 {g : Int → Int → V} (q : Q (g i j) H) : rI0 g (.int i) (.int j) H Q := ⟨i, j, rfl, rfl, q⟩
theorem ic {C : Int → Int → Prop} {g : Int → Int → V} (c : C i j) (q : Q (g i j) H) : rI C g (.int i) (.int j) H Q := ⟨i, j, rfl, rfl, c, q⟩
theorem uu {g : Int → V} (q : Q (g i) H) : rU g (.int i) H Q := ⟨i, rfl, q⟩
theorem eqv (q : Q (.bl (decide (x = y))) H) (h : scal x y = true := by rfl) : rEq x y H Q := ⟨h, q⟩
theorem nev (q : Q (.bl (!decide (x = y))) H) (h : scal x y = true := by rfl) : rNe x y H Q := ⟨h, q⟩
theorem eqI {p : Int} {q' : Int} : decide (V.int p = V.int q') = decide (p = q') := by simp
theorem eqS {p q' : Str} : decide (V.str p = V.str q') = decide (p = q') := by simp
theorem eqvI (q : Q (.bl (decide (i = j))) H) : rEq (.int i) (.int j) H Q := eqv (by rw [eqI]; exact q)
theorem nevI (q : Q (.bl (!decide (i = j))) H) : rNe (.int i) (.int j) H Q := nev (by rw [eqI]; exact q)
theorem eqvS {a b : Str} (q : Q (.bl (decide (a = b))) H) : rEq (.str a) (.str b) H Q := eqv (by rw [eqS]; exact q)
theorem nevS {a b : Str} (q : Q (.bl (!decide (a = b))) H) : rNe (.str a) (.str b) H Q := nev (by rw [eqS]; exact q)
/-- tests -/
theorem test (q : te σ H fun x H1 => TB x H1 B) : tTest te σ H B := q
theorem tB (q : te σ H fun x H1 => TB x H1 B) : L2.tB te σ H B := q
theorem and_ (q : t σ H fun c H1 => IfP c (u σ H1 B) (B false H1)) : tAnd t u σ H B := q
theorem or_ (q : t σ H fun c H1 => IfP c (B true H1) (u σ H1 B)) : tOr t u σ H B := q
theorem not_ (q : t σ H fun c H1 => B (!c) H1) : tNot t σ H B := q
theorem ifx (q : t σ H fun c H1 => IfP c (ta σ H1 Q) (tb σ H1 Q)) : tIf t ta tb σ H Q := q
/-- and, or, not as values -/
def BV (x : V) (H : Hp) (Q : Bool → Hp → Prop) : Prop := ∃ c, x = .bl c ∧ Q c H
theorem bv_go (q : B b H) : BV (.bl b) H B := ⟨b, rfl, q⟩
theorem andV (q : ta σ H fun x H1 => BV x H1 fun c H1 => IfP c (tb σ H1 Q) (Q (.bl false) H1)) : tAndV ta tb σ H Q := q
theorem orV (q : ta σ H fun x H1 => BV x H1 fun c H1 => IfP c (Q (.bl true) H1) (tb σ H1 Q)) : tOrV ta tb σ H Q := q
theorem notV (q : ta σ H fun x H1 => BV x H1 fun c H1 => Q (.bl (!c)) H1) : tNotV ta σ H Q := q
/-- or, and as values, both sides looked at without a change: one answer for what follows -/
def tOrW (ta tb : TE) : TE := tOrV ta tb
def tAndW (ta tb : TE) : TE := tAndV ta tb
theorem pe_orW {X : Cx} {e : Expr} (h : PE X e (tOrV ta tb)) : PE X e (tOrW ta tb) := h
theorem pe_andW {X : Cx} {e : Expr} (h : PE X e (tAndV ta tb)) : PE X e (tAndW ta tb) := h
def OrP (c : Bool) (tb : TE) (σ : L2.St) (H : Hp) (Q : VK) : Prop := if c = true then Q (.bl true) H else tb σ H Q
def AndP (c : Bool) (tb : TE) (σ : L2.St) (H : Hp) (Q : VK) : Prop := if c = true then tb σ H Q else Q (.bl false) H
theorem orW (q : ta σ H fun x H1 => BV x H1 fun c H1 => OrP c tb σ H1 Q) : tOrW ta tb σ H Q := q
theorem andW (q : ta σ H fun x H1 => BV x H1 fun c H1 => AndP c tb σ H1 Q) : tAndW ta tb σ H Q := q
theorem orp {c d : Bool} (h : ∀ R : VK, R (.bl d) H → tb σ H R) (q : Q (.bl (c || d)) H) : OrP c tb σ H Q := by
  cases c with
  | true => exact q
  | false => exact h _ q
theorem andp {c d : Bool} (h : ∀ R : VK, R (.bl d) H → tb σ H R) (q : Q (.bl (c && d)) H) : AndP c tb σ H Q := by
  cases c with
  | true => exact h _ q
  | false => exact q
/-- methods of texts -/
def M1P (te : TE) (r : V → List V → Hp → VK → Prop) (σ : L2.St) (x : V) (H : Hp) (Q : VK) : Prop := (∃ a, x = .str a) ∧ te σ H fun y H2 => r x [y] H2 Q
theorem m1 {r : V → List V → Hp → VK → Prop} (q : ta σ H fun x H1 => M1P te r σ x H1 Q) : tM1 r ta te σ H Q := q
theorem m1s {r : V → List V → Hp → VK → Prop} {z : Str} (q : te σ H fun y H2 => r (.str z) [y] H2 Q) : M1P te r σ (.str z) H Q := ⟨⟨z, rfl⟩, q⟩
/-- argument lists, displays -/
theorem nil {R : List V → Hp → Prop} (q : R [] H) : tNil σ H R := q
theorem cons {R : List V → Hp → Prop} (q : ta σ H fun x H1 => tr σ H1 fun xs H2 => R (x :: xs) H2) : tCons ta tr σ H R := q
/-- a new object -/
def NewP (H : Hp) (o : HO) (Q : VK) : Prop := ∀ p, H p = none → Q (.ref p) (upd H p o)
def LstP (xs : List V) (H : Hp) (Q : VK) : Prop := xs.length ≤ sizeLine ∧ NewP H (.lst xs) Q
def TupP (xs : List V) (H : Hp) (Q : VK) : Prop := xs.length ≤ sizeLine ∧ NewP H (.tup xs) Q
theorem lst (q : tr σ H fun xs H1 => LstP xs H1 Q) : tLst tr σ H Q := q
theorem tup (q : tr σ H fun xs H1 => TupP xs H1 Q) : tTup tr σ H Q := q
theorem lstP {xs : List V} (h : xs.length ≤ sizeLine) (q : ∀ p, H p = none → Q (.ref p) (upd H p (.lst xs))) : LstP xs H Q := ⟨h, q⟩
theorem tupP {xs : List V} (h : xs.length ≤ sizeLine) (q : ∀ p, H p = none → Q (.ref p) (upd H p (.tup xs))) : TupP xs H Q := ⟨h, q⟩
/-- calls -/
def CP (sp : Sp) (vs dvs : List V) (H : Hp) (Q : VK) (E : XK) : Prop := sp (vs ++ dvs) H Q E
theorem call {sp : Sp} {dvs : List V} {E : XK} (q : tr σ H fun vs H1 => CP sp vs dvs H1 Q E) : tCall sp dvs E tr σ H Q := q
theorem cb {r : List V → Hp → VK → Prop} (q : tr σ H fun vs H1 => r vs H1 Q) : tCB r tr σ H Q := q
/-- statements -/
theorem seq (q : tu { D with nx := tw D } σ H) : tSeq tu tw D σ H := q
theorem next (q : D.nx σ H) : tNext D σ H := q
theorem ret (q : te σ H D.rt) : tRet te D σ H := q
theorem retN (q : D.rt .non H) : tRetN D σ H := q
theorem drop (q : te σ H fun _ H1 => D.nx σ H1) : tDrop te D σ H := q
theorem asg {g : TG} (q : te σ H fun x H1 => g x σ H1 D.nx) : tAsg te g D σ H := q
theorem name {i : Nat} {R : L2.St → Hp → Prop} (q : R (σ.set i (some v)) H) : gName i v σ H R := q
theorem ifs {c : TT} (q : c σ H fun b H1 => IfP b (tu D σ H1) (tw D σ H1)) : tIfS c tu tw D σ H := q
theorem brk (q : D.bk σ H) : tBreak D σ H := q
theorem cnt (q : D.ct σ H) : tCont D σ H := q
def AugP (i : Nat) (x y : V) (ip : TIp) (D : Ends) (σ : L2.St) (H : Hp) : Prop := ip x y H fun z H2 => D.nx (σ.set i (some z)) H2
theorem aug {i : Nat} {tip : TIp} (h : σ[i]? = some (some x)) (q : te σ H fun y H1 => AugP i x y tip D σ H1) : tAug i te tip D σ H := ⟨x, h, q⟩
theorem augI {n : Nat} {f : Int → Int → Int} (q : D.nx (σ.set n (some (.int (f i j)))) H) : AugP n (.int i) (.int j) (ipI f) D σ H := ⟨i, j, rfl, rfl, q⟩
/-- loops: what walks (FW), for a range -/
def FW (J : It) (g : TG) (tb : TS) (D : Ends) (σ : L2.St) (H : Hp) : Prop := ∃ W : Nat → Nat → L2.St → Hp → Prop, (∃ m, W 0 m σ H) ∧ ∀ i m σ H, W i m σ H →
  (J.stop i H ∧ D.nx σ H) ∨ (J.go i H ∧ ∃ N : L2.St → Hp → Prop, (∀ σ' H', N σ' H' → ∃ m', m' < m ∧ W (i + 1) m' σ' H') ∧ ∀ x H', J.yld i H x H' → g x σ H' fun σ2 H2 => tb { D with nx := N, ct := N, bk := D.nx } σ2 H2)
theorem for_ {wi : TI} {g : TG} (q : wi σ H fun J H1 => FW J g tu D σ H1) : tFor wi g tu D σ H := q
def R1P (vs : List V) (H : Hp) (R : It → Hp → Prop) : Prop := ∃ j : Int, vs = [.int j] ∧ -(2 ^ 62) ≤ j ∧ j < 2 ^ 62 ∧ R (Itr 0 j.toNat) H
def R2P (vs : List V) (H : Hp) (R : It → Hp → Prop) : Prop := ∃ i j : Int, vs = [.int i, .int j] ∧ (-(2 ^ 62) ≤ i ∧ i < 2 ^ 62 ∧ -(2 ^ 62) ≤ j ∧ j < 2 ^ 62) ∧ R (Itr i (j - i).toNat) H
theorem rng1 {R : It → Hp → Prop} (q : tr σ H fun vs H1 => R1P vs H1 R) : iRng1 tr σ H R := q
theorem rng2 {R : It → Hp → Prop} (q : tr σ H fun vs H1 => R2P vs H1 R) : iRng2 tr σ H R := q
def R3P (vs : List V) (H : Hp) (R : It → Hp → Prop) : Prop := ∃ (i j c : Int) (n : Nat), vs = [.int i, .int j, .int c] ∧ RgC i j c n ∧ R (Itc i c n) H
theorem rng3 {R : It → Hp → Prop} (q : tr σ H fun vs H1 => R3P vs H1 R) : iRng3 tr σ H R := q
theorem r3 {R : It → Hp → Prop} {c : Int} {n : Nat} (h : RgC i j c n) (q : R (Itc i c n) H) : R3P [.int i, .int j, .int c] H R := ⟨i, j, c, n, rfl, h, q⟩
theorem r1 {R : It → Hp → Prop} (h1 : -(2 ^ 62) ≤ j) (h2 : j < 2 ^ 62) (q : R (Itr 0 j.toNat) H) : R1P [.int j] H R := ⟨j, rfl, h1, h2, q⟩
theorem r2 {R : It → Hp → Prop} (h1 : -(2 ^ 62) ≤ i ∧ i < 2 ^ 62 ∧ -(2 ^ 62) ≤ j ∧ j < 2 ^ 62) (q : R (Itr i (j - i).toNat) H) : R2P [.int i, .int j] H R := ⟨i, j, rfl, h1, q⟩
theorem fwR {lo : Int} {n : Nat} {g : TG} (Pv : Nat → L2.St → Hp → Prop) (h0 : Pv 0 σ H) (hs : ∀ i σ H, i < n → Pv i σ H → g (.int (lo + i)) σ H fun σ2 H2 => tu { D with nx := Pv (i + 1), ct := Pv (i + 1), bk := D.nx } σ2 H2) (hd : ∀ σ H, Pv n σ H → D.nx σ H) :
    FW (Itr lo n) g tu D σ H := for_range Pv h0 hs hd
def LP (K : PySem.W.Frag) (x : V) (H : Hp) (R : It → Hp → Prop) : Prop := ∃ a, x = .ref a ∧ (∃ xs, SqL K H a xs) ∧ R (Itl K a) H
theorem lwk {R : It → Hp → Prop} (q : te σ H fun x H1 => LP K x H1 R) : iList K te σ H R := q
theorem lp {a : Addr} {xs : List V} {R : It → Hp → Prop} (h : SqL K H a xs) (q : R (Itl K a) H) : LP K (.ref a) H R := ⟨a, rfl, ⟨xs, h⟩, q⟩
theorem fwL {a : Addr} {g : TG} (xs : List V) (Pv : Nat → L2.St → Hp → Prop) (h0 : Pv 0 σ H) (hl : ∀ i σ H, i ≤ xs.length → Pv i σ H → SqL K H a xs)
    (hs : ∀ i x σ H, xs[i]? = some x → Pv i σ H → g x σ H fun σ2 H2 => tu { D with nx := Pv (i + 1), ct := Pv (i + 1), bk := D.nx } σ2 H2) (hd : ∀ σ H, Pv xs.length σ H → D.nx σ H) : FW (Itl K a) g tu D σ H := for_list Pv h0 hl hs hd
/-- built-in functions, under names of their own -/
def rInt1 : List V → Hp → VK → Prop := fun xs H Q => (∃ i, xs = [.int i] ∧ Q (.int i) H) ∨ ∃ k, xs = [.bl k] ∧ Q (.int (if k then 1 else 0)) H
def rAbs : List V → Hp → VK → Prop := fun xs H Q => ∃ i, xs = [.int i] ∧ Q (.int (if i < 0 then -i else i)) H
def rStrI : List V → Hp → VK → Prop := fun xs H Q => ∃ i, xs = [.int i] ∧ i.natAbs.log2 < 1920 ∧ Q (.str (toString i)) H
def rLen (K : PySem.W.Frag) : List V → Hp → VK → Prop := fun xs H Q => ∃ x n, xs = [x] ∧ LenV K x H n ∧ Q (.int n) H
theorem int1 (q : Q (.int i) H) : rInt1 [.int i] H Q := .inl ⟨i, rfl, q⟩
theorem intB {k : Bool} (q : Q (.int (if k then 1 else 0)) H) : rInt1 [.bl k] H Q := .inr ⟨k, rfl, q⟩
theorem abs1 (q : Q (.int (if i < 0 then -i else i)) H) : rAbs [.int i] H Q := ⟨i, rfl, q⟩
theorem strI (h : i.natAbs.log2 < 1920) (q : Q (.str (toString i)) H) : rStrI [.int i] H Q := ⟨i, rfl, h, q⟩
theorem lenS {s : Str} (h : s.length ≤ sizeLine) (q : Q (.int (s.length : Nat)) H) : rLen K [.str s] H Q := ⟨_, _, rfl, ⟨h, rfl⟩, q⟩
theorem lenL {p : Addr} {xs : List V} (h : SqL K H p xs) (q : Q (.int (xs.length : Nat)) H) : rLen K [.ref p] H Q := ⟨_, _, rfl, .inl ⟨_, h, rfl⟩, q⟩
theorem lenT {p : Addr} {xs : List V} (h : SqT K H p xs) (q : Q (.int (xs.length : Nat)) H) : rLen K [.ref p] H Q := ⟨_, _, rfl, .inr ⟨_, h, rfl⟩, q⟩
/-- xs[i], s[i] -/
theorem ixL {p : Addr} {xs : List V} (h : SqL K H p xs) (ha : atI xs i = some v) (q : Q v H) : rIx K (.ref p) (.int i) H Q := .inl ⟨p, xs, i, v, rfl, rfl, h, ha, q⟩
theorem ixT {p : Addr} {xs : List V} (h : SqT K H p xs) (ha : atI xs i = some v) (q : Q v H) : rIx K (.ref p) (.int i) H Q := .inr (.inl ⟨p, xs, i, v, rfl, rfl, h, ha, q⟩)
theorem ixS {s : Str} {c : Nat} (h : s.length ≤ sizeLine) (ha : atI s.cps.toList i = some c) (q : Q (.str ⟨#[c]⟩) H) : rIx K (.str s) (.int i) H Q := .inr (.inr ⟨s, i, c, rfl, rfl, h, ha, q⟩)
/-- a, b = t -/
theorem gtup {n : Nat} {a : Addr} {xs : List V} {tg : TGs} {R : L2.St → Hp → Prop} (h : SqT K H a xs) (hl : xs.length = n) (q : tg xs σ H R) : gTup K n tg (.ref a) σ H R := ⟨a, xs, rfl, h, hl, q⟩
theorem gcons {g : TG} {tg : TGs} {xs : List V} {R : L2.St → Hp → Prop} (q : g v σ H fun σ' H' => tg xs σ' H' R) : gCons g tg (v :: xs) σ H R := ⟨v, xs, rfl, q⟩
theorem gnil {R : L2.St → Hp → Prop} (q : R σ H) : gNil [] σ H R := ⟨rfl, q⟩
/-- n.bit_length() -/
def BiP (x : V) (H : Hp) (Q : VK) : Prop := ∃ i, x = .int i ∧ Q (.int (Builtin.Int.intBits i : Nat)) H
/-- o.f, o.f = v, o.m(..), C(..) -/
def FP (K : PySem.W.Frag) (f : Str) (x : V) (H : Hp) (Q : VK) : Prop := ∃ a C dx fs v, x = .ref a ∧ H a = some (.ins C dx fs) ∧ Cls K C ∧ NoAttr K C f ∧ fs.lookup f = some v ∧ Q v H
theorem fld {f : Str} (q : ta σ H fun x H1 => FP K f x H1 Q) : tFld K ta f σ H Q := q
theorem fp {f : Str} {a C dx : Addr} {fs : List (Str × V)} (h : H a = some (.ins C dx fs)) (c : Cls K C) (n : NoAttr K C f) (l : fs.lookup f = some v) (q : Q v H) : FP K f (.ref a) H Q := ⟨a, C, dx, fs, v, rfl, h, c, n, l, q⟩
def SFP (K : PySem.W.Frag) (f : Str) (y x : V) (D : Ends) (σ : L2.St) (H : Hp) : Prop := ∃ a C dx fs, x = .ref a ∧ H a = some (.ins C dx fs) ∧ Cls K C ∧ NoAttr K C f ∧ fs.length < 1000 ∧ D.nx σ (upd H a (.ins C dx (putF f y fs)))
theorem sfld {f : Str} (q : tv σ H fun y H1 => ta σ H1 fun x H2 => SFP K f y x D σ H2) : sFld K ta tv f D σ H := q
theorem sfp {f : Str} {a C dx : Addr} {fs gs : List (Str × V)} (h : H a = some (.ins C dx fs)) (c : Cls K C) (n : NoAttr K C f) (l : fs.length < 1000) (e : putF f y fs = gs) (q : D.nx σ (upd H a (.ins C dx gs))) : SFP K f y (.ref a) D σ H := ⟨a, C, dx, fs, rfl, h, c, n, l, by rw [e]; exact q⟩
theorem few {f : Str} {v : V} : ∀ {fs : List (Str × V)} {k : Nat}, fs.length ≤ k → (putF f v fs).length ≤ k + 1
  | [], k, _ => Nat.succ_le_succ (Nat.zero_le k)
  | (g, u) :: r, k, h => by
    unfold putF
    split
    · exact Nat.le_succ_of_le h
    · cases k with
      | zero => cases h
      | succ k => exact Nat.succ_le_succ (few (Nat.le_of_succ_le_succ h))
def MP (C : Addr) (m : Str) (sp : Sp) (dvs : List V) (E : XK) (t : TA) (σ : L2.St) (x : V) (H : Hp) (Q : VK) : Prop := ∃ a dx fs, x = .ref a ∧ H a = some (.ins C dx fs) ∧ fs.lookup m = none ∧ t σ H fun vs H2 => sp (x :: (vs ++ dvs)) H2 Q E
theorem meth {C : Addr} {m : Str} {sp : Sp} {dvs : List V} {E : XK} (q : ta σ H fun x H1 => MP C m sp dvs E tr σ x H1 Q) : tMeth C m sp dvs E ta tr σ H Q := q
theorem mp {C a dx : Addr} {m : Str} {sp : Sp} {dvs : List V} {E : XK} {fs : List (Str × V)} (h : H a = some (.ins C dx fs)) (n : fs.lookup m = none) (q : tr σ H fun vs H2 => CP sp (.ref a :: vs) dvs H2 Q E) : MP C m sp dvs E tr σ (.ref a) H Q := ⟨a, dx, fs, rfl, h, n, q⟩
def MkP (C : Addr) (sp : Sp) (vs dvs : List V) (H : Hp) (Q : VK) (E : XK) : Prop := ∀ x dx, H x = none → H dx = none → dx ≠ x → CP sp (.ref x :: vs) dvs (upd (upd H dx (.own x)) x (.ins C dx [])) (fun v H2 => v = .non ∧ Q (.ref x) H2) E
theorem make {C : Addr} {sp : Sp} {dvs : List V} {E : XK} (q : tr σ H fun vs H1 => MkP C sp vs dvs H1 Q E) : tMake C sp dvs E tr σ H Q := q
/-- [v] * n -/
def rRepN : R2 := fun x y H Q => ∃ l k xs, x = .ref l ∧ y = .int k ∧ H l = some (.lst xs) ∧ -(2 ^ 63) ≤ k ∧ k < 2 ^ 63 ∧ xs.length * k.toNat ≤ sizeLine ∧ ∀ p, H p = none → Q (.ref p) (upd H p (.lst (List.replicate k.toNat xs).flatten))
theorem repN {l : Addr} {n : Nat} (h : H l = some (.lst [v])) (hn : n ≤ 100000) (q : ∀ p, H p = none → Q (.ref p) (upd H p (.lst (List.replicate n v)))) : rRepN (.ref l) (.int (n : Int)) H Q :=
  ⟨l, n, [v], rfl, rfl, h, by omega, by omega, by rw [Int.toNat_natCast, sizeLine_eq]; show 1 * n ≤ _; omega, fun p hp => by
    rw [Int.toNat_natCast, show (List.replicate n [v]).flatten = List.replicate n v by simp]; exact q p hp⟩
/-- xs[i] op= e -/
def rGetN (K : PySem.W.Frag) : V → V → Hp → VK → Prop := fun x y H Q => ∃ (p : Addr) (xs : List V) (i : Nat) (v : V), x = .ref p ∧ y = .int (i : Int) ∧ SqL K H p xs ∧ i < 1000000 ∧ xs[i]? = some v ∧ Q v H
def AgP (tip : TIp) (tset : TSet) (o i x y : V) (D : Ends) (σ : L2.St) (H : Hp) : Prop := tip x y H fun z H5 => tset o i z H5 fun H6 => D.nx σ H6
theorem augS {tget : V → V → Hp → VK → Prop} {tip : TIp} {tset : TSet} (q : to σ H fun o H1 => ti σ H1 fun i H2 => tget o i H2 fun x H3 => te σ H3 fun y H4 => AgP tip tset o i x y D σ H4) : tAugS to ti te tget tip tset D σ H := q
theorem getN {p : Addr} {xs : List V} {i : Nat} (h : SqL K H p xs) (hi : i < 1000000) (hx : xs[i]? = some v) (q : Q v H) : rGetN K (.ref p) (.int (i : Int)) H Q := ⟨p, xs, i, v, rfl, rfl, h, hi, hx, q⟩
theorem agL {l : Addr} {xs : List V} {k : Nat} {f : Int → Int → Int} (h : H l = some (.lst xs)) (hk : k < xs.length) (q : D.nx σ (upd H l (.lst (xs.set k (.int (f i j)))))) : AgP (ipI f) rSetL (.ref l) (.int (k : Int)) (.int i) (.int j) D σ H :=
  ⟨i, j, rfl, rfl, l, xs, k, k, rfl, rfl, h, by unfold ixN; rw [if_pos (by omega), if_pos (by omega)]; rfl, q⟩
/-- o[i] = v -/
def SbP (ti : TE) (t : TSet) (v : V) (σ : L2.St) (o : V) (H : Hp) (R : L2.St → Hp → Prop) : Prop := ti σ H fun i H2 => t o i v H2 fun H3 => R σ H3
theorem sub {ts : TSet} {R : L2.St → Hp → Prop} (q : to σ H fun o H1 => SbP ti ts v σ o H1 R) : gSub to ti ts v σ H R := q
theorem sbp {ts : TSet} {R : L2.St → Hp → Prop} (q : ti σ H fun i H2 => ts x i v H2 fun H3 => R σ H3) : SbP ti ts v σ x H R := q
theorem setL {l : Addr} {xs : List V} {k : Int} {j : Nat} {R : Hp → Prop} (h : H l = some (.lst xs)) (hk : ixN xs.length k = some j) (q : R (upd H l (.lst (xs.set j v)))) : rSetL (.ref l) (.int k) v H R := ⟨l, xs, k, j, rfl, rfl, h, hk, q⟩
/-- slices -/
def PtP (x : V) (H : Hp) (R : Option Int → Hp → Prop) : Prop := ∃ i, x = .int i ∧ R (some i) H
theorem slc {r : V → Option Int → Option Int → Hp → VK → Prop} {tl th : TO} (q : te σ H fun x H1 => tl σ H1 fun a H2 => th σ H2 fun b H3 => r x a b H3 Q) : tSl r te tl th σ H Q := q
theorem noP {R : Option Int → Hp → Prop} (q : R none H) : tNoPart σ H R := q
theorem part {R : Option Int → Hp → Prop} (q : te σ H fun x H1 => PtP x H1 R) : tPart te σ H R := q
theorem ptp {R : Option Int → Hp → Prop} (q : R (some i) H) : PtP (.int i) H R := ⟨i, rfl, q⟩
theorem slS {z : Str} {lo hi : Option Int} (h : z.length ≤ sizeLine) (q : Q (.str (cutS z lo hi)) H) : rSlS (.str z) lo hi H Q := ⟨z, rfl, h, q⟩
/-- texts put together -/
def rCatS : R2 := fun x y H Q => ∃ i j, x = .str i ∧ y = .str j ∧ i.length + j.length ≤ sizeLine ∧ Q (.str (i ++ j)) H
theorem addS {a b : Str} (h : a.length + b.length ≤ sizeLine) (q : Q (.str (a ++ b)) H) : rCatS (.str a) (.str b) H Q := ⟨a, b, rfl, rfl, h, q⟩
theorem at_map {ns : List Int} {k : Nat} (h : k < ns.length) : atI (ns.map V.int) (k : Int) = some (.int (ns.getD k 0)) := by
  refine atI_nat ?_
  rw [List.getElem?_map, List.getElem?_eq_getElem h]
  simp [List.getD_eq_getElem?_getD, List.getElem?_eq_getElem h]
/-- methods of built-in types -/
def BmP (K : PySem.W.Frag) (T : String) (r : V → List V → Hp → VK → Prop) (t : TA) (σ : L2.St) (x : V) (H : Hp) (Q : VK) : Prop := tyV K T x H ∧ t σ H fun xs H2 => r x xs H2 Q
theorem bm {T : String} {r : V → List V → Hp → VK → Prop} (q : to σ H fun x H1 => BmP K T r tr σ x H1 Q) : tBM K T r to tr σ H Q := q
theorem bmS {T : String} {r : V → List V → Hp → VK → Prop} (h : tyV K T x H) (q : tr σ H fun xs H2 => r x xs H2 Q) : BmP K T r tr σ x H Q := ⟨h, q⟩
theorem app {l : Addr} {xs : List V} (h : H l = some (.lst xs)) (hz : xs.length < sizeLine) (q : Q .non (upd H l (.lst (xs ++ [y])))) : rAppend (.ref l) [y] H Q := ⟨l, xs, y, rfl, rfl, h, hz, q⟩
theorem tyL {p : Addr} {xs : List V} (h : SqL K H p xs) : tyV K "list" (.ref p) H := .inl ⟨rfl, _, h⟩
/-- what follows is shown once, from the word between -/
theorem cut {tz : TS} (M : L2.St → Hp → Prop) (h : tu { D with nx := M } σ H) (k : ∀ σ' H', M σ' H' → tz D σ' H') : C8.tCut tu tz D σ H := ⟨M, h, k⟩
/-- while: a word that falls -/
def WhI (W : Nat → L2.St → Hp → Prop) (m : Nat) (tb : TS) (D : Ends) (σ : L2.St) (b : Bool) (H : Hp) : Prop :=
  if b = true then ∃ N : L2.St → Hp → Prop, (∀ σ' H', N σ' H' → ∃ m', m' < m ∧ W m' σ' H') ∧ tb { D with nx := N, ct := N, bk := D.nx } σ H else D.nx σ H
theorem whI_t {W : Nat → L2.St → Hp → Prop} {m : Nat} (q : tu { D with nx := fun σ' H' => ∃ m', m' < m ∧ W m' σ' H', ct := fun σ' H' => ∃ m', m' < m ∧ W m' σ' H', bk := D.nx } σ H) : WhI W m tu D σ true H := by
  unfold WhI; rw [if_pos rfl]; exact ⟨_, fun _ _ h => h, q⟩
theorem whI_f {W : Nat → L2.St → Hp → Prop} {m : Nat} (q : D.nx σ H) : WhI W m tu D σ false H := by
  unfold WhI; rw [if_neg Bool.false_ne_true]; exact q
theorem whI_d {W : Nat → L2.St → Hp → Prop} {m : Nat} {p : Prop} [Decidable p] (q1 : p → WhI W m tu D σ true H) (q2 : ¬ p → WhI W m tu D σ false H) : WhI W m tu D σ (decide p) H := by
  by_cases h : p
  · rw [decide_eq_true h]; exact q1 h
  · rw [decide_eq_false h]; exact q2 h
theorem whI_b {W : Nat → L2.St → Hp → Prop} {m : Nat} (q1 : b = true → WhI W m tu D σ true H) (q2 : b = false → WhI W m tu D σ false H) : WhI W m tu D σ b H := by
  cases b with
  | true => exact q1 rfl
  | false => exact q2 rfl
theorem whl (W : Nat → L2.St → Hp → Prop) (m0 : Nat) (h0 : W m0 σ H) (hs : ∀ m σ' H', W m σ' H' → t σ' H' fun b H1 => WhI W m tu D σ' b H1) : tWhile t tu D σ H := ⟨W, ⟨m0, h0⟩, hs⟩
/-- any walk -/
theorem fw {J : It} {n : Nat} {G : Hp → Prop} {Y : Nat → Hp → V → Hp → Prop} {g : TG} (w : Walk J n G Y) (Pv : Nat → L2.St → Hp → Prop) (h0 : Pv 0 σ H) (hG : ∀ i σ H, i ≤ n → Pv i σ H → G H)
    (hs : ∀ i x σ H H', i < n → Pv i σ H → Y i H x H' → g x σ H' fun σ2 H2 => tu { D with nx := Pv (i + 1), ct := Pv (i + 1), bk := D.nx } σ2 H2) (hd : ∀ σ H, Pv n σ H → D.nx σ H) : FW J g tu D σ H := for_it w Pv h0 hG hs hd
def StrP (x : V) (H : Hp) (R : It → Hp → Prop) : Prop := ∃ z, x = .str z ∧ R (Its z) H
theorem strw {R : It → Hp → Prop} (q : te σ H fun x H1 => StrP x H1 R) : iStr te σ H R := q
theorem strp {z : Str} {R : It → Hp → Prop} (q : R (Its z) H) : StrP (.str z) H R := ⟨z, rfl, q⟩
/-- comprehensions -/
def LcP (J : It) (g : TG) (tt : TT) (te : TE) (vs : List Nat) (σ : L2.St) (Q : VK) (H1 : Hp) : Prop := ∀ D, H1 D = none → ∃ W : Nat → Nat → Hp → Prop, (∃ m, W 0 m (upd H1 D (.lst []))) ∧ ∀ i m H, W i m H →
  (J.stop i H ∧ Q (.ref D) H) ∨ (J.go i H ∧ ∃ Nx : Hp → Prop, (∀ H', Nx H' → ∃ m', m' < m ∧ W (i + 1) m' H') ∧ ∀ x H', J.yld i H x H' → g x (wipe σ vs) H' fun σ2 H2 => wipe σ2 vs = wipe σ vs ∧ tt σ2 H2 fun b H3 =>
    if b = true then te σ2 H3 fun y H4 => ∃ acc, H4 D = some (.lst acc) ∧ acc.length < sizeLine ∧ Nx (upd H4 D (.lst (acc ++ [y]))) else Nx H3)
theorem lc {wi : TI} {g : TG} {vs : List Nat} (q : wi σ H fun J H1 => LcP J g t te vs σ Q H1) : tLc wi g t te vs σ H Q := q
def WP (A B : Prop) : Prop := A ∧ B
theorem wp (h : A1) (q : A2) : WP A1 A2 := ⟨h, q⟩
theorem yes (q : B true H) : tYes σ H B := q
theorem same_up {H H' : Hp} {p : Addr} {o : HO} (h : H p = none) (s : Same H H') : Same H (upd H' p o) := fun a u e => by rw [upd_ne (ne_of_none e h)]; exact s a u e
theorem same_new {H : Hp} {p : Addr} {o : HO} (h : H p = none) : Same H (upd H p o) := same_up h (Same.refl H)
theorem snoc {H : Hp} {p : Addr} {xs : List Int} {z : Int} : upd H p (.lst (xs.map V.int ++ [.int z])) p = some (.lst ((xs ++ [z]).map V.int)) := by rw [upd_same, List.map_append]; rfl
/-- a comprehension whose turns leave what stands: the list of the turns that are kept -/
theorem lcFil {J : It} {n : Nat} {G : Hp → Prop} {Y : Nat → Hp → V → Hp → Prop} {g : TG} {vs : List Nat} (w : Walk J n G Y) (hn : n < 16777216) (c : Nat → Bool) (f : Nat → V) (hG : ∀ H', Same H H' → G H') (hY : ∀ i H x H', Y i H x H' → Same H H')
    (hs : ∀ i x H1 H' (R : V → Hp → Prop) (R0 : Hp → Prop), i < n → Same H H1 → Y i H1 x H' → (c i = true → ∀ H4, Same H' H4 → R (f i) H4) → (c i = false → ∀ H4, Same H' H4 → R0 H4) →
      g x (wipe σ vs) H' fun σ2 H2 => WP (wipe σ2 vs = wipe σ vs) (t σ2 H2 fun b H3 => IfP b (te σ2 H3 R) (R0 H3)))
    (q : ∀ p H2, H p = none → Same H H2 → H2 p = some (.lst (((List.range n).filter c).map f)) → Q (.ref p) H2) : LcP J g t te vs σ Q H := fun p hp => by
  refine lc_it w (fun i H' => Same H H' ∧ H' p = some (.lst (((List.range i).filter c).map f))) ⟨same_new hp, upd_same⟩ (fun i H' _ h => hG H' h.1) (fun i x H1 H' hi h y => ?_) (fun H' h => q p H' hp h.1 h.2)
  obtain ⟨h1, h2⟩ := h
  have s1 := hY i H1 x H' y
  refine hs i x H1 H' _ _ hi h1 y (fun hc H4 s4 => ⟨_, s4 _ _ (s1 _ _ h2), ?_, same_up hp (h1.trans (s1.trans s4)), ?_⟩) (fun hc H4 s4 => ⟨h1.trans (s1.trans s4), ?_⟩)
  · rw [List.length_map]
    have := List.length_filter_le c (List.range i)
    rw [List.length_range] at this
    rw [sizeLine_eq]; omega
  · rw [upd_same, List.range_succ, List.filter_append, List.map_append, List.filter_cons, if_pos hc]; rfl
  · rw [List.range_succ, List.filter_append, List.map_append, List.filter_cons, if_neg (by rw [hc]; decide)]
    rw [s4 _ _ (s1 _ _ h2)]; simp
theorem lcMap {J : It} {n : Nat} {G : Hp → Prop} {Y : Nat → Hp → V → Hp → Prop} {g : TG} {vs : List Nat} (w : Walk J n G Y) (hn : n < 16777216) (f : Nat → V) (hG : ∀ H', Same H H' → G H') (hY : ∀ i H x H', Y i H x H' → Same H H')
    (hs : ∀ i x H1 H' (R : V → Hp → Prop) (R0 : Hp → Prop), i < n → Same H H1 → Y i H1 x H' → (∀ H4, Same H' H4 → R (f i) H4) →
      g x (wipe σ vs) H' fun σ2 H2 => WP (wipe σ2 vs = wipe σ vs) (t σ2 H2 fun b H3 => IfP b (te σ2 H3 R) (R0 H3)))
    (q : ∀ p H2, H p = none → Same H H2 → H2 p = some (.lst ((List.range n).map f)) → Q (.ref p) H2) : LcP J g t te vs σ Q H := by
  refine lcFil w hn (fun _ => true) f hG hY (fun i x H1 H' R R0 hi h1 y hr _ => hs i x H1 H' R R0 hi h1 y (hr rfl)) ?_
  rw [List.filter_eq_self.mpr (fun _ _ => rfl)]
  exact q
theorem sameFn {f : Nat → V} : ∀ i H x H', YFn f i H x H' → Same H H' := fun _ _ _ _ y => y.1 ▸ Same.refl _
theorem sameAt {xs : List V} : ∀ i H x H', YAt xs i H x H' → Same H H' := fun _ _ _ _ y => y.1 ▸ Same.refl _
/-- reversed ranges -/
def RrP (a b : Int) (H : Hp) (R : It → Hp → Prop) : Prop := -(2 ^ 62) ≤ a ∧ a < 2 ^ 62 ∧ -(2 ^ 62) ≤ b ∧ b < 2 ^ 62 ∧ R (Itc (a + (((b - a).toNat : Nat) : Int) - 1) (-1) (b - a).toNat) H
def Rg1P (x : V) (H : Hp) (R : Int → Int → Hp → Prop) : Prop := ∃ j, x = .int j ∧ R 0 j H
theorem rrv {tr : L2.St → Hp → (Int → Int → Hp → Prop) → Prop} {R : It → Hp → Prop} (q : tr σ H fun a b H1 => RrP a b H1 R) : iRevR tr σ H R := q
theorem rr {a b : Int} {R : It → Hp → Prop} (h : -(2 ^ 62) ≤ a ∧ a < 2 ^ 62 ∧ -(2 ^ 62) ≤ b ∧ b < 2 ^ 62) (q : R (Itc (a + (((b - a).toNat : Nat) : Int) - 1) (-1) (b - a).toNat) H) : RrP a b H R := ⟨h.1, h.2.1, h.2.2.1, h.2.2.2, q⟩
theorem rg1 {R : Int → Int → Hp → Prop} (q : ta σ H fun x H1 => Rg1P x H1 R) : tRg1 ta σ H R := q
theorem rg1p {R : Int → Int → Hp → Prop} (q : R 0 j H) : Rg1P (.int j) H R := ⟨j, rfl, q⟩
/-- isinstance with a built-in class -/
theorem isi {n : String} {tv : Value} (ty : TyX K H x tv) (q : Q (.bl b) H) (e : PySem.W.kitOne K tv (.type n) = some b) : rIsi K [x, .ty n] H Q := ⟨x, .ty n, tv, .type n, b, rfl, .ty n, ty, e, q⟩
theorem isiI {n : String} (q : Q (.bl b) H) (e : kitB "int" n = some b) : rIsi K [.int i, .ty n] H Q := isi (.base (.int i)) q (kit_ty e)
theorem isiS {n : String} {z : Str} (q : Q (.bl b) H) (e : kitB "str" n = some b) : rIsi K [.str z, .ty n] H Q := isi (.base (.str z)) q (kit_ty e)
theorem isiB {n : String} {k : Bool} (q : Q (.bl b) H) (e : kitB "bool" n = some b) : rIsi K [.bl k, .ty n] H Q := isi (.base (.bl k)) q (kit_ty e)
theorem isiN {n : String} (q : Q (.bl b) H) (e : kitB "NoneType" n = some b) : rIsi K [.non, .ty n] H Q := isi (.base .non) q (kit_ty e)
/-- int of a text, order of texts -/
def rIntS : List V → Hp → VK → Prop := fun xs H Q => ∃ a n, xs = [.str a] ∧ PySem.intText? a = some n ∧ a.length ≤ 640 ∧ Q (.int n) H
theorem intS {a : Str} {n : Int} (h : PySem.intText? a = some n) (hl : a.length ≤ 640) (q : Q (.int n) H) : rIntS [.str a] H Q := ⟨a, n, rfl, h, hl, q⟩
def rLtS : R2 := fun x y H Q => ∃ i j, x = .str i ∧ y = .str j ∧ Q (.bl (decide (i.cps.toList < j.cps.toList))) H
theorem ltS {a b : Str} (q : Q (.bl (decide (a.cps.toList < b.cps.toList))) H) : rLtS (.str a) (.str b) H Q := ⟨a, b, rfl, rfl, q⟩
theorem eqB {p q' : Bool} : decide (V.bl p = V.bl q') = decide (p = q') := by simp
theorem eqvB {a b : Bool} (q : Q (.bl (decide (a = b))) H) : rEq (.bl a) (.bl b) H Q := eqv (by rw [eqB]; exact q)
def rMin2 : List V → Hp → VK → Prop := fun xs H Q => ∃ i j, xs = [.int i, .int j] ∧ Q (.int (if j < i then j else i)) H
def rMax2 : List V → Hp → VK → Prop := fun xs H Q => ∃ i j, xs = [.int i, .int j] ∧ Q (.int (if j > i then j else i)) H
theorem min2 (q : Q (.int (if j < i then j else i)) H) : rMin2 [.int i, .int j] H Q := ⟨i, j, rfl, q⟩
theorem max2 (q : Q (.int (if j > i then j else i)) H) : rMax2 [.int i, .int j] H Q := ⟨i, j, rfl, q⟩
/-- x in (..), of ints -/
theorem inL {p : Addr} {xs : List V} {neg : Bool} (h : SqL K H p xs) (f : xs.all flatV = true) (q : Q (.bl (if neg then !inV (.int i) xs else inV (.int i) xs)) H) : rIn K neg (.int i) (.ref p) H Q := ⟨p, xs, rfl, .inl h, rfl, f, q⟩
theorem flat_ints : ∀ xs : List Int, (xs.map V.int).all flatV = true
  | [] => rfl
  | _ :: xs => by rw [List.map_cons, List.all_cons, flat_ints xs]; rfl
theorem notin_ints {z : Int} : ∀ xs : List Int, (∀ y ∈ xs, y ≠ z) → inV (.int z) (xs.map V.int) = false
  | [], _ => rfl
  | y :: xs, h => by
    have ih := notin_ints xs fun u hu => h u (List.mem_cons_of_mem _ hu)
    unfold inV at *
    rw [List.map_cons, List.any_cons, ih, Bool.or_false]
    show (y == z) = false
    exact beq_eq_false_iff_ne.mpr (h y List.mem_cons_self)
theorem inT {p : Addr} {xs : List V} {neg : Bool} (h : SqT K H p xs) (f : xs.all flatV = true) (q : Q (.bl (if neg then !inV (.int i) xs else inV (.int i) xs)) H) : rIn K neg (.int i) (.ref p) H Q := ⟨p, xs, rfl, .inr h, rfl, f, q⟩
/-- x in (..), of texts -/
theorem inLS {p : Addr} {xs : List Str} {z : Str} {neg : Bool} (h : SqL K H p (xs.map V.str)) (q : Q (.bl (if neg then !decide (z ∈ xs) else decide (z ∈ xs))) H) : rIn K neg (.str z) (.ref p) H Q := by
  have fl : ∀ xs : List Str, (xs.map V.str).all flatV = true := fun xs => by simp [flatV]
  have e : ∀ xs : List Str, inV (.str z) (xs.map V.str) = decide (z ∈ xs) := fun xs => by
    rw [Bool.eq_iff_iff, decide_eq_true_iff]
    unfold inV
    rw [List.any_map, List.any_eq_true]
    constructor
    · rintro ⟨y, hy, e⟩
      have : y = z := by simpa [eqV] using e
      rw [← this]; exact hy
    · intro hz
      exact ⟨z, hz, by simp [eqV]⟩
  exact ⟨p, _, rfl, .inl h, rfl, fl xs, by rw [e]; exact q⟩
theorem inTS {p : Addr} {xs : List Str} {z : Str} {neg : Bool} (h : SqT K H p (xs.map V.str)) (q : Q (.bl (if neg then !decide (z ∈ xs) else decide (z ∈ xs))) H) : rIn K neg (.str z) (.ref p) H Q := by
  have fl : ∀ xs : List Str, (xs.map V.str).all flatV = true := fun xs => by simp [flatV]
  have e : ∀ xs : List Str, inV (.str z) (xs.map V.str) = decide (z ∈ xs) := fun xs => by
    rw [Bool.eq_iff_iff, decide_eq_true_iff]
    unfold inV
    rw [List.any_map, List.any_eq_true]
    constructor
    · rintro ⟨y, hy, e⟩
      have : y = z := by simpa [eqV] using e
      rw [← this]; exact hy
    · intro hz
      exact ⟨z, hz, by simp [eqV]⟩
  exact ⟨p, _, rfl, .inr h, rfl, fl xs, by rw [e]; exact q⟩
/-- == of lists of ints -/
theorem eqvAll_int : ∀ xs ys : List Int, PyData.eqvAll (xs.map .int) (ys.map .int) = decide (xs = ys)
  | [], [] => by simp [PyData.eqvAll]
  | [], _ :: _ => by simp [PyData.eqvAll]
  | _ :: _, [] => by simp [PyData.eqvAll]
  | x :: xs, y :: ys => by
    simp only [List.map_cons, PyData.eqvAll, PyData.eqv, eqvAll_int xs ys]
    by_cases h : x = y
    · subst h; simp
    · simp [h]
theorem canLay_ints : ∀ xs : List Int, PyData.canLayAll0 (xs.map .int) = true
  | [] => rfl
  | _ :: xs => by simp [PyData.canLayAll0, PyData.canLay0, canLay_ints xs]
theorem depth_ints : ∀ xs : List Int, PyData.depthAll (xs.map .int) = 0
  | [] => rfl
  | _ :: xs => by simp [PyData.depthAll, PyData.depth, depth_ints xs]
theorem shaped_ints (xs : List Int) : SeqAt.shaped (.list (xs.map .int)) = true := by
  simp [SeqAt.shaped, PyData.canLay0, PyData.depth, canLay_ints, depth_ints]
theorem shaped_tints (xs : List Int) : SeqAt.shaped (.tuple (xs.map .int)) = true := by
  simp [SeqAt.shaped, PyData.canLay0, PyData.depth, canLay_ints, depth_ints]
theorem dpAll_int : ∀ xs : List Int, DpAll K H (xs.map V.int) (xs.map PyData.int)
  | [] => .nil
  | x :: xs => .cons (.int x) (dpAll_int xs)
theorem eqDI {p q' : Addr} {xs ys : List Int} (h1 : SqL K H p (xs.map V.int)) (h2 : SqL K H q' (ys.map V.int)) (q : Q (.bl (decide (xs = ys))) H) : rEqD K (.ref p) (.ref q') H Q :=
  ⟨_, _, .lst h1 (dpAll_int xs), .lst h2 (dpAll_int ys), shaped_ints xs, shaped_ints ys, by rw [show PyData.eqv (.list (xs.map .int)) (.list (ys.map .int)) = decide (xs = ys) from eqvAll_int xs ys]; exact q⟩
theorem neDI {p q' : Addr} {xs ys : List Int} (h1 : SqL K H p (xs.map V.int)) (h2 : SqL K H q' (ys.map V.int)) (q : Q (.bl (!decide (xs = ys))) H) : rNeD K (.ref p) (.ref q') H Q :=
  ⟨_, _, .lst h1 (dpAll_int xs), .lst h2 (dpAll_int ys), shaped_ints xs, shaped_ints ys, by rw [show PyData.eqv (.list (xs.map .int)) (.list (ys.map .int)) = decide (xs = ys) from eqvAll_int xs ys]; exact q⟩
theorem eqDT {p q' : Addr} {xs ys : List Int} (h1 : SqT K H p (xs.map V.int)) (h2 : SqT K H q' (ys.map V.int)) (q : Q (.bl (decide (xs = ys))) H) : rEqD K (.ref p) (.ref q') H Q :=
  ⟨_, _, .tup h1 (dpAll_int xs), .tup h2 (dpAll_int ys), shaped_tints xs, shaped_tints ys, by rw [show PyData.eqv (.tuple (xs.map .int)) (.tuple (ys.map .int)) = decide (xs = ys) from eqvAll_int xs ys]; exact q⟩
theorem neDT {p q' : Addr} {xs ys : List Int} (h1 : SqT K H p (xs.map V.int)) (h2 : SqT K H q' (ys.map V.int)) (q : Q (.bl (!decide (xs = ys))) H) : rNeD K (.ref p) (.ref q') H Q :=
  ⟨_, _, .tup h1 (dpAll_int xs), .tup h2 (dpAll_int ys), shaped_tints xs, shaped_tints ys, by rw [show PyData.eqv (.tuple (xs.map .int)) (.tuple (ys.map .int)) = decide (xs = ys) from eqvAll_int xs ys]; exact q⟩
/-- all, any, sum, list(..) of a list -/
theorem allP {p : Addr} {bs : List Bool} (h : SqL K H p (bs.map V.bl)) (q : Q (.bl (bs.all id)) H) : L2.rAll K [.ref p] H Q := ⟨p, bs, rfl, h, q⟩
theorem anyP {p : Addr} {bs : List Bool} (h : SqL K H p (bs.map V.bl)) (q : Q (.bl (bs.any id)) H) : L2.rAny K [.ref p] H Q := ⟨p, bs, rfl, h, q⟩
theorem sumP {p : Addr} {ns : List Int} (h : SqL K H p (ns.map V.int)) (q : Q (.int ns.sum) H) : L2.rSum K [.ref p] H Q := ⟨p, ns, rfl, h, q⟩
def rList (K : PySem.W.Frag) : List V → Hp → VK → Prop := fun xs H Q => ∃ p ys, xs = [.ref p] ∧ (SqL K H p ys ∨ SqT K H p ys) ∧ ∀ l, H l = none → Q (.ref l) (upd H l (.lst ys))
theorem listL {p : Addr} {xs : List V} (h : SqL K H p xs) (q : ∀ l, H l = none → Q (.ref l) (upd H l (.lst xs))) : rList K [.ref p] H Q := ⟨p, xs, rfl, .inl h, q⟩
theorem listT {p : Addr} {xs : List V} (h : SqT K H p xs) (q : ∀ l, H l = none → Q (.ref l) (upd H l (.lst xs))) : rList K [.ref p] H Q := ⟨p, xs, rfl, .inr h, q⟩
def rDivmod : List V → Hp → VK → Prop := fun xs H Q => ∃ i j, xs = [.int i, .int j] ∧ CDiv i j ∧ ∀ p, H p = none → Q (.ref p) (upd H p (.tup [.int (i / j), .int (i % j)]))
theorem dvm (c : CDiv i j) (q : ∀ p, H p = none → Q (.ref p) (upd H p (.tup [.int (i / j), .int (i % j)]))) : rDivmod [.int i, .int j] H Q := ⟨i, j, rfl, c, q⟩
theorem cat {l b : Addr} {xs zs : List V} (h1 : H l = some (.lst xs)) (h2 : H b = some (.lst zs)) (hz : xs.length + zs.length ≤ sizeLine) (q : ∀ p, H p = none → Q (.ref p) (upd H p (.lst (xs ++ zs)))) : rCat (.ref l) (.ref b) H Q := ⟨l, b, xs, zs, rfl, rfl, h1, h2, hz, q⟩
def TwP (K : PySem.W.Frag) (x : V) (H : Hp) (R : It → Hp → Prop) : Prop := ∃ a, x = .ref a ∧ (∃ xs, SqT K H a xs) ∧ R (Itt K a) H
theorem twk {R : It → Hp → Prop} (q : te σ H fun x H1 => TwP K x H1 R) : iTup K te σ H R := q
theorem twp {a : Addr} {xs : List V} {R : It → Hp → Prop} (h : SqT K H a xs) (q : R (Itt K a) H) : TwP K (.ref a) H R := ⟨a, rfl, ⟨xs, h⟩, q⟩
/-- a list of tuples of ints -/
def TL (H : Hp) (l : Addr) (n : Nat) (f : Nat → List Int) : Prop := ∃ ps : List Addr, H l = some (.lst (ps.map V.ref)) ∧ ps.length = n ∧ ∀ j a, ps[j]? = some a → H a = some (.tup ((f j).map V.int))
theorem TL.keep {H' : Hp} {l : Addr} {n : Nat} {f : Nat → List Int} (t : TL H l n f) (s : Same H H') : TL H' l n f := by
  obtain ⟨ps, h1, h2, h3⟩ := t
  exact ⟨ps, s _ _ h1, h2, fun j a e => s _ _ (h3 j a e)⟩
theorem TL.nil {l : Addr} {f : Nat → List Int} (h : H l = some (.lst [])) : TL H l 0 f := ⟨[], h, rfl, fun j a e => by cases e⟩
theorem TL.snoc {l t : Addr} {n : Nat} {f : Nat → List Int} (x : TL H l n f) (h : H t = some (.tup ((f n).map V.int))) : ∃ xs, H l = some (.lst xs) ∧ xs.length = n ∧ TL (upd H l (.lst (xs ++ [.ref t]))) l (n + 1) f := by
  obtain ⟨ps, h1, h2, h3⟩ := x
  have ne : ∀ {a : Addr} {ys : List V}, H a = some (.tup ys) → a ≠ l := fun e => ne_of e h1 (by intro z; cases z)
  refine ⟨_, h1, by rw [List.length_map]; exact h2, ps ++ [t], by rw [upd_same, List.map_append]; rfl, by rw [List.length_append, h2]; rfl, fun j a e => ?_⟩
  by_cases hj : j < ps.length
  · rw [List.getElem?_append_left hj] at e
    rw [upd_ne (ne (h3 j a e))]; exact h3 j a e
  · rw [List.getElem?_append_right (by omega)] at e
    have hj2 : j - ps.length = 0 := by
      rcases Nat.eq_zero_or_pos (j - ps.length) with z | z
      · exact z
      · rw [List.getElem?_eq_none (by show 1 ≤ _; omega)] at e; cases e
    rw [hj2] at e
    have e2 : t = a := Option.some.inj e
    subst e2
    rw [upd_ne (ne h), show j = n by omega]; exact h
theorem TL.len {l : Addr} {n : Nat} {f : Nat → List Int} (x : TL H l n f) : ∃ xs, H l = some (.lst xs) ∧ xs.length = n := by
  obtain ⟨ps, h1, h2, h3⟩ := x
  exact ⟨_, h1, by rw [List.length_map]; exact h2⟩
theorem TL.get {l : Addr} {n j : Nat} {f : Nat → List Int} (x : TL H l n f) (hj : j < n) : ∃ xs a, H l = some (.lst xs) ∧ atI xs (j : Int) = some (.ref a) ∧ H a = some (.tup ((f j).map V.int)) := by
  obtain ⟨ps, h1, h2, h3⟩ := x
  have hj2 : j < ps.length := by omega
  refine ⟨_, ps[j], h1, atI_nat ?_, h3 j _ (List.getElem?_eq_getElem hj2)⟩
  rw [List.getElem?_map, List.getElem?_eq_getElem hj2]; rfl
theorem dp_tups : ∀ (ps : List Addr) (g : Nat → List Int), (∀ j a, ps[j]? = some a → H a = some (.tup ((g j).map V.int))) → DpAll K H (ps.map V.ref) ((List.range ps.length).map fun j => PyData.tuple ((g j).map PyData.int))
  | [], _, _ => .nil
  | a :: ps, g, h => by
    rw [List.length_cons, List.range_succ_eq_map, List.map_cons, List.map_cons, List.map_map]
    exact .cons (.tup (SqT.of (h 0 a rfl)) (dpAll_int _)) (dp_tups ps (fun j => g (j + 1)) fun j b e => h (j + 1) b (by simpa using e))
theorem lay_tups : ∀ rows : List (List Int), PyData.canLayAll0 (rows.map fun r => PyData.tuple (r.map PyData.int)) = true ∧ PyData.depthAll (rows.map fun r => PyData.tuple (r.map PyData.int)) ≤ 1 ∧ PyData.eqvAll (rows.map fun r => PyData.tuple (r.map PyData.int)) (rows.map fun r => PyData.tuple (r.map PyData.int)) = true
  | [] => ⟨rfl, by simp [PyData.depthAll], by simp [PyData.eqvAll]⟩
  | r :: rows => by
    obtain ⟨h1, h2, h3⟩ := lay_tups rows
    refine ⟨by simp [PyData.canLayAll0, PyData.canLay0, canLay_ints, h1], ?_, ?_⟩
    · simp only [List.map_cons, PyData.depthAll, PyData.depth, depth_ints]; omega
    · simp [PyData.eqvAll, PyData.eqv, eqvAll_int, h3]
theorem TL.dp {l : Addr} {n : Nat} {f : Nat → List Int} (x : TL H l n f) : Dp K H (.ref l) (.list (((List.range n).map f).map fun r => PyData.tuple (r.map PyData.int))) := by
  obtain ⟨ps, h1, h2, h3⟩ := x
  have := dp_tups (K := K) ps f h3
  rw [h2] at this
  rw [List.map_map]
  exact .lst (SqL.of h1) this
theorem shaped_tups (rows : List (List Int)) : SeqAt.shaped (.list (rows.map fun r => PyData.tuple (r.map PyData.int))) = true := by
  obtain ⟨h1, h2, _⟩ := lay_tups rows
  unfold SeqAt.shaped
  simp only [PyData.canLay0, PyData.depth, h1, Bool.true_and]
  exact decide_eq_true (by omega)
theorem eqTL {l m : Addr} {n : Nat} {f : Nat → List Int} (x : TL H l n f) (y : TL H m n f) (q : Q (.bl true) H) : rEqD K (.ref l) (.ref m) H Q :=
  ⟨_, _, x.dp, y.dp, shaped_tups _, shaped_tups _, by rw [show PyData.eqv (.list (((List.range n).map f).map fun r => PyData.tuple (r.map PyData.int))) (.list (((List.range n).map f).map fun r => PyData.tuple (r.map PyData.int))) = true from (lay_tups _).2.2]; exact q⟩
theorem neTL {l m : Addr} {n : Nat} {f : Nat → List Int} (x : TL H l n f) (y : TL H m n f) (q : Q (.bl false) H) : rNeD K (.ref l) (.ref m) H Q :=
  ⟨_, _, x.dp, y.dp, shaped_tups _, shaped_tups _, by rw [show PyData.eqv (.list (((List.range n).map f).map fun r => PyData.tuple (r.map PyData.int))) (.list (((List.range n).map f).map fun r => PyData.tuple (r.map PyData.int))) = true from (lay_tups _).2.2]; exact q⟩
/-- a comprehension whose turns make a tuple each -/
theorem lcTup {J : It} {n : Nat} {G : Hp → Prop} {Y : Nat → Hp → V → Hp → Prop} {g : TG} {vs : List Nat} (w : Walk J n G Y) (hn : n < 16777216) (f : Nat → List Int) (hG : ∀ H', Same H H' → G H') (hY : ∀ i H x H', Y i H x H' → Same H H')
    (hs : ∀ i x H1 H' (R : V → Hp → Prop) (R0 : Hp → Prop), i < n → Same H H1 → Y i H1 x H' → (∀ p H4, Same H' H4 → H4 p = some (.tup ((f i).map V.int)) → R (.ref p) H4) →
      g x (wipe σ vs) H' fun σ2 H2 => WP (wipe σ2 vs = wipe σ vs) (t σ2 H2 fun b H3 => IfP b (te σ2 H3 R) (R0 H3)))
    (q : ∀ p H2, H p = none → Same H H2 → TL H2 p n f → Q (.ref p) H2) : LcP J g t te vs σ Q H := fun p hp => by
  refine lc_it w (fun i H' => Same H H' ∧ TL H' p i f) ⟨same_new hp, TL.nil upd_same⟩ (fun i H' _ h => hG H' h.1) (fun i x H1 H' hi h y => ?_) (fun H' h => q p H' hp h.1 h.2)
  obtain ⟨h1, h2⟩ := h
  have s1 := hY i H1 x H' y
  refine hs i x H1 H' _ _ hi h1 y (fun a H4 s4 ha => ?_)
  obtain ⟨xs, e1, e2, e3⟩ := (h2.keep (s1.trans s4)).snoc ha
  exact ⟨xs, e1, by rw [sizeLine_eq]; omega, same_up hp (h1.trans (s1.trans s4)), e3⟩
/-- a list of lists of ints -/
def LL (H : Hp) (l : Addr) (n : Nat) (f : Nat → List Int) : Prop := ∃ ps : List Addr, H l = some (.lst (ps.map V.ref)) ∧ ps.length = n ∧ ∀ j a, ps[j]? = some a → H a = some (.lst ((f j).map V.int))
theorem LL.keep {H' : Hp} {l : Addr} {n : Nat} {f : Nat → List Int} (t : LL H l n f) (s : Same H H') : LL H' l n f := by
  obtain ⟨ps, h1, h2, h3⟩ := t
  exact ⟨ps, s _ _ h1, h2, fun j a e => s _ _ (h3 j a e)⟩
theorem LL.nil {l : Addr} {f : Nat → List Int} (h : H l = some (.lst [])) : LL H l 0 f := ⟨[], h, rfl, fun j a e => by cases e⟩
theorem LL.snoc {l t : Addr} {n : Nat} {f : Nat → List Int} (x : LL H l n f) (h : H t = some (.lst ((f n).map V.int))) (ne : t ≠ l) : ∃ xs, H l = some (.lst xs) ∧ xs.length = n ∧ LL (upd H l (.lst (xs ++ [.ref t]))) l (n + 1) f := by
  obtain ⟨ps, h1, h2, h3⟩ := x
  have nl : ∀ {j : Nat} {a : Addr}, ps[j]? = some a → a ≠ l := fun {j a} e z => by
    have e2 := h3 j a e
    rw [z, h1] at e2
    have e3 : ps.map V.ref = (f j).map V.int := by injection e2 with e2; injection e2
    cases hp : ps with
    | nil => rw [hp] at e; cases e
    | cons b r =>
      rw [hp] at e3
      cases hf : f j with
      | nil => rw [hf] at e3; cases e3
      | cons z zs => rw [hf] at e3; injection e3 with e4; cases e4
  refine ⟨_, h1, by rw [List.length_map]; exact h2, ps ++ [t], by rw [upd_same, List.map_append]; rfl, by rw [List.length_append, h2]; rfl, fun j a e => ?_⟩
  by_cases hj : j < ps.length
  · rw [List.getElem?_append_left hj] at e
    rw [upd_ne (nl e)]; exact h3 j a e
  · rw [List.getElem?_append_right (by omega)] at e
    have hj2 : j - ps.length = 0 := by
      rcases Nat.eq_zero_or_pos (j - ps.length) with z | z
      · exact z
      · rw [List.getElem?_eq_none (by show 1 ≤ _; omega)] at e; cases e
    rw [hj2] at e
    have e2 : t = a := Option.some.inj e
    subst e2
    rw [upd_ne ne, show j = n by omega]; exact h
theorem LL.len {l : Addr} {n : Nat} {f : Nat → List Int} (x : LL H l n f) : ∃ xs, H l = some (.lst xs) ∧ xs.length = n := by
  obtain ⟨ps, h1, h2, h3⟩ := x
  exact ⟨_, h1, by rw [List.length_map]; exact h2⟩
theorem LL.all {l : Addr} {n : Nat} {f : Nat → List Int} (x : LL H l n f) : ∃ xs, H l = some (.lst xs) ∧ xs.length = n ∧ ∀ j v, xs[j]? = some v → ∃ a, v = .ref a ∧ H a = some (.lst ((f j).map V.int)) := by
  obtain ⟨ps, h1, h2, h3⟩ := x
  refine ⟨_, h1, by rw [List.length_map]; exact h2, fun j v e => ?_⟩
  rw [List.getElem?_map] at e
  cases ea : ps[j]? with
  | none => rw [ea] at e; cases e
  | some a => rw [ea] at e; exact ⟨a, (Option.some.inj e).symm, h3 j a ea⟩
theorem LL.get {l : Addr} {n j : Nat} {f : Nat → List Int} (x : LL H l n f) (hj : j < n) : ∃ xs a, H l = some (.lst xs) ∧ atI xs (j : Int) = some (.ref a) ∧ H a = some (.lst ((f j).map V.int)) := by
  obtain ⟨ps, h1, h2, h3⟩ := x
  have hj2 : j < ps.length := by omega
  refine ⟨_, ps[j], h1, atI_nat ?_, h3 j _ (List.getElem?_eq_getElem hj2)⟩
  rw [List.getElem?_map, List.getElem?_eq_getElem hj2]; rfl
theorem LL.congr {l : Addr} {n : Nat} {f g : Nat → List Int} (x : LL H l n f) (h : ∀ j, j < n → f j = g j) : LL H l n g := by
  obtain ⟨ps, h1, h2, h3⟩ := x
  refine ⟨ps, h1, h2, fun j a e => ?_⟩
  have hj : j < ps.length := by
    rcases Nat.lt_or_ge j ps.length with z | z
    · exact z
    · rw [List.getElem?_eq_none z] at e; cases e
  rw [← h j (by omega)]; exact h3 j a e
theorem dp_lists : ∀ (ps : List Addr) (g : Nat → List Int), (∀ j a, ps[j]? = some a → H a = some (.lst ((g j).map V.int))) → DpAll K H (ps.map V.ref) ((List.range ps.length).map fun j => PyData.list ((g j).map PyData.int))
  | [], _, _ => .nil
  | a :: ps, g, h => by
    rw [List.length_cons, List.range_succ_eq_map, List.map_cons, List.map_cons, List.map_map]
    exact .cons (.lst (SqL.of (h 0 a rfl)) (dpAll_int _)) (dp_lists ps (fun j => g (j + 1)) fun j b e => h (j + 1) b (by simpa using e))
theorem lay_lists : ∀ rows : List (List Int), PyData.canLayAll0 (rows.map fun r => PyData.list (r.map PyData.int)) = true ∧ PyData.depthAll (rows.map fun r => PyData.list (r.map PyData.int)) ≤ 1 ∧ PyData.eqvAll (rows.map fun r => PyData.list (r.map PyData.int)) (rows.map fun r => PyData.list (r.map PyData.int)) = true
  | [] => ⟨rfl, by simp [PyData.depthAll], by simp [PyData.eqvAll]⟩
  | r :: rows => by
    obtain ⟨h1, h2, h3⟩ := lay_lists rows
    refine ⟨by simp [PyData.canLayAll0, PyData.canLay0, canLay_ints, h1], ?_, ?_⟩
    · simp only [List.map_cons, PyData.depthAll, PyData.depth, depth_ints]; omega
    · simp [PyData.eqvAll, PyData.eqv, eqvAll_int, h3]
theorem LL.dp {l : Addr} {n : Nat} {f : Nat → List Int} (x : LL H l n f) : Dp K H (.ref l) (.list (((List.range n).map f).map fun r => PyData.list (r.map PyData.int))) := by
  obtain ⟨ps, h1, h2, h3⟩ := x
  have := dp_lists (K := K) ps f h3
  rw [h2] at this
  rw [List.map_map]
  exact .lst (SqL.of h1) this
theorem shaped_lists (rows : List (List Int)) : SeqAt.shaped (.list (rows.map fun r => PyData.list (r.map PyData.int))) = true := by
  obtain ⟨h1, h2, _⟩ := lay_lists rows
  unfold SeqAt.shaped
  simp only [PyData.canLay0, PyData.depth, h1, Bool.true_and]
  exact decide_eq_true (by omega)
theorem eqLL {l m : Addr} {n : Nat} {f : Nat → List Int} (x : LL H l n f) (y : LL H m n f) (q : Q (.bl true) H) : rEqD K (.ref l) (.ref m) H Q :=
  ⟨_, _, x.dp, y.dp, shaped_lists _, shaped_lists _, by rw [show PyData.eqv (.list (((List.range n).map f).map fun r => PyData.list (r.map PyData.int))) (.list (((List.range n).map f).map fun r => PyData.list (r.map PyData.int))) = true from (lay_lists _).2.2]; exact q⟩
/-- a comprehension whose turns make a list each -/
theorem lcLst {J : It} {n : Nat} {G : Hp → Prop} {Y : Nat → Hp → V → Hp → Prop} {g : TG} {vs : List Nat} (w : Walk J n G Y) (hn : n < 16777216) (f : Nat → List Int) (hG : ∀ H', Same H H' → G H') (hY : ∀ i H x H', Y i H x H' → Same H H')
    (hs : ∀ i x H1 H' (R : V → Hp → Prop) (R0 : Hp → Prop), i < n → Same H H1 → Y i H1 x H' → (∀ p H4, H' p = none → Same H' H4 → H4 p = some (.lst ((f i).map V.int)) → R (.ref p) H4) →
      g x (wipe σ vs) H' fun σ2 H2 => WP (wipe σ2 vs = wipe σ vs) (t σ2 H2 fun b H3 => IfP b (te σ2 H3 R) (R0 H3)))
    (q : ∀ p H2, H p = none → Same H H2 → LL H2 p n f → Q (.ref p) H2) : LcP J g t te vs σ Q H := fun p hp => by
  refine lc_it w (fun i H' => Same H H' ∧ LL H' p i f) ⟨same_new hp, LL.nil upd_same⟩ (fun i H' _ h => hG H' h.1) (fun i x H1 H' hi h y => ?_) (fun H' h => q p H' hp h.1 h.2)
  obtain ⟨h1, h2⟩ := h
  have s1 := hY i H1 x H' y
  refine hs i x H1 H' _ _ hi h1 y (fun a H4 hf s4 ha => ?_)
  obtain ⟨ys, hy, _⟩ := h2.len
  obtain ⟨xs, e1, e2, e3⟩ := (h2.keep (s1.trans s4)).snoc ha (ne_of_none (s1 _ _ hy) hf).symm
  exact ⟨xs, e1, by rw [sizeLine_eq]; omega, same_up hp (h1.trans (s1.trans s4)), e3⟩
theorem cutV_ints (xs : List Int) {b n : Nat} (h : b + n ≤ xs.length) : cutV (xs.map V.int) (some (b : Int)) (some ((b + n : Nat) : Int)) = ((xs.drop b).take n).map V.int := by
  unfold cutV
  rw [HT.sIx_nat, HT.sIx_nat, List.length_map, Nat.min_eq_left h, Nat.min_eq_left (show b ≤ xs.length by omega), Nat.add_sub_cancel_left, List.map_take, List.map_drop]
/-- a comprehension whose turns give ints that are told by a property alone -/
theorem lcInt {J : It} {n : Nat} {G : Hp → Prop} {Y : Nat → Hp → V → Hp → Prop} {g : TG} {vs : List Nat} (w : Walk J n G Y) (hn : n < 16777216) (P : Nat → Int → Prop) (hG : ∀ H', Same H H' → G H') (hY : ∀ i H x H', Y i H x H' → Same H H')
    (hs : ∀ i x H1 H' (R : V → Hp → Prop) (R0 : Hp → Prop), i < n → Same H H1 → Y i H1 x H' → (∀ z H4, P i z → Same H' H4 → R (.int z) H4) →
      g x (wipe σ vs) H' fun σ2 H2 => WP (wipe σ2 vs = wipe σ vs) (t σ2 H2 fun b H3 => IfP b (te σ2 H3 R) (R0 H3)))
    (q : ∀ (xs : List Int) (p : Addr) H2, xs.length = n → (∀ j z, xs[j]? = some z → P j z) → H p = none → Same H H2 → H2 p = some (.lst (xs.map V.int)) → Q (.ref p) H2) : LcP J g t te vs σ Q H := fun p hp => by
  refine lc_it w (fun i H' => Same H H' ∧ ∃ xs : List Int, xs.length = i ∧ (∀ j z, xs[j]? = some z → P j z) ∧ H' p = some (.lst (xs.map V.int))) ⟨same_new hp, [], rfl, (fun j z e => nomatch e), upd_same⟩ (fun i H' _ h => hG H' h.1) (fun i x H1 H' hi h y => ?_) (fun H' h => ?_)
  · obtain ⟨h1, xs, hl, hP, h2⟩ := h
    have s1 := hY i H1 x H' y
    refine hs i x H1 H' _ _ hi h1 y (fun z H4 hz s4 => ⟨_, s4 _ _ (s1 _ _ h2), by rw [List.length_map, hl, sizeLine_eq]; omega, same_up hp (h1.trans (s1.trans s4)), xs ++ [z], by rw [List.length_append, hl]; rfl, fun j u e => ?_, by rw [upd_same, List.map_append]; rfl⟩)
    by_cases hj : j < xs.length
    · rw [List.getElem?_append_left hj] at e; exact hP j u e
    · rw [List.getElem?_append_right (by omega)] at e
      have hj2 : j - xs.length = 0 := by
        rcases Nat.eq_zero_or_pos (j - xs.length) with c | c
        · exact c
        · rw [List.getElem?_eq_none (by show 1 ≤ _; omega)] at e; cases e
      rw [hj2] at e
      cases e
      rw [show j = i by omega]; exact hz
  · obtain ⟨h1, xs, hl, hP, h2⟩ := h
    exact q xs p H' hl hP hp h1 h2
/-- a comprehension over two ranges -/
def Lc2In (J1 : It) (g1 : TG) (tt1 : TT) (te : TE) (vs1 : List Nat) (D : Addr) (Nx : Hp → Prop) (σ2 : L2.St) (H4 : Hp) : Prop := ∃ W1 : Nat → Nat → Hp → Prop, (∃ m, W1 0 m H4) ∧ ∀ j k H, W1 j k H →
      (J1.stop j H ∧ Nx H) ∨ (J1.go j H ∧ ∃ Nx1 : Hp → Prop, (∀ H', Nx1 H' → ∃ k', k' < k ∧ W1 (j + 1) k' H') ∧ ∀ x H', J1.yld j H x H' → g1 x (wipe σ2 vs1) H' fun σ3 H5 => wipe σ3 vs1 = wipe σ2 vs1 ∧ tt1 σ3 H5 fun b H6 =>
        if b = true then te σ3 H6 fun y H7 => ∃ acc, H7 D = some (.lst acc) ∧ acc.length < sizeLine ∧ Nx1 (upd H7 D (.lst (acc ++ [y]))) else Nx1 H6)
def Lc2P (J : It) (g : TG) (tt : TT) (wi1 : TI) (g1 : TG) (tt1 : TT) (te : TE) (vs vs1 : List Nat) (σ : L2.St) (Q : VK) (H1 : Hp) : Prop := ∀ D, H1 D = none → ∃ W : Nat → Nat → Hp → Prop, (∃ m, W 0 m (upd H1 D (.lst []))) ∧ ∀ i m H, W i m H →
  (J.stop i H ∧ Q (.ref D) H) ∨ (J.go i H ∧ ∃ Nx : Hp → Prop, (∀ H', Nx H' → ∃ m', m' < m ∧ W (i + 1) m' H') ∧ ∀ x H', J.yld i H x H' → g x (wipe σ vs) H' fun σ2 H2 => wipe σ2 vs = wipe σ vs ∧ tt σ2 H2 fun b H3 =>
    if b = true then wi1 σ2 H3 fun J1 H4 => Lc2In J1 g1 tt1 te vs1 D Nx σ2 H4 else Nx H3)
theorem lc2 {wi wi1 : TI} {g g1 : TG} {tt tt1 : TT} {vs vs1 : List Nat} (q : wi σ H fun J H1 => Lc2P J g tt wi1 g1 tt1 te vs vs1 σ Q H1) : tLc2 wi g tt wi1 g1 tt1 te vs vs1 σ H Q := q
/-- what is made after i whole turns of the outer walk -/
def made (m : Nat) (f : Nat → Nat → V) (i : Nat) : List V := (List.range i).flatMap fun i => (List.range m).map (f i)
theorem made_len (m : Nat) (f : Nat → Nat → V) : ∀ i, (made m f i).length = i * m
  | 0 => by simp [made]
  | i + 1 => by
    have := made_len m f i
    unfold made at *
    rw [List.range_succ, List.flatMap_append, List.length_append, this, Nat.succ_mul]; simp
theorem made_succ (m : Nat) (f : Nat → Nat → V) (i : Nat) : made m f (i + 1) = made m f i ++ (List.range m).map (f i) := by
  unfold made
  rw [List.range_succ, List.flatMap_append]; simp
theorem lc2O {J : It} {n : Nat} {wi1 : TI} {g g1 : TG} {tt tt1 : TT} {vs vs1 : List Nat} {G : Hp → Prop} {Y : Nat → Hp → V → Hp → Prop} (w : Walk J n G Y) (Pv : Addr → Nat → Hp → Prop) (h0 : ∀ D, H D = none → Pv D 0 (upd H D (.lst []))) (hG : ∀ D i H', i ≤ n → Pv D i H' → G H')
    (hs : ∀ D i x H1 H', i < n → Pv D i H1 → Y i H1 x H' → g x (wipe σ vs) H' fun σ2 H2 => WP (wipe σ2 vs = wipe σ vs) (tt σ2 H2 fun b H3 => IfP b (wi1 σ2 H3 fun J1 H4 => Lc2In J1 g1 tt1 te vs1 D (Pv D (i + 1)) σ2 H4) (Pv D (i + 1) H3)))
    (hd : ∀ D H', H D = none → Pv D n H' → Q (.ref D) H') : Lc2P J g tt wi1 g1 tt1 te vs vs1 σ Q H := fun D hD => by
  refine ⟨fun i m H => m = n - i ∧ i ≤ n ∧ Pv D i H, ⟨n, by simp, Nat.zero_le _, h0 D hD⟩, ?_⟩
  rintro i m H' ⟨rfl, hi, p⟩
  have q := hG D i H' hi p
  by_cases hlt : i < n
  · refine .inr ⟨w.goes i H' hlt q, Pv D (i + 1), fun H' p' => ⟨n - (i + 1), by omega, rfl, hlt, p'⟩, fun x H2 y => hs D i x H' H2 hlt p (w.yields i H' x H2 hlt q y)⟩
  · have e : i = n := by omega
    subst e
    exact .inl ⟨w.stops H' q, hd D H' hD p⟩
theorem lc2I {J1 : It} {n : Nat} {g1 : TG} {tt1 : TT} {vs1 : List Nat} {D : Addr} {Nx : Hp → Prop} {G : Hp → Prop} {Y : Nat → Hp → V → Hp → Prop} (w : Walk J1 n G Y) (Pv : Nat → Hp → Prop) (h0 : Pv 0 H) (hG : ∀ i H', i ≤ n → Pv i H' → G H')
    (hs : ∀ i x H1 H', i < n → Pv i H1 → Y i H1 x H' → g1 x (wipe σ vs1) H' fun σ3 H5 => WP (wipe σ3 vs1 = wipe σ vs1) (tt1 σ3 H5 fun b H6 => IfP b (te σ3 H6 fun y H7 => ∃ acc, H7 D = some (.lst acc) ∧ acc.length < sizeLine ∧ Pv (i + 1) (upd H7 D (.lst (acc ++ [y])))) (Pv (i + 1) H6)))
    (hd : ∀ H', Pv n H' → Nx H') : Lc2In J1 g1 tt1 te vs1 D Nx σ H := by
  refine ⟨fun i m H => m = n - i ∧ i ≤ n ∧ Pv i H, ⟨n, by simp, Nat.zero_le _, h0⟩, ?_⟩
  rintro i m H' ⟨rfl, hi, p⟩
  have q := hG i H' hi p
  by_cases hlt : i < n
  · refine .inr ⟨w.goes i H' hlt q, Pv (i + 1), fun H' p' => ⟨n - (i + 1), by omega, rfl, hlt, p'⟩, fun x H2 y => hs i x H' H2 hlt p (w.yields i H' x H2 hlt q y)⟩
  · have e : i = n := by omega
    subst e
    exact .inl ⟨w.stops H' q, hd H' p⟩
theorem slL {a : Addr} {xs : List V} {lo hi : Option Int} (h : SqL K H a xs) (q : ∀ p, H p = none → Q (.ref p) (upd H p (.lst (cutV xs lo hi)))) : rSlL K (.ref a) lo hi H Q := ⟨a, xs, rfl, h, q⟩
theorem up_seq {p l : Addr} {xs : List V} {o : HO} (h : SqL K H p xs) (hl : H l = none) : SqL K (upd H l o) p xs := (same_new hl).seq h
end
section
variable {X : Cx}
theorem o_rep : OpR X (binaryOp .Mult) rRepN := op_rep
theorem pget_list : PGet X (rGetN X.K) := by
  intro pins s σ H o i ov iv Q I ro ri h
  obtain ⟨p, xs, k, v, rfl, rfl, hq, hk, hx, q⟩ := h
  cases ro
  obtain ⟨t, rfl⟩ := ri
  obtain ⟨its, r, pl, hz⟩ := I.list hq
  obtain ⟨w, ew, rw'⟩ := r.get hx
  exact wpAny_getItem_list pl.isList (by omega) (by omega) (by rw [Int.toNat_natCast]; simpa using ew) ⟨v, H, I, rw', q⟩
theorem o_addS : OpR X (binaryOp .Add) rCatS := op_add_str
theorem o_ltS : OpR X (compareOp .Lt) rLtS := op_lt_str
theorem c_intS : CallR X (.type "int") rIntS := call_int_str
theorem c_min2 (hc : X.calm = true) : CallR X (.builtin "min") rMin2 := call_min2 hc
theorem c_max2 (hc : X.calm = true) : CallR X (.builtin "max") rMax2 := call_max2 hc
theorem c_divmod : CallR X (.builtin "divmod") rDivmod := call_divmod
theorem c_list : CallR X (.type "list") (rList X.K) := call_list_of
theorem c_listK {K : PySem.W.Frag} (h : X.K = K) : CallR X (.type "list") (rList K) := by subst h; exact call_list_of
theorem c_isiK {K : PySem.W.Frag} (h : X.K = K) : CallR X (.builtin "isinstance") (rIsi K) := by subst h; exact call_isi
theorem c_lenK {K : PySem.W.Frag} (h : X.K = K) : CallR X (.builtin "len") (rLen K) := by subst h; exact call_len
theorem ix_seqK {K : PySem.W.Frag} (h : X.K = K) : IxR X (rIx K) := by subst h; exact ix_seq
theorem sl_listK {K : PySem.W.Frag} (h : X.K = K) : SlR X (rSlL K) := by subst h; exact sl_list
theorem pe_fldK {K : PySem.W.Frag} {e : Expr} {ta : TE} {f : Str} {pos : Pos} (h : X.K = K) (he : PE X e ta) (hb : attributeBase e f X.env (eval e X.env) = eval e X.env) : PE X (.Attribute e f pos) (tFld K ta f) := by subst h; exact pe_fld he hb
theorem c_int : CallR X (.type "int") rInt1 := call_int1
theorem c_abs : CallR X (.builtin "abs") rAbs := call_abs
theorem c_strI : CallR X (.type "str") rStrI := call_str_int
theorem c_len : CallR X (.builtin "len") (rLen X.K) := call_len
end
end Gx
local macro_rules | `(tactic| walk_at "few") => `(tactic| (refine Nat.lt_of_le_of_lt (m := 30) ?_ (by decide); repeat (first | exact Nat.zero_le _ | refine Gx.few ?_)))
local macro_rules | `(tactic| walk_at "side") => `(tactic| ((try dsimp only [L2.CMul, L2.CDiv, L2.CPow, L2.CDivN]); first | omega | decide | assumption))
local macro_rules | `(tactic| walk_at "go1") => `(tactic| (first
  | with_reducible refine Gx.seq ?_
  | with_reducible refine Gx.asg ?_
  | with_reducible refine Gx.op ?_
  | ((with_reducible refine' Gx.var ?h0 ?_); (case h0 => rfl))
  | with_reducible refine Gx.cst ?_
  | with_reducible refine Gx.i0 ?_
  | with_reducible refine Gx.name ?_
  | with_reducible refine Gx.cons ?_
  | with_reducible refine Gx.nil ?_
  | with_reducible refine Gx.call ?_
  | with_reducible refine Gx.cb ?_
  | with_reducible refine Gx.int1 ?_
  | with_reducible refine Gx.intB ?_
  | with_reducible refine Gx.abs1 ?_
  | with_reducible refine Gx.un ?_
  | with_reducible refine Gx.uu ?_
  | with_reducible refine Gx.ifs ?_
  | with_reducible refine Gx.ifx ?_
  | with_reducible refine Gx.test ?_
  | with_reducible refine Gx.tB ?_
  | with_reducible refine Gx.tb_go ?_
  | with_reducible refine Gx.bv_go ?_
  | with_reducible refine Gx.and_ ?_
  | with_reducible refine Gx.or_ ?_
  | with_reducible refine Gx.not_ ?_
  | with_reducible refine Gx.andV ?_
  | with_reducible refine Gx.m1 ?_
  | with_reducible refine Gx.m1s ?_
  | with_reducible refine Gx.orW ?_
  | with_reducible refine Gx.andW ?_
  | with_reducible refine Gx.orV ?_
  | with_reducible refine Gx.notV ?_
  | with_reducible refine Gx.eqvI ?_
  | with_reducible refine Gx.nevI ?_
  | with_reducible refine Gx.eqvS ?_
  | with_reducible refine Gx.eqvB ?_
  | with_reducible refine Gx.ltS ?_
  | with_reducible refine Gx.nevS ?_
  | with_reducible refine Gx.ret ?_
  | with_reducible refine Gx.retN ?_
  | with_reducible refine Gx.drop ?_
  | with_reducible refine Gx.next ?_
  | with_reducible refine Gx.brk ?_
  | with_reducible refine Gx.cnt ?_
  | with_reducible refine Gx.if_t ?_
  | with_reducible refine Gx.if_f ?_
  | with_reducible refine Gx.if_nt ?_
  | with_reducible refine Gx.whI_t ?_
  | with_reducible refine Gx.whI_f ?_
  | with_reducible refine Gx.if_nf ?_
  | with_reducible refine Gx.for_ ?_
  | with_reducible refine Gx.rng1 ?_
  | with_reducible refine Gx.rng2 ?_
  | with_reducible refine Gx.rng3 ?_
  | with_reducible refine Gx.lwk ?_
  | with_reducible refine Gx.twk ?_
  | with_reducible refine Gx.lst ?_
  | with_reducible refine Gx.tup ?_
  | with_reducible refine Gx.bm ?_
  | with_reducible refine Gx.lc ?_
  | with_reducible refine Gx.lc2 ?_
  | with_reducible refine Gx.gcons ?_
  | with_reducible refine Gx.gnil ?_
  | with_reducible refine Gx.strw ?_
  | with_reducible refine Gx.strp ?_
  | with_reducible refine Gx.fld ?_
  | with_reducible refine Gx.sfld ?_
  | with_reducible refine Gx.meth ?_
  | with_reducible refine Gx.make ?_
  | with_reducible refine Gx.augS ?_
  | with_reducible refine Gx.sub ?_
  | with_reducible refine Gx.slc ?_
  | with_reducible refine Gx.noP ?_
  | with_reducible refine Gx.part ?_
  | with_reducible refine Gx.ptp ?_
  | with_reducible refine Gx.sbp ?_
  | ((with_reducible refine' Gx.wp ?h0 ?_); (case h0 => rfl))
  | with_reducible refine Gx.yes ?_
  | with_reducible refine Gx.rrv ?_
  | with_reducible refine Gx.rg1 ?_
  | with_reducible refine Gx.rg1p ?_
  | ((with_reducible refine' Gx.aug ?h0 ?_); (case h0 => rfl))
  | with_reducible refine Gx.augI ?_))
local macro_rules | `(tactic| walk_at "go") => `(tactic| repeat walk_at "go1")

/-! An own exception whose __init__ begins with super().__init__(e), its base chain ending at ValueError: the promise of that __init__. -/
namespace Sx
open PySem PySem.W PySem.Calls PyProof.Rows L2

/-- what the written part says of the class at C and of its __init__ at f -/
structure SupK (P : Program) (K : Frag) (mg : Str → Option Value) (C f : Addr) (fd : FuncData) (qual : Str) (st : Stmt) : Prop where
  ex : ∃ (oc : Value) (od : Option Addr) (kV doc pm ct : Value) (an : Option Addr) (cda cc : Addr) (osl : Array (Option Value)),
    fd = ksFn "__init__" qual (defArgs st) (defBody st) (defScope st) .none kV doc pm an (.ref cda) ct cc ∧ K.lookup f = some ⟨oc, od, .func fd, osl⟩ ∧ codeIn K (.ref cda) qual = true ∧
    (∃ (ccl : Value) (cdd : Option Addr) (vs : Array Value) (ccs : Array (Option Value)) (file : Str) (tf : Tok), K.lookup cda = some ⟨ccl, cdd, .fields vs, ccs⟩ ∧ vs[2]? = some (.str file tf) ∧ ((P.main.file : Str) == file) = true) ∧
    (∃ (cl : Value) (cld : Option Addr) (csl : Array (Option Value)), K.lookup cc = some ⟨cl, cld, .cell (some (.ref C)), csl⟩)
  top : (P.main.scope.names.lookup ("super" : Str)).isSome = false
  ns : mg "super" = none
  sub : mroIn K C (.ref C) = some true
  opq : nsIn K cStatics "thirdparty.any" = some none
  sup : ks_superIn K C C "__init__" = some (some (.builtin "ValueError.__init__"))
  isV : subIn K (.ref C) (.type "ValueError") = some true

/-- the scope of such an __init__ -/
structure SupScope (N P : List Str) (sc : Scope) : Prop where
  kind : sc.kind = .function
  co : sc.isCoroutine = false
  gen : sc.isGenerator = false
  nd : N.Nodup
  pre : N.take P.length = P
  par : ∀ x ∈ P, sc.names.lookup x = some .local
  nocell : ∀ y ∈ sc.names, y.2 ≠ .cell
  free : ∀ y ∈ sc.names, y.2 = .free → y.1 = "__class__"
  ks : sc.names.lookup ("super" : Str) = some .globalImplicit
  kc : sc.names.lookup ("__class__" : Str) = some .free

def cxS (P : Program) (w : World) (K : Frag) (mg : Str → Option Value) (base : Heap) (N : List Str) (qual : Str) (scope : Scope) (f cda cc : Addr) (A : Around) (outer : List Env) (s : Shared) (H : Hp) : Cx where
  prog := P
  w := w
  K := K
  mg := mg
  base := base
  A := A.deeper (ksEnv qual scope s.heap.objs.size f (.ref cda) cc)
  N := N
  s_0 := s
  H_0 := H
  env := ksEnv qual scope s.heap.objs.size f (.ref cda) cc
  outer := outer
  stack := ksEnv qual scope s.heap.objs.size f (.ref cda) cc :: outer
  ex := []
  calm := true
  fn := fun _ => false
  pn := []
  xe := fun _ _ => False

theorem start_at {N : List Str} {vs : List V} {i : Nat} {v : V} (h : (L2.start N vs)[i]? = some (some v)) : vs[i]? = some v := by
  rcases Nat.lt_or_ge i vs.length with q | q
  · simpa [L2.start, List.getElem?_append, q] using h
  · simp [L2.start, List.getElem?_append, Nat.not_lt.mpr q, List.getElem?_replicate] at h
theorem inv_sup {P : Program} {w : World} {K : Frag} {mg : Str → Option Value} {base : Heap} {N ps : List Str} {qual : Str} {scope : Scope} {f cda cc C : Addr} {A : Around} {outer : List Env} {s : Shared} {H : Hp} {us : List Value} {vs : List V} {cl : Value} {cld : Option Addr} {csl : Array (Option Value)} {h1 : Heap} {t : Nat}
    (S : SupScope N ps scope) (hd : A.handled = none) (e0 : Env0 P w K mg base A outer s H) (hl : vs.length = ps.length) (r : Vals vs us) (hcc : K.lookup cc = some ⟨cl, cld, .cell (some (.ref C)), csl⟩)
    (hn : h1.Ns s.heap.objs.size (fun x => (ps.zip us).reverse.lookup x)) (hk : ∀ b o, s.heap.get? b = some o → h1.get? b = some o) :
    Inv (cxS P w K mg base N qual scope f cda cc A outer s H) [] (L2.start N vs) H { s with heap := h1, toks := t } := by
  have hpl : ps.length ≤ N.length := by have := congrArg List.length S.pre; rw [List.length_take] at this; omega
  have noA : ∀ b : Addr, b ∉ (cxS P w K mg base N qual scope f cda cc A outer s H).ex := fun b z => absurd (show b ∈ ([] : List Addr) from z) (by simp)
  have bcc : base.get? cc = some ⟨cl, cld, .cell (some (.ref C)), csl⟩ := e0.mod.kin _ _ hcc
  have one : ∀ {x : Str} {c : Addr}, ([(("__class__" : Str), cc)] : List (Str × Addr)).lookup x = some c → x = "__class__" ∧ c = cc := fun {x c} e => by
    by_cases hx : x = ("__class__" : Str)
    · subst hx
      simp [List.lookup] at e
      exact ⟨rfl, e.symm⟩
    · have hb : (x == ("__class__" : Str)) = false := beq_eq_false_iff_ne.mpr hx
      simp [List.lookup, hb] at e
  refine ⟨⟨e0.mod, S.kind, rfl, rfl, Nat.le_refl _, fun y z c h1 h2 => ?_, fun y hy => ?_, fun y c h _ => (Bool.noConfusion h), fun _ => hd, Around.frames_deeper e0.frames, .inr ⟨rfl, rfl⟩, fun b z => absurd z (noA b), e0.bs, e0.bsz, fun b _ _ => noA b, fun b z => absurd z (noA b), e0.funs, e0.frf⟩,
    rfl, e0.bare, Un.kept hk, ⟨_, hn, fun i y v h1 h2 h3 => ?_⟩, fun y c h => ⟨some (.ref C), ?_⟩, e0.hok.fresh (Nat.le_refl _), fun y c h => ?_, fun p hp => absurd (show p ∈ ([] : List (Addr × Obj)) from hp) (by simp), e0.hok.kept hk, ?_⟩
  · exact (one h1).1.trans (one h2).1.symm
  · have hy : scope.names.lookup y = some .cell ∨ scope.names.lookup y = some .free := hy
    rcases hy with hy | hy
    · exact absurd rfl (S.nocell _ (PySem.mem_of_lookup hy))
    · have := S.free _ (PySem.mem_of_lookup hy) rfl
      dsimp only at this
      subst this
      exact ⟨cc, rfl⟩
  · have ha := start_at h2
    have hi : i < vs.length := (List.getElem?_eq_some_iff.mp ha).1
    obtain ⟨u, hu, rv⟩ := r.get ha
    have hp : ps[i]? = some y := by
      rw [← S.pre, List.getElem?_take_of_lt (by omega)]; exact h1
    have ndP : ps.Nodup := by rw [← S.pre]; exact S.nd.sublist (List.take_sublist _ _)
    refine ⟨u, rv, .inl ⟨S.par y (List.mem_of_getElem? hp), ?_⟩⟩
    have hul : us.length = ps.length := by rw [← r.length]; exact hl
    show (ps.zip us).reverse.lookup y = some u
    have mem : (y, u) ∈ (ps.zip us).reverse := List.mem_reverse.mpr (List.mem_of_getElem? (i := i) (by rw [List.getElem?_zip_eq_some]; exact ⟨hp, hu⟩))
    have keys : ∀ v', (y, v') ∈ (ps.zip us).reverse → v' = u := fun v' hm => by
      rw [List.mem_reverse, List.mem_iff_getElem?] at hm
      obtain ⟨j, hj⟩ := hm
      rw [List.getElem?_zip_eq_some] at hj
      have hij : j = i := by
        have hjl : j < ps.length := (List.getElem?_eq_some_iff.mp hj.1).1
        have hil : i < ps.length := (List.getElem?_eq_some_iff.mp hp).1
        exact (List.getElem?_inj hjl ndP).mp (hj.1.trans hp.symm)
      rw [hij, hu] at hj
      exact (Option.some.inj hj.2).symm
    cases hlk : (ps.zip us).reverse.lookup y with
    | none =>
      exfalso
      have := List.lookup_eq_none_iff.mp hlk _ mem
      simp at this
    | some v' => rw [keys v' (PySem.mem_of_lookup hlk)]
  · obtain ⟨rfl, rfl⟩ := one h
    exact ⟨_, hk _ _ (e0.bs _ _ bcc).1, rfl⟩
  · obtain ⟨rfl, rfl⟩ := one h
    exact (e0.bs _ _ bcc).2
  · show (vs.map some ++ List.replicate (N.length - vs.length) none).length = N.length
    rw [List.length_append, List.length_map, List.length_replicate]; omega

theorem ex_O {C t : Addr} : excObj C t none .none = ({ cls := .ref C, dict := none, data := .fields #[.ref t, .none, .none, .none, .bool false, .none] } : Obj) := rfl

/-- the method-wrapper called: the args are laid anew, nothing of it is told -/
theorem sup_call {X : Cx} {pins : List (Addr × Obj)} {σ : L2.St} {H : Hp} {s : Shared} {a u C : Addr} {us : List Value} {Q : Value → Shared → Prop} {A : Around} {E : Value → Shared → Prop} (T : OexC X.K C) (I : Inv X pins σ H s) (e : H a = some (exo a C none)) (hu : s.heap.get? u = some (kxs_mw "ValueError.__init__" a)) (hl : us.length ≤ sizeLine)
    (h : ∀ s', Inv X pins σ H s' → Q .none s') : wpAny (model X.prog X.w) A (call (.ref u) us) Q E s := by
  obtain ⟨nm, q, N, bs, bm, sn, sub, ab, col, dd, k0, k1, k2, k3, k5, hC, hbm⟩ := T.cls
  obtain ⟨t1, ho⟩ := exo_at I.hok e
  have hCh := I.kIn _ _ hC
  obtain ⟨hp, g, d, t, os⟩ := s
  have fin : ∀ h', (∀ b o, b ≠ a → hp.get? b = some o → h'.get? b = some o) → h'.get? a = some (excObj C hp.objs.size none .none) → h'.get? hp.objs.size = some (excTup us) → Q .none ⟨h', g, d, t, os⟩ := fun h' k hx _ => by
    have J := I.write (t' := t) (x := a) (e := a) (o := exo a C none) (by rw [e]; exact True.intro) (.inl rfl) k ⟨_, hx⟩ (exo_ok hx)
    have eu : upd H a (exo a C none) = H := by
      funext b
      by_cases hb : b = a
      · rw [hb, upd_same, e]
      · rw [upd_ne hb]
    rw [eu] at J
    exact h _ J
  refine wpAny_call (codeAny_of_tree ?_)
  show wpAny _ A.in1 (callAny (.ref u) ⟨us, []⟩) _ _ _
  simp only [callAny]
  refine wpAny_bind (wpAny_load hu ?_)
  simp only [kxs_mw, show (Value.type "method-wrapper" == Value.type "method" || Value.type "method-wrapper" == Value.type "builtin_function_or_method" || Value.type "method-wrapper" == Value.type "method-wrapper") = true by decide, if_true]
  refine KFB.if_so (by decide) ?_
  refine wpAny_bind (check_bound_init F.excBase_ValueError.toExcCallFacts hCh ho rfl ?_)
  refine wpAny_bind (wpAny_pure (wpAny_pure ?_))
  refine ⟨plainId_quiet F.excBase_ValueError.init.plain _, codeAny_builtin F.excBase_ValueError.initEntry ?_⟩
  exact exc_init_tree (cls := .ref C) (t0 := t1) (dv := none) (c2 := .none) (c3 := .none) (b4 := .bool false) ho hl fin

/-- super() in a body -/
theorem sup_base {P : Program} {w : World} {K : Frag} {mg : Str → Option Value} {base : Heap} {N : List Str} {qual : Str} {scope : Scope} {f cda cc C a : Addr} {A : Around} {outer : List Env} {s0 s : Shared} {H0 H : Hp} {pins : List (Addr × Obj)} {σ : L2.St} {fd : FuncData} {ar : Arg} {body : List Stmt} {p0 p1 : Pos} {attr : Str} {whole : Sem Value}
    {oc cl ccl : Value} {od cld cdd : Option Addr} {osl csl ccs : Array (Option Value)} {vs : Array Value} {file : Str} {tf : Tok} {Q : Value → Shared → Prop} {E : Value → Shared → Prop} {N0 ps : List Str}
    (S : SupScope N0 ps scope) (T : OexC K C) (I : Inv (cxS P w K mg base N qual scope f cda cc A outer s0 H0) pins σ H s) (e : H a = some (exo a C none)) (lkf : K.lookup f = some ⟨oc, od, .func fd, osl⟩) (hp : (fd.params.posonlyargs ++ fd.params.args).head? = some ar) (hlo : scope.names.lookup ar.arg = some .local)
    (hN : N[0]? = some ar.arg) (hσ : σ[0]? = some (some (.ref a)))
    (hcode : K.lookup cda = some ⟨ccl, cdd, .fields vs, ccs⟩) (hvs : vs[2]? = some (.str file tf)) (hfile : ((P.main.file : Str) == file) = true) (hcc : K.lookup cc = some ⟨cl, cld, .cell (some (.ref C)), csl⟩) (hsub : mroIn K C (.ref C) = some true) (hns : mg "super" = none)
    (htop : (P.main.scope.names.lookup ("super" : Str)).isSome = false) (hat : (attr == ("__class__" : Str)) = false)
    (h : ∀ so h', (∀ b o, s.heap.get? b = some o → h'.get? b = some o) → h'.get? so = some (ks_superObj C a C) → Q (.ref so) { s with heap := h' }) :
    PySem.wpAt (model P w) (A.deeper (ksEnv qual scope s0.heap.objs.size f (.ref cda) cc)) (.func body (ksEnv qual scope s0.heap.objs.size f (.ref cda) cc))
      (attributeBase (.Call (.Name "super" p0) [] [] p1) attr (ksEnv qual scope s0.heap.objs.size f (.ref cda) cc) whole) Q E s := by
  have KX : K.In s.heap := I.kIn
  obtain ⟨nm, q, NN, bs, bm, sn, sub, ab, col, dd, k0, k1, k2, k3, k5, hC, hbm⟩ := T.cls
  have hCh := KX _ _ hC
  obtain ⟨t1, ho⟩ := exo_at I.hok e
  obtain ⟨m, hm, hlook⟩ := I.loc
  obtain ⟨mb, b1, b2⟩ := I.ok.mod.blt
  have hv : m ar.arg = some (.ref a) := by
    obtain ⟨u, ru, lk⟩ := hlook 0 _ _ hN hσ (.inl hlo)
    obtain rfl : u = .ref a := ru
    rcases lk with ⟨_, z⟩ | ⟨z, _⟩
    · exact z
    · have z : scope.names.lookup ar.arg = some .cell ∨ scope.names.lookup ar.arg = some .free := z
      rw [hlo] at z
      rcases z with z | z <;> cases z
  have hglob : s.heap.Ns mainGlobals mg := I.ok.mod.glob.keeps I.bk
  have hblt : s.heap.Ns builtinsNs mb := b1.keeps I.bk
  obtain ⟨hh, g, d, t, os⟩ := s
  refine ks_wpAt_super_base (env := ksEnv qual scope s0.heap.objs.size f (.ref cda) cc) S.ks S.kc hat rfl (KX _ _ lkf) rfl hp rfl (KX _ _ hcode) rfl hvs hfile htop ?_
  refine ks_loadName_global S.kind S.ks (loadGlobal_builtin (env := ksEnv qual scope s0.heap.objs.size f (.ref cda) cc) hglob hns hblt ((b2 "super" (by decide)).trans (by first | rfl | kernel_rfl)) ⟨rfl, ?_⟩)
  refine wpAny_loadName_free S.kind S.kc rfl ⟨_, KX _ _ hcc, rfl⟩ ?_
  refine wpAny_loadName_local S.kind hlo hm hv ?_
  refine ks_wpAny_isType_cls hCh rfl ⟨rfl, ?_⟩
  refine ks_wpAny_call_super hCh rfl ho rfl (fun c e => by cases e) (looks_mroIn KX hsub) (fun h' e' k => ?_)
  exact h _ _ (fun b o x => k b o x) e'

/-- THE RULE for an __init__ that begins with super().__init__(e, ..) -/
theorem fn_sup {P : Program} {w : World} {K : Frag} {mg : Str → Option Value} {base : Heap} {k : Nat} {C f : Addr} {fd : FuncData} {qual : Str} {st : Stmt} {N ps : List Str} {sp : Sp} {e : Expr} {es : List Expr} {p0 p1 p2 p3 p4 : Pos} {rest : List Stmt} {ar : Arg}
    (T : OexC K C) (F : SupK P K mg C f fd qual st) (S : SupScope N ps (defScope st)) (len : ∀ vs H Q E, sp vs H Q E → vs.length = ps.length)
    (hbd : defBody st = .Expr (.Call (.Attribute (.Call (.Name "super" p0) [] [] p1) "__init__" p2) (e :: es) [] p3) p4 :: rest)
    (har : ((defArgs st).posonlyargs ++ (defArgs st).args).head? = some ar) (hlo : (defScope st).names.lookup ar.arg = some .local) (hN : N[0]? = some ar.arg)
    (he : ∀ env, starEach (e :: es) env = (false, eval e env) :: starEach es env) (hev : ∀ env, ∃ pl : Sem Bool, eval (.Call (.Attribute (.Call (.Name "super" p0) [] [] p1) "__init__" p2) (e :: es) [] p3) env = (do
      let ov ← attributeBase (.Call (.Name "super" p0) [] [] p1) "__init__" env (eval (.Call (.Name "super" p0) [] [] p1) env)
      standAt p2.atName
      let (f, first) ← holding [ov] (getMethod ov "__init__" pl)
      callWith p3 f first (backTo p3 (starEach (e :: es) env)) []))
    (hpl : ∀ env, (backTo p3 (starEach es env)).any (·.1) = false)
    (hbody : ∀ (cda cc : Addr) (A : Around) (outer : List Env) (s : Shared) (H : Hp) (vs : List V) (Q : VK) (E : XK), sp vs H Q E →
      ∃ ta t a ws, PA (cxS P w K mg base N qual (defScope st) f cda cc A outer s H) (e :: es) ta ∧ PSs (cxS P w K mg base N qual (defScope st) f cda cc A outer s H) rest t ∧ vs = .ref a :: ws ∧ H a = some (exo a C none) ∧
        ta (L2.start N vs) H fun us H1 => us.length ≤ 1000 ∧ H1 a = some (exo a C none) ∧ t { nx := fun _ H' => Q .non H', rt := Q } (L2.start N vs) H1) :
    FnOk P w K mg base CX0 (k + 1) f fd ps sp := by
  obtain ⟨oc, od, kV, doc, pm, ct, an, cda, cc, osl, rfl, lk, hcd, ⟨ccl, cdd, vsC, ccs, file, tf, lcode, hvs, hfile⟩, cl, cld, csl, lcell⟩ := F.ex
  refine ⟨len, fun A outer s H args us vs Q E hr e0 hb r hsp => ?_⟩
  have hl := len _ _ _ _ hsp
  have KX : K.In s.heap := e0.mod.kin.keeps fun b o e => (e0.bs b o e).1
  have lim : s.heap.NoLimit := e0.mod.nolimit.keeps fun b o e => (e0.bs b o e).1
  refine ks_codeAny_call_defAt (body := .Expr (.Call (.Attribute (.Call (.Name "super" p0) [] [] p1) "__init__" p2) (e :: es) [] p3) p4 :: rest) (binds := ps.zip us) hr.depth (KX _ _ lk) rfl lim (codeRec_of KX hcd) (by show FuncBody.stmts (defBody st) = _; rw [hbd]) hb S.nocell
    (fun y hy => S.par _ (List.of_mem_zip hy).1) (fun h₁ hns hk₁ => ?_) S.co S.gen S.kind
  have I := inv_sup (t := s.toks + (ps.zip us).length) (f := f) (cda := cda) (qual := qual) (w := w) S hr.hd e0 hl r lcell hns hk₁
  obtain ⟨ta, t, a, ws, hA, hS, rfl, ea, hta⟩ := hbody cda cc A outer s H vs Q E hsp
  have hσ : (L2.start N (.ref a :: ws))[0]? = some (some (.ref a)) := rfl
  obtain ⟨pl, hev⟩ := hev (ksEnv qual (defScope st) s.heap.objs.size f (.ref cda) cc)
  refine ks_wpAt_execs_cons (ks_wpAt_Expr_any (ks_wpAt_MethodCall ?_ hev) (hi := I.quiet))
  refine sup_base S T I ea lk har hlo hN hσ lcode hvs hfile lcell F.sub F.ns F.top (by decide) fun so h' k hso => ?_
  have I1 := I.kept (t' := s.toks + (ps.zip us).length) k
  have KX1 : K.In h' := I1.kIn
  obtain ⟨nm, q, NN, bs, bm, sn, sub, ab, col, dd, k0, k1, k2, k3, k5, hC, hbm⟩ := T.cls
  obtain ⟨t1, ho⟩ := exo_at I1.hok ea
  have hI : Looks (model P w) h' (isInstance (.ref a) (.type "ValueError")) true := (show InstAt h' a _ C none from ⟨ho, rfl, rfl, trivial⟩).type.andThen (looks_subIn KX1 F.isV)
  have hcl : clsIn K C = some { name := nm, bases := bs, mro := .ref C :: bm, ns := NN, qualname := q, hasDict := true, slotNames := sn, subclasses := sub, abstract := ab, collection := col, hasDel := false } := by unfold clsIn; rw [hC] <;> rfl
  have hsup := F.sup
  unfold ks_superIn at hsup
  rw [hcl, Option.bind_some] at hsup
  have hxC : a ≠ C := fun z => by
    have h1 := KX1 _ _ hC
    have h2 := ho
    rw [z] at h2
    rw [show h'.get? C = _ from h2] at h1
    cases h1
  refine kxs_getMethod kxs_ValueError hso (looks_opaque KX1 F.opq) (l₀ := .ref C :: bm) (fun A Q E s k q => wpAny_bind ((looks_clsIn KX1 hcl) A _ E s k (wpAny_pure q))) rfl KX1 hsup hI hxC (by decide) ?_
  have I2 := I1.kept (h' := h'.push (kxs_mw "ValueError.__init__" a)) (t' := s.toks + (ps.zip us).length + 1) fun b o e => Heap.get?_push_of_some _ e
  have hu : (h'.push (kxs_mw "ValueError.__init__" a)).get? h'.objs.size = some (kxs_mw "ValueError.__init__" a) := Heap.get?_push_at rfl rfl
  have hfr : H h'.objs.size = none := I1.hok.fresh (Nat.le_refl _)
  have I3 := I2.pins_of (pins' := [(h'.objs.size, kxs_mw "ValueError.__init__" a)]) fun p hp => by
    rcases List.mem_singleton.mp hp with rfl
    exact ⟨hu, hfr, fun z => absurd I1.lt (by rw [← show h'.objs.size = _ from z]; exact Nat.lt_irrefl _), I1.nofs (Nat.le_refl _), fun v z => by cases z⟩
  refine kxs_callWith (i := "ValueError.__init__") (x := a) ?_ ?_
  · rw [he]; exact (show (false || (backTo p3 (starEach es (ksEnv qual (defScope st) s.heap.objs.size f (.ref cda) cc))).any (·.1)) = false from by rw [Bool.false_or]; exact hpl _)
  rw [he]
  refine evalArgs_plain ?_
  have hAr := hA.run p3 _ _ _ _ _ I3 hta
  rw [he] at hAr
  refine wpAny_mono hAr (fun vs1 s1 h1 => ?_) (fun _ _ z => False.elim z)
  obtain ⟨xs, H1, J, rv, hle, ea1, hrest⟩ := h1
  have pu := J.pin (h'.objs.size, kxs_mw "ValueError.__init__" a) (List.mem_append_right _ (List.mem_singleton.mpr rfl))
  refine ⟨pu.1, ?_⟩
  refine sup_call (X := cxS P w K mg base N qual (defScope st) f cda cc A outer s H) T J ea1 pu.1 (show vs1.length ≤ sizeLine by rw [← show xs.length = vs1.length from Paired.length rv, sizeLine_eq]; omega) fun s2 J2 => ?_
  refine wpAt_of_any (wpAny_mono (hS.run _ _ _ _ _ J2 hrest) (fun fl s3 h3 => ?_) fun _ _ z => False.elim z)
  have fin : ∀ {σ' : L2.St} {H' : Hp} {v : V} {u : Value}, Inv (cxS P w K mg base N qual (defScope st) f cda cc A outer s H) [(h'.objs.size, kxs_mw "ValueError.__init__" a)] σ' H' s3 → RelV v u → Q v H' → CE outer P w H s Q u s3 :=
    fun {σ' H' v u} J rv q => ⟨v, H', J.os, J.bare, J.base, J.hok, rv, q⟩
  cases fl with
  | ret u =>
    obtain ⟨v, σ', H', J, rv, q⟩ := h3
    exact fin J rv q
  | next =>
    obtain ⟨σ', H', J, q⟩ := h3
    exact fin (v := V.non) (u := Value.none) J rfl q
  | brk =>
    obtain ⟨_, _, _, q⟩ := h3
    exact q.elim
  | cont =>
    obtain ⟨_, _, _, q⟩ := h3
    exact q.elim

/-! ### an own class E(Base) with def __init__(self, x): super().__init__(f"..") ; self.f = x -/
/-- what isinstance asks of the class -/
structure IsC (K : Frag) (C : Addr) : Prop where
  cl : (clsIn K C).isSome = true
  ga : findIn K (.ref C) "__getattribute__" = some (some (.builtin "BaseException.__getattribute__"))
  gg : findIn K (.ref C) "__getattr__" = some none
  bs : subIn K (.ref C) (.type "BaseException") = some true
  ca : findIn K (.ref C) "__class__" = some (some (.builtin "object.__class__"))
  sp : specialIn K (.builtin "object.__class__") "__get__" = some (some (.builtin "getset_descriptor.__get__"))
  tk : takesIn K (.builtin "object.__class__") = some true
  ob : mroIn K C (.type "object") = some true
structure ExcAt (P : Program) (K : Frag) (mg : Str → Option Value) (x q : Str) (st : Stmt) (ps : List Str) where
  C : Addr
  a : Addr
  d : FuncData
  g : mg x = some (.ref C)
  o : OexC K C
  s : SupK P K mg C a d q st
  i : findIn K (.ref C) "__init__" = some (some (.ref a))
  t : typeIn K (.ref a) = some (.type "function")
  b : Binds K d ps []
  xf : XfC K C
  is : IsC K C
  te : exmOne K (.ref C) (.ref C) = some true
/-- an own class without an __init__ -/
structure BareAt (K : Frag) (mg : Str → Option Value) (x : Str) where
  C : Addr
  g : mg x = some (.ref C)
  k : keepIn K (.ref C) = true
  x : excIn K C [.type "ValueError", .type "Exception", .type "BaseException", .type "object"] "ValueError.__new__" = true
  b : subIn K (.ref C) (.type "BaseException") = some true
  t : typeIn K (.ref C) = some (.type "type")
  te : exmOne K (.ref C) (.ref C) = some true
/-- such an __init__ with one text field -/
def sp1 (C : Addr) (f : Str) : Sp := fun vs H Q _ => ∃ (a : Addr) (z : Str), vs = [.ref a, .str z] ∧ z.length ≤ 1000 ∧ H a = some (exo a C none) ∧ ∀ dx, H dx = none → dx ≠ a → Q .non (upd (upd H dx (exd dx [(f, .str z)])) a (exo a C (some dx)))
theorem mkO {C : Addr} {f z : Str} {H : Hp} {Q : XK} (hz : z.length ≤ 1000) (q : ∀ d, H d = none → Q (.ref C) (some d) (upd H d (.xd [(f, .str z)]))) {σ : L2.St} {ta : TA} (hta : ∀ R : List V → Hp → Prop, R [.str z] H → ta σ H R) : tMkO C (sp1 C f) [] ta σ H Q := by
  refine hta _ ⟨by show 1 ≤ 1000; decide, fun a ha => ⟨a, z, rfl, hz, upd_same, fun dx hd hne => ⟨rfl, dx, [(f, .str z)], upd_same, ?_, ?_, ?_⟩⟩⟩
  · rw [upd_ne hne, upd_same]
  · rw [upd_ne hne] at hd; exact hd
  · rw [upd_ne hne] at hd
    have e : upd (L2.del (upd (upd (upd H a (exo a C none)) dx (exd dx [(f, .str z)])) a (exo a C (some dx))) a) dx (.xd [(f, .str z)]) = upd H dx (.xd [(f, .str z)]) := by
      funext b
      by_cases hb : b = dx
      · rw [hb, upd_same, upd_same]
      · rw [upd_ne hb, upd_ne hb]
        by_cases hba : b = a
        · rw [hba, L2.del_same, ha]
        · rw [L2.del_ne hba, upd_ne hba, upd_ne hb, upd_ne hba]
    rw [e]
    exact q dx hd
/-- isinstance(e, c) of the caught exception, its dict known -/
def rIsD (K : Frag) (D a : Addr) (cls : Value) (d : Option Addr) : List V → Hp → VK → Prop := fun xs H Q => ∃ (c : V) (cv : Value) (b : Bool) (dd : Addr) (fs : List (Str × V)), xs = [.ref a, c] ∧ cls = .ref D ∧ d = some dd ∧ H dd = some (.xd fs) ∧ (∀ u, RelV c u → u = cv) ∧ kitOne K (.ref D) cv = some b ∧ Q (.bl b) H
theorem call_isD {X : Cx} {a D : Addr} {oe : Obj} {cls : Value} {d : Option Addr} {pn : List (Addr × Obj)} (T : IsC X.K D) (hz : Zc cls d oe) (hf : ∃ vs, oe.data = .fields vs) : CallR (X.suite a ((a, oe) :: pn)) (.builtin "isinstance") (rIsD X.K D a cls d) := by
  intro pins s σ H xs us Q I r h
  obtain ⟨c, cv, b, dd, fs, rfl, rfl, rfl, hd, hcv, e, q⟩ := h
  cases r with
  | cons rx rr =>
    cases rr with
    | cons rt rr =>
      cases rr
      cases rx
      obtain rfl := hcv _ rt
      have pe := (I.pin (a, oe) (List.mem_append_left _ List.mem_cons_self)).1
      obtain ⟨vs, hv⟩ := hf
      have hx : ObjOk X.prog X.w H s.heap dd (.xd fs) := I.hok dd _ hd
      obtain ⟨mA, hns, _⟩ := hx
      obtain ⟨od, ho, _⟩ := lookIn_ns hns
      have J : InstAt s.heap a oe D (some od) := ⟨pe, hz.1, by unfold notCls; rw [hv] <;> rfl, by rw [hz.2]; exact ho⟩
      exact kia_one (kitx_exc T.cl T.ga T.gg T.bs T.ca T.sp T.tk T.ob) I.kIn J e (fun z => nomatch z) fun tk => ⟨.bl b, H, I.kept (t' := tk) fun _ _ z => z, rfl, q⟩

/-! ### calls whose wish about exceptions knows the caller's slots -/
section
variable {X : Cx} {CX : CXT} {k : Nat} {f C : Addr} {fd : FuncData} {ps : List Str} {sp : Sp} {E : L2.St → XK} {x m : Str} {p pos apos : Pos} {e o : Expr} {es : List Expr} {ta : TE} {t : TA}
def tMakeS (C : Addr) (sp : Sp) (E : L2.St → XK) (t : TA) : TE := fun σ H Q => t σ H fun vs H1 => ∀ x dx, H1 x = none → H1 dx = none → dx ≠ x → sp (.ref x :: vs) (upd (upd H1 dx (.own x)) x (.ins C dx [])) (fun v H2 => v = .non ∧ Q (.ref x) H2) (E σ)
theorem makeS_run {pins : List (Addr × Obj)} {σ : L2.St} {H : Hp} {s : Shared} {Q : VK} {us : List Value} {vs : List V} (M : Mk X.K C f) (F : FnOk X.prog X.w X.K X.mg X.base CX k f fd ps sp) (hr : Room (k + 1) X.A) (hb : Binds X.K fd ps []) (hx : PassesAt CX X σ (E σ)) (I : Inv X pins σ H s) (r : Vals vs us)
    (h : ∀ x dx, H x = none → H dx = none → dx ≠ x → sp (.ref x :: vs) (upd (upd H dx (.own x)) x (.ins C dx [])) (fun v H2 => v = .non ∧ Q (.ref x) H2) (E σ)) : wpAny (model X.prog X.w) X.A (call (.ref C) us) (EP X pins σ Q) X.xe s := by
  generalize hn : s.heap.objs.size = n
  have q0 := h (n + 1) n (I.hok.fresh (by omega)) (I.hok.fresh (by omega)) (by show ¬ (n : Nat) = n + 1; omega)
  subst hn
  have J := Inv.made (C := C) I
  have rv : Vals (V.ref (s.heap.objs.size + 1) :: vs) (Value.ref (s.heap.objs.size + 1) :: us) := .cons (show RelV (V.ref (s.heap.objs.size + 1)) (Value.ref (s.heap.objs.size + 1)) from rfl) r
  have hl := (Paired.length rv).symm.trans (F.len _ _ _ _ q0)
  have bd := hb _ (Value.ref (s.heap.objs.size + 1) :: us) J.kIn (by rw [List.append_nil]; exact hl)
  rw [List.append_nil] at bd
  refine wpAny_call (make_map (f := f) I.kIn M.makes M.init (beq_iff_eq.mp M.fn) ?_)
  refine codeAny_mono (F.run _ X.stack _ _ _ _ _ _ (E σ) (hr.make C us []) (J.env0.make C us []) bd rv q0) fun res s' hq => ?_
  match res, hq with
  | .error e, hq => exact hx pins _ _ e s' J hq
  | .ok (.ret u), hq =>
    obtain ⟨v, H', I3, rv, ev, q3⟩ := J.after hq
    subst ev
    exact ⟨rv, V.ref (s.heap.objs.size + 1), H', I3, rfl, q3⟩
  | .ok .next, hq => exact hq.elim
  | .ok .brk, hq => exact hq.elim
  | .ok .cont, hq => exact hq.elim
theorem pe_makeS (M : Mk X.K C f) (F : FnOk X.prog X.w X.K X.mg X.base CX k f fd ps sp) (hr : Room (k + 1) X.A) (hg : Gl X x) (hm : X.mg x = some (.ref C)) (hb : Binds X.K fd ps []) (hx : ∀ σ, PassesAt CX X σ (E σ)) (ha : PA X (e :: es) t)
    (hdb : (x == ("__debug__" : Str)) = false := by decide) (he : starEach (e :: es) X.env = (false, eval e X.env) :: starEach es X.env := by rfl) (hpl : (backTo pos (starEach es X.env)).any (·.1) = false := by rfl) : PE X (.Call (.Name x p) (e :: es) [] pos) (tMakeS C sp E t) :=
  ⟨fun pins s σ H Q I h => wpAny_Call_Name_kw (ld_glob I hg hm (callWith_K (h₀ := X.base) I.ok.mod.kin M.kp (thn (ha.run pos pins s σ H _ I h) fun us s1 ⟨vs, H1, I1, r, q⟩ => ⟨I1.kIn, makeS_run M F hr hb (hx σ) I1 r q⟩) he hpl) hdb)⟩
def tMethS (C : Addr) (m : Str) (sp : Sp) (E : L2.St → XK) (ta : TE) (t : TA) : TE := fun σ H Q => ta σ H fun x H1 => ∃ a dx fs, x = .ref a ∧ H1 a = some (.ins C dx fs) ∧ fs.lookup m = none ∧ t σ H1 fun vs H2 => sp (x :: vs) H2 Q (E σ)
theorem pe_methS {pl : Sem Bool} (he : PE X o ta) (c : Cls X.K C) (hm : Meth X.K C m f) (F : FnOk X.prog X.w X.K X.mg X.base CX k f fd ps sp) (hr : Room k X.A) (hb : Binds X.K fd ps []) (hx : ∀ σ, PassesAt CX X σ (E σ)) (ha : PA X (e :: es) t)
    (hst : starEach (e :: es) X.env = (false, eval e X.env) :: starEach es X.env := by rfl) (hpl : (backTo pos (starEach es X.env)).any (·.1) = false := by rfl)
    (ht : eval (.Call (.Attribute o m apos) (e :: es) [] pos) X.env = (eval o X.env >>= fun ov => standAt apos.atName >>= fun _ => holding [ov] (getMethod ov m pl) >>= fun z => callWith pos z.1 z.2 (backTo pos (starEach (e :: es) X.env)) (backToKw pos (keywordEach [] X.env))) := by rfl) :
    PE X (.Call (.Attribute o m apos) (e :: es) [] pos) (tMethS C m sp E ta t) := by
  refine ⟨fun pins s σ H Q I h => methodCall_KW (pl := pl) (thn (he.run pins s σ H _ I h) fun u s1 ⟨x, H1, I1, rx, a, dx, fs, ex, ea, l, q⟩ => ?_) ht⟩
  subst ex
  obtain rfl : u = Value.ref a := rx
  exact getmeth_ok I1 ea c hm l (callWith_K (first := [.ref a]) (h₀ := X.base) I.ok.mod.kin hm.kp (thn (ha.run pos pins s1 σ H1 _ I1 q) fun us s2 ⟨vs, H2, I2, r, q2⟩ => ⟨I2.kIn, run_fnS (us := .ref a :: us) (vs := .ref a :: vs) F hr hb (hx σ) I2 (.cons rfl r) q2⟩) hst hpl)
end
/-- an error with this name is raised, whatever was made before -/
def Err (C : Addr) (H : Hp) (z : Str) (E : XK) : Prop := ∀ (H' : Hp) (d : Addr), Same H H' → H' d = none → E (.ref C) (some d) (upd H' d (.xd [("name", .str z)]))
theorem Err.mono {C : Addr} {H H1 : Hp} {z : Str} {E : XK} (h : Err C H z E) (s : Same H H1) : Err C H1 z E := fun H' d s2 hd => h H' d (s.trans s2) hd
theorem Err.now {C : Addr} {H : Hp} {z : Str} {E : XK} (h : Err C H z E) : ∀ d, H d = none → E (.ref C) (some d) (upd H d (.xd [("name", .str z)])) := fun d hd => h H d (Same.refl H) hd
/-- the first number out of its bounds -/
def kindBad (w h d c : Int) : Option Str := if ¬ (1 ≤ w ∧ w ≤ 64) then some "width" else if ¬ (1 ≤ h ∧ h ≤ 64) then some "height" else if ¬ (1 ≤ d ∧ d ≤ 8) then some "depth" else if ¬ (c = 1 ∨ c = 3) then some "channels" else none
def frameBad (w h d c t : Int) : Option Str := match kindBad w h d c with
  | some z => some z
  | none => if ¬ (1 ≤ t ∧ t ≤ 16) then some "tile" else if w * h * c > 3072 then some "size" else none
theorem kindBad_none {w h d c : Int} : kindBad w h d c = none ↔ (1 ≤ w ∧ w ≤ 64) ∧ (1 ≤ h ∧ h ≤ 64) ∧ (1 ≤ d ∧ d ≤ 8) ∧ (c = 1 ∨ c = 3) := by
  unfold kindBad
  by_cases h1 : 1 ≤ w ∧ w ≤ 64 <;> by_cases h2 : 1 ≤ h ∧ h ≤ 64 <;> by_cases h3 : 1 ≤ d ∧ d ≤ 8 <;> by_cases h4 : c = 1 ∨ c = 3 <;> simp [h1, h2, h3, h4]
theorem frameBad_none {w h d c t : Int} : frameBad w h d c t = none ↔ (1 ≤ w ∧ w ≤ 64) ∧ (1 ≤ h ∧ h ≤ 64) ∧ (1 ≤ d ∧ d ≤ 8) ∧ (c = 1 ∨ c = 3) ∧ (1 ≤ t ∧ t ≤ 16) ∧ w * h * c ≤ 3072 := by
  unfold frameBad
  cases e : kindBad w h d c with
  | some z =>
    constructor
    · intro h; cases h
    · rintro ⟨a, b, c', d', _⟩
      rw [kindBad_none.mpr ⟨a, b, c', d'⟩] at e; cases e
  | none =>
    obtain ⟨a, b, c', d'⟩ := kindBad_none.mp e
    by_cases h5 : 1 ≤ t ∧ t ≤ 16 <;> by_cases h6 : w * h * c > 3072 <;> simp [a, b, c', d', h5, h6] <;> omega
theorem frameBad_ne {w h d c t : Int} {z : Str} (e : frameBad w h d c t = some z) : z ≠ "" ∧ z.length ≤ 100 := by
  have key : z = "width" ∨ z = "height" ∨ z = "depth" ∨ z = "channels" ∨ z = "tile" ∨ z = "size" := by
    unfold frameBad kindBad at e
    by_cases h1 : 1 ≤ w ∧ w ≤ 64 <;> by_cases h2 : 1 ≤ h ∧ h ≤ 64 <;> by_cases h3 : 1 ≤ d ∧ d ≤ 8 <;> by_cases h4 : c = 1 ∨ c = 3 <;> by_cases h5 : 1 ≤ t ∧ t ≤ 16 <;> by_cases h6 : w * h * c > 3072 <;> simp [h1, h2, h3, h4, h5, h6] at e <;> simp [← e]
  rcases key with e | e | e | e | e | e <;> subst e <;> exact ⟨by decide +kernel, by decide +kernel⟩
/-- the first part of a key, of a channel and a pixel, that is out of its bounds -/
def keyBad (c n d : Nat) (ch ti pl : Int) : Option Str := if ¬ (0 ≤ ch ∧ ch ≤ (c : Int) - 1) then some "channel" else if ¬ (0 ≤ ti ∧ ti ≤ (n : Int) - 1) then some "tile" else if ¬ (0 ≤ pl ∧ pl ≤ (d : Int) - 1) then some "plane" else none
def pixBad (c n : Nat) (ch px : Int) : Option Str := if ¬ (0 ≤ ch ∧ ch ≤ (c : Int) - 1) then some "channel" else if ¬ (0 ≤ px ∧ px ≤ (n : Int) - 1) then some "pixel" else none
theorem kit_self (K : Frag) (v : Value) : kitOne K v v = some true := by unfold kitOne; rw [if_pos (by simp)]
/-! ### steps of a reading -/
section
variable {K : Frag} {σ : L2.St} {H : Hp} {Q : VK} {D : Ends} {ta te : TE} {t : TA} {sp : Sp} {E : L2.St → XK} {C a : Addr} {m f : Str} {cls : Value} {d : Option Addr} {v : V}
def CS (sp : Sp) (vs : List V) (H : Hp) (Q : VK) (E : XK) : Prop := sp vs H Q E
theorem callS (q : t σ H fun vs H1 => CS sp vs H1 Q (E σ)) : tCallS sp E t σ H Q := q
def MkS (C : Addr) (sp : Sp) (vs : List V) (H : Hp) (Q : VK) (E : XK) : Prop := ∀ x dx, H x = none → H dx = none → dx ≠ x → CS sp (.ref x :: vs) (upd (upd H dx (.own x)) x (.ins C dx [])) (fun v H2 => v = .non ∧ Q (.ref x) H2) E
theorem makeS (q : t σ H fun vs H1 => MkS C sp vs H1 Q (E σ)) : tMakeS C sp E t σ H Q := q
def MtS (C : Addr) (m : Str) (sp : Sp) (E : L2.St → XK) (t : TA) (σ : L2.St) (x : V) (H : Hp) (Q : VK) : Prop := ∃ a dx fs, x = .ref a ∧ H a = some (.ins C dx fs) ∧ fs.lookup m = none ∧ t σ H fun vs H2 => sp (x :: vs) H2 Q (E σ)
theorem methS (q : ta σ H fun x H1 => MtS C m sp E t σ x H1 Q) : tMethS C m sp E ta t σ H Q := q
theorem mts {dx : Addr} {fs : List (Str × V)} (h : H a = some (.ins C dx fs)) (n : fs.lookup m = none) (q : t σ H fun vs H2 => CS sp (.ref a :: vs) H2 Q (E σ)) : MtS C m sp E t σ (.ref a) H Q := ⟨a, dx, fs, rfl, h, n, q⟩
def XfP (a : Addr) (cls : Value) (d : Option Addr) (C : Addr) (f : Str) (x : V) (H : Hp) (Q : VK) : Prop := x = .ref a ∧ cls = .ref C ∧ ∃ (dd : Addr) (fs : List (Str × V)) (v : V), d = some dd ∧ H dd = some (.xd fs) ∧ fs.lookup f = some v ∧ Q v H
theorem xf (q : te σ H fun x H1 => XfP a cls d C f x H1 Q) : tXf a cls d C f te σ H Q := q
theorem xfp {dd : Addr} (h : H dd = some (.xd [(f, v)])) (q : Q v H) : XfP a (.ref C) (some dd) C f (.ref a) H Q := ⟨rfl, rfl, dd, _, v, rfl, h, by simp [List.lookup], q⟩
theorem isD {dd : Addr} {fs : List (Str × V)} {D2 : V} {cv : Value} {b : Bool} (h : H dd = some (.xd fs)) (r : ∀ u, RelV D2 u → u = cv) (k : kitOne K (.ref C) cv = some b) (q : Q (.bl b) H) : rIsD K C a (.ref C) (some dd) [.ref a, D2] H Q := ⟨D2, cv, b, dd, fs, rfl, rfl, rfl, h, r, k, q⟩
theorem isR {dd c : Addr} {fs : List (Str × V)} {b : Bool} (h : H dd = some (.xd fs)) (k : kitOne K (.ref C) (.ref c) = some b) (q : Q (.bl b) H) : rIsD K C a (.ref C) (some dd) [.ref a, .ref c] H Q := isD h (fun u e => e) k q
theorem isT {dd : Addr} {n : String} {fs : List (Str × V)} {b : Bool} (h : H dd = some (.xd fs)) (k : kitOne K (.ref C) (.type n) = some b) (q : Q (.bl b) H) : rIsD K C a (.ref C) (some dd) [.ref a, .ty n] H Q := isD h (fun u e => e) k q
/-- the except clause takes it -/
theorem took {c : Value} {i : Nat} {ts : Addr → Value → Option Addr → TS} {Wout : WX} {H' : Hp} (h : exmOne K cls c = some true) (q : ∀ a, H' a = none → ts a cls d { nx := fun σ' H' => D.nx (σ'.set i none) H', rt := D.rt, bk := fun σ' H' => D.bk (σ'.set i none) H', ct := fun σ' H' => D.ct (σ'.set i none) H' } (σ.set i (some (.ref a))) H') : WE (wAs K c i ts Wout D) σ cls d H' :=
  ⟨true, h, fun _ => q, fun z => Bool.noConfusion z⟩
end
end Sx
local macro_rules | `(tactic| walk_at "go1") => `(tactic| (first
  | with_reducible refine Sx.callS ?_
  | with_reducible refine Sx.makeS ?_
  | with_reducible refine Sx.methS ?_
  | with_reducible refine Sx.xf ?_))

/-! The frame: a call sees a part R of what is tracked; the part S beside it stays as it is. -/
namespace Fx
open PySem L2
/-- what may stand beside: lists, dicts, sets, instances with their own dicts -/
def Fit (S : Hp) (a : Addr) : HO → Prop
  | .lst _ => True
  | .dK _ => True
  | .dT _ => True
  | .set _ _ => True
  | .own y => ∃ C fs, S y = some (.ins C a fs)
  | .ins _ dx _ => S dx = some (.own a)
  | _ => False
structure Own (R H S : Hp) : Prop where
  eq : ∀ a, H a = match S a with | some o => some o | none => R a
  dj : ∀ a o, S a = some o → R a = none
  ft : ∀ a o, S a = some o → Fit S a o
section
variable {R H S R' : Hp} {a b : Addr} {o u : HO}
theorem Own.at (O : Own R H S) (h : S a = some o) : H a = some o := by rw [O.eq, h]
theorem Own.off (O : Own R H S) (h : S a = none) : H a = R a := by rw [O.eq, h]
theorem Own.nos (O : Own R H S) (h : R a = some o) : S a = none := by
  cases e : S a with
  | none => rfl
  | some u => rw [O.dj a u e] at h; cases h
theorem Own.same (O : Own R H S) : Same R H := fun a o h => by rw [O.off (O.nos h)]; exact h
theorem Own.non (O : Own R H S) (h : H a = none) : R a = none ∧ S a = none := by
  have := O.eq a
  cases e : S a with
  | none => rw [e] at this; exact ⟨this.symm.trans h, rfl⟩
  | some u => rw [e] at this; rw [this] at h; cases h
theorem Own.tup {xs : List V} (O : Own R H S) (h : H a = some (.tup xs)) : R a = some (.tup xs) := by
  cases e : S a with
  | none => rw [← O.off e]; exact h
  | some u =>
    rw [O.at e] at h
    cases h
    exact (O.ft a _ e).elim
theorem Own.frz {ob : Obj} {w : HO} (O : Own R H S) (h : H a = some (.frz ob w)) : R a = some (.frz ob w) := by
  cases e : S a with
  | none => rw [← O.off e]; exact h
  | some u =>
    rw [O.at e] at h
    cases h
    exact (O.ft a _ e).elim
theorem Own.tbl {ps} (O : Own R H S) (h : H a = some (.tbl ps)) : R a = some (.tbl ps) := by
  cases e : S a with
  | none => rw [← O.off e]; exact h
  | some u =>
    rw [O.at e] at h
    cases h
    exact (O.ft a _ e).elim
def over (R S : Hp) : Hp := fun a => match S a with | some o => some o | none => R a
theorem over_own (dj : ∀ a o, S a = some o → R a = none) (ft : ∀ a o, S a = some o → Fit S a o) : Own R (over R S) S := ⟨fun _ => rfl, dj, ft⟩
theorem Own.eq_over (O : Own R H S) : H = over R S := funext O.eq
end
section
variable {P : Program} {w : World} {R H S R' : Hp} {h h' : Heap}
theorem down (O : Own R H S) (x : HOk P w H h) : HOk P w R h := fun a o e => by
  refine (x a o (O.same a o e)).stay (fun _ _ _ q => q) (fun b q => ?_) (fun _ _ q => O.tup q)
  cases es : S b with
  | none => rw [← O.off es]; exact q
  | some u =>
    have q2 := (O.at es).symm.trans q
    cases q2
    obtain ⟨C, fs, z⟩ := O.ft b _ es
    rw [O.dj a _ z] at e; cases e
theorem there {a : Addr} {o : HO} (x : ObjOk P w H h a o) (f : Fit S a o) : ∃ ob, h.get? a = some ob := by
  cases o with
  | lst xs => obtain ⟨z, its, n, r, q⟩ := x; exact ⟨_, q⟩
  | dK kvs => obtain ⟨z, y, vs, r, ob, es, ep, q, c⟩ := x; exact ⟨_, q⟩
  | set _ _ => obtain ⟨ob, es, ep, t, q, c⟩ := x; exact ⟨_, q⟩
  | dT kvs => obtain ⟨z, y, xs, r, ob, es, ep, q, c⟩ := x; exact ⟨_, q⟩
  | own y => exact x
  | ins C dx fs => obtain ⟨d, z, ne, q, r⟩ := x; exact ⟨_, q⟩
  | tup _ => exact f.elim
  | xd _ => exact f.elim
  | rng _ _ => exact f.elim
  | frz _ _ => exact f.elim
  | tbl _ => exact f.elim
  | met _ _ => exact f.elim
  | ext _ => exact f.elim
theorem stays (O : Own R H S) (O' : Own R' (over R' S) S) (kp : ∀ b u, h.get? b = some u → R b = none → S b ≠ none → h'.get? b = some u) (tp : ∀ b xs, R b = some (.tup xs) → R' b = some (.tup xs)) {a : Addr} {o : HO} (e : S a = some o) (x : ObjOk P w H h a o) : ObjOk P w (over R' S) h' a o := by
  have ka : ∀ u, h.get? a = some u → h'.get? a = some u := fun u q => kp a u q (O.dj a o e) (by rw [e]; exact fun z => nomatch z)
  have fit := O.ft a o e
  cases o with
  | lst xs => obtain ⟨z, its, n, r, q⟩ := x; exact ⟨z, its, n, r, ka _ q⟩
  | dK kvs => obtain ⟨z, y, vs, r, ob, es, ep, q, c⟩ := x; exact ⟨z, y, vs, r, ob, es, ep, ka _ q, c⟩
  | set _ _ => obtain ⟨ob, es, ep, t, q, c⟩ := x; exact ⟨ob, es, ep, t, ka _ q, c⟩
  | dT kvs =>
    obtain ⟨z, y, xs, r, ob, es, ep, q, c⟩ := x
    exact ⟨z, y, xs, Paired.mapP r fun p q z => ⟨z.1, O'.same _ _ (tp _ _ (O.tup z.2.1)), z.2.2⟩, ob, es, ep, ka _ q, c⟩
  | own y => obtain ⟨ob, q⟩ := x; exact ⟨ob, ka _ q⟩
  | ins C dx fs =>
    obtain ⟨d, z, ne, q, mA, ⟨od, es, ep, e2, c⟩, r⟩ := x
    have f : S dx = some (.own a) := fit
    exact ⟨O'.at f, z, ne, ka _ q, mA, ⟨od, es, ep, kp dx od e2 (O.dj dx _ f) (by rw [f]; exact fun z => nomatch z), c⟩, r⟩
  | tup _ => exact fit.elim
  | xd _ => exact fit.elim
  | rng _ _ => exact fit.elim
  | frz _ _ => exact fit.elim
  | tbl _ => exact fit.elim
  | met _ _ => exact fit.elim
  | ext _ => exact fit.elim
theorem up (O' : Own R' (over R' S) S) (x : HOk P w R' h') (st : ∀ a o, S a = some o → ObjOk P w (over R' S) h' a o) : HOk P w (over R' S) h' := fun a o e => by
  cases es : S a with
  | some u => rw [O'.at es] at e; cases e; exact st a _ es
  | none =>
    rw [O'.off es] at e
    exact (x a o e).stay (fun _ _ _ q => q) (fun b q => O'.same _ _ q) (fun b xs q => O'.same _ _ q)
end
def fr (sp : Sp) : Sp := fun vs H Q E => ∃ R S, Own R H S ∧ sp vs R (fun v R' => ∀ H', Own R' H' S → Q v H') (fun c d R' => ∀ H', Own R' H' S → E c d H')
section
variable {P : Program} {w : World} {K : PySem.W.Frag} {mg : Str → Option Value} {base : Heap} {k : Nat} {f : Addr} {fd : FuncData} {ps : List Str} {sp : Sp}
theorem env (O : Own R H S) {A : Around} {outer : List Env} {s : Shared} (e : Env0 P w K mg base A outer s H) : Env0 P w K mg base A outer s R :=
  ⟨e.frames, e.mod, fun b o q => ⟨(e.bs b o q).1, (O.non (e.bs b o q).2).1⟩, e.bsz, e.funs, fun b q => (O.non (e.frf b q)).1, down O e.hok, e.bare⟩
theorem nofs {O : Own R H S} {A : Around} {outer : List Env} {s : Shared} (e : Env0 P w K mg base A outer s H) {b : Addr} (h : S b ≠ none) : b ∉ frs outer := fun q => by
  have := (O.non (e.frf b q)).2
  exact h this
theorem ce {O : Own R H S} {A : Around} {outer : List Env} {s s' : Shared} {Q : VK} {u : Value} (e : Env0 P w K mg base A outer s H) (c : CE outer P w R s (fun v R' => ∀ H', Own R' H' S → Q v H') u s') : CE outer P w H s Q u s' := by
  obtain ⟨v, R', h1, h2, un, hok, rv, q⟩ := c
  have dj : ∀ a o, S a = some o → R' a = none := fun a o ea => by
    obtain ⟨ob, hob⟩ := there (e.hok a o (O.at ea)) (O.ft a o ea)
    exact un.free a ob hob (O.dj a o ea) (fun z => nomatch z)
  have O' := over_own dj O.ft
  refine ⟨v, over R' S, h1, h2, ⟨fun b o q n nf nx => un.keep b o q (O.non n).1 nf nx, fun b o q n nf nx => un.slot b o q (O.non n).1 nf nx, fun b o q n nx => ?_, un.there, fun b xs q => O'.same _ _ (un.tups b xs (O.tup q)), fun b o xs q => O'.same _ _ (un.frzs b o xs (O.frz q)), fun b ps q => ?_⟩, up O' hok fun a o ea => ?_, rv, q _ O'⟩
  · rw [O'.off (O.non n).2]; exact un.free b o q (O.non n).1 nx
  · obtain ⟨more, z⟩ := un.tbls b ps (O.tbl q)
    exact ⟨more, O'.same _ _ z⟩
  · exact stays O O' (fun b u q n nn => un.keep b u q n (nofs (O := O) e nn) (fun z => nomatch z)) un.tups ea (e.hok a o (O.at ea))
theorem cx {O : Own R H S} {A : Around} {outer : List Env} {s s' : Shared} {E : XK} {u : Value} (e : Env0 P w K mg base A outer s H) (c : L2.CX P w outer R s (fun c d R' => ∀ H', Own R' H' S → E c d H') u s') : L2.CX P w outer H s E u s' := by
  obtain ⟨a, B, R', cls, d, rfl, fl, hok, ub, na, h1, h2, q⟩ := c
  have kp : ∀ b o, s.heap.get? b = some o → R b = none → S b ≠ none → B.get? b = some o := fun b o q n nn => ub.keep b o q n (nofs (O := O) e nn)
  have thr : ∀ a o, S a = some o → ∃ ob, s.heap.get? a = some ob := fun a o ea => there (e.hok a o (O.at ea)) (O.ft a o ea)
  have dj : ∀ a o, S a = some o → R' a = none := fun a o ea => by
    obtain ⟨ob, hob⟩ := thr a o ea
    exact ub.free a ob hob (O.dj a o ea)
  have O' := over_own dj O.ft
  refine ⟨a, B, over R' S, cls, d, rfl, fl, up O' hok fun b o eb => ?_, ⟨fun b o q n nf => ub.keep b o q (O.non n).1 nf, ub.slot, fun b o q n => ?_, ub.there, fun b xs q => O'.same _ _ (ub.tups b xs (O.tup q)), fun b o xs q => O'.same _ _ (ub.frzs b o xs (O.frz q)), fun b ps q => ?_⟩, ?_, h1, h2, q _ O'⟩
  · exact stays O O' kp ub.tups eb (e.hok b o (O.at eb))
  · rw [O'.off (O.non n).2]; exact ub.free b o q (O.non n).1
  · obtain ⟨more, z⟩ := ub.tbls b ps (O.tbl q)
    exact ⟨more, O'.same _ _ z⟩
  · cases es : S a with
    | none => rw [O'.off es]; exact na
    | some o =>
      obtain ⟨ob, hob⟩ := thr a o es
      have := kp a ob hob (O.dj a o es) (by rw [es]; exact fun z => nomatch z)
      rw [fl.2.1] at this; cases this
theorem frame0 (F : FnOk P w K mg base CX0 k f fd ps sp) : FnOk P w K mg base CX0 k f fd ps (fr sp) := by
  refine ⟨fun vs H Q E ⟨R, S, O, h⟩ => F.len _ _ _ _ h, fun A outer s H args us vs Q E hr e bt rv ⟨R, S, O, h⟩ => ?_⟩
  refine codeAny_mono (F.run A outer s R args us vs _ _ hr (env O e) bt rv h) fun r s' c => ?_
  match r, c with
  | .ok (.ret u), c => exact ce (O := O) e c
  | .ok .next, c => exact c
  | .ok .brk, c => exact c
  | .ok .cont, c => exact c
  | .error er, c => exact c
theorem frameX (F : FnOk P w K mg base (L2.CX P w) k f fd ps sp) : FnOk P w K mg base (L2.CX P w) k f fd ps (fr sp) := by
  refine ⟨fun vs H Q E ⟨R, S, O, h⟩ => F.len _ _ _ _ h, fun A outer s H args us vs Q E hr e bt rv ⟨R, S, O, h⟩ => ?_⟩
  refine codeAny_mono (F.run A outer s R args us vs _ _ hr (env O e) bt rv h) fun r s' c => ?_
  match r, c with
  | .ok (.ret u), c => exact ce (O := O) e c
  | .ok .next, c => exact c
  | .ok .brk, c => exact c
  | .ok .cont, c => exact c
  | .error er, c => exact cx (O := O) e c
end
end Fx
/-! Steps with a part beside. -/
namespace Nx
open PySem L2 Fx
def e0 : Hp := fun _ => none
def one (b : Addr) (o : HO) : Hp := fun a => if a = b then some o else none
section
variable {K : PySem.W.Frag} {R H S R0 R1 R2 S1 S2 H1 H2 H3 : Hp} {a b p l : Addr} {o u : HO} {xs ys : List V} {σ : L2.St} {Q : VK} {E : XK} {sp : Sp} {vs dvs : List V} {v : V}
theorem one_at : one b o b = some o := if_pos rfl
theorem one_ne (h : a ≠ b) : one b o a = none := if_neg h
theorem one_some {x : HO} (h : one b o a = some x) : a = b ∧ x = o := by
  unfold one at h
  by_cases e : a = b
  · rw [if_pos e] at h; exact ⟨e, (Option.some.inj h).symm⟩
  · rw [if_neg e] at h; cases h
theorem own0 : Own H H e0 := ⟨fun _ => rfl, (fun a o e => nomatch e), fun a o e => nomatch e⟩
theorem own0_eq (O : Own R H e0) : H = R := funext fun a => by rw [O.eq]; rfl
theorem at1 (O : Own R H (one b o)) : H b = some o := O.at one_at
theorem no1 (O : Own R H (one b o)) : R b = none := O.dj b o one_at
theorem off1 (O : Own R H (one b o)) (h : a ≠ b) : H a = R a := O.off (one_ne h)
theorem mk1 (h : R b = none) (f : Fit (one b o) b o) (e : H b = some o) (k : ∀ a, a ≠ b → H a = R a) : Own R H (one b o) := ⟨fun a => by
    by_cases c : a = b
    · rw [c, one_at]; exact e
    · rw [one_ne c]; exact k a c, fun a x q => by obtain ⟨c, _⟩ := one_some q; rw [c]; exact h, fun a x q => by obtain ⟨c, d⟩ := one_some q; subst c; subst d; exact f⟩
theorem top1 (h : H p = none) : Own H (upd H p (.lst xs)) (one p (.lst xs)) := mk1 h trivial upd_same fun _ c => upd_ne c
theorem put1 (O : Own R H (one b (.lst xs))) : Own R (upd H b (.lst ys)) (one b (.lst ys)) := mk1 (no1 O) trivial upd_same fun _ c => (upd_ne c).trans (off1 O c)
/-- a new object is laid below -/
theorem new (O : Own R H S) (h : H p = none) : Own (upd R p o) (upd H p o) S := ⟨fun a => by
    by_cases c : a = p
    · rw [c, upd_same, (O.non h).2, upd_same]
    · rw [upd_ne c, O.eq, upd_ne c], (fun a x q => by
      by_cases c : a = p
      · rw [c, (O.non h).2] at q; cases q
      · rw [upd_ne c]; exact O.dj a x q), O.ft⟩
/-- two parts beside as one -/
theorem nest (O : Own R H S) (O2 : Own R2 R S2) : Own R2 H (over S2 S) := ⟨fun a => by
    unfold over
    cases e : S a with
    | some x => exact O.at e
    | none => rw [O.off e]; exact O2.eq a, fun a x q => by
      unfold over at q
      cases e : S a with
      | some y => exact (O2.non (O.dj a y e)).1
      | none => rw [e] at q; exact O2.dj a x q, fun a x q => by
      have up : ∀ b y, S2 b = some y → over S2 S b = some y := fun b y z => by
        unfold over; rw [O.nos (O2.at z)]; exact z
      have up2 : ∀ b y, S b = some y → over S2 S b = some y := fun b y z => by unfold over; rw [z]
      have key : Fit S a x ∨ Fit S2 a x := by
        unfold over at q
        cases e : S a with
        | some y => rw [e] at q; cases q; exact .inl (O.ft a _ e)
        | none => rw [e] at q; exact .inr (O2.ft a _ q)
      cases x with
      | ins C dx fs =>
        rcases key with z | z
        · exact up2 _ _ z
        · exact up _ _ z
      | own y =>
        rcases key with ⟨C, fs, z⟩ | ⟨C, fs, z⟩
        · exact ⟨C, fs, up2 _ _ z⟩
        · exact ⟨C, fs, up _ _ z⟩
      | _ => rcases key with z | z <;> exact z⟩
theorem split (O : Own R H S) (O2 : Own R2 R S2) {R2' H' : Hp} (N : Own R2' H' (over S2 S)) : Own R2' (over R2' S2) S2 ∧ Own (over R2' S2) H' S := by
  have dj2 : ∀ a o, S2 a = some o → R2' a = none := fun a o e => N.dj a o (by unfold over; rw [O.nos (O2.at e)]; exact e)
  refine ⟨over_own dj2 O2.ft, ⟨fun a => ?_, fun a x e => ?_, O.ft⟩⟩
  · rw [N.eq]
    unfold over
    cases S a <;> rfl
  · have e2 := N.dj a x (by unfold over; rw [e])
    have e3 := (O2.non (O.dj a x e)).2
    unfold over; rw [e3]; exact e2
/-- the upper part comes below -/
theorem sink (O : Own R0 R S) (O2 : Own R H S2) : Own R0 (over R0 S2) S2 ∧ Own (over R0 S2) H S := by
  have dj2 : ∀ a o, S2 a = some o → R0 a = none := fun a o e => (O.non (O2.dj a o e)).1
  refine ⟨over_own dj2 O2.ft, ⟨fun a => ?_, fun a x e => ?_, O.ft⟩⟩
  · rw [O2.eq, O.eq]
    unfold over
    cases e : S2 a with
    | none => rfl
    | some x => rw [(O.non (O2.dj a x e)).2]
  · unfold over
    rw [O2.nos (O.at e)]
    exact O.dj a x e
theorem whole (q : Gx.CP sp vs dvs H Q E) : Gx.CP (fr sp) vs dvs H Q E := ⟨H, e0, own0, by
  have e1 : (fun v R' => ∀ H', Own R' H' e0 → Q v H') = Q := by
    funext v R'
    exact propext ⟨fun h => h R' own0, fun h H' O => by rw [own0_eq O]; exact h⟩
  have e2 : (fun c d R' => ∀ H', Own R' H' e0 → E c d H') = E := by
    funext c d R'
    exact propext ⟨fun h => h R' own0, fun h H' O => by rw [own0_eq O]; exact h⟩
  rw [e1, e2]; exact q⟩
def Mono (sp : Sp) : Prop := ∀ vs H (Q Q' : VK) (E E' : XK), (∀ v H', Q v H' → Q' v H') → (∀ c d H', E c d H' → E' c d H') → sp vs H Q E → sp vs H Q' E'
theorem inF (O : Own R H S) (q : Gx.CP sp vs dvs R (fun v R' => ∀ H', Own R' H' S → Q v H') (fun c d R' => ∀ H', Own R' H' S → E c d H')) : Gx.CP (fr sp) vs dvs H Q E := ⟨R, S, O, q⟩
theorem inF2 (O : Own R H S) (O2 : Own R2 R S2) (q : Gx.CP sp vs dvs R2 (fun v R2' => ∀ H', Own R2' (over R2' S2) S2 → Own (over R2' S2) H' S → Q v H') (fun c d R2' => ∀ H', Own R2' (over R2' S2) S2 → Own (over R2' S2) H' S → E c d H')) : Gx.CP (fr sp) vs dvs H Q E := by
  refine ⟨R2, over S2 S, nest O O2, ?_⟩
  have e1 : (fun v R2' => ∀ H', Own R2' (over R2' S2) S2 → Own (over R2' S2) H' S → Q v H') = fun v R2' => ∀ H', Own R2' H' (over S2 S) → Q v H' := by
    funext v R'
    exact propext ⟨fun h H' N => h H' (split O O2 N).1 (split O O2 N).2, fun h H' A B => h H' (nest B A)⟩
  have e2 : (fun c d R2' => ∀ H', Own R2' (over R2' S2) S2 → Own (over R2' S2) H' S → E c d H') = fun c d R2' => ∀ H', Own R2' H' (over S2 S) → E c d H' := by
    funext c d R'
    exact propext ⟨fun h H' N => h H' (split O O2 N).1 (split O O2 N).2, fun h H' A B => h H' (nest B A)⟩
  rw [← e1, ← e2]; exact q
end
end Nx
namespace Nx
open PySem L2 Fx
section
variable {K : PySem.W.Frag} {R H S R0 R1 R2 S1 S2 H1 H2 H3 : Hp} {a b p l : Addr} {o u : HO} {xs ys : List V} {σ : L2.St} {Q : VK} {E : XK} {v : V}
theorem viaS (s : Same R H) (f : R a = some o) : H a = some o := s a o f
theorem viaL (s : Same R H) (f : SqL K R a xs) : SqL K H a xs := s.seq f
mutual
theorem dpKeep (s : Same R H) : ∀ (d : PyData) (v : V), Dp K R v d → Dp K H v d
  | .none, _, h => by cases h; exact .non
  | .bool b, _, h => by cases h; exact .bl b
  | .int i, _, h => by cases h; exact .int i
  | .str x, _, h => by cases h; exact .str x
  | .list ds, _, h => by
    cases h with
    | lst hs ha => exact .lst (s.seq hs) (dpsKeep s ds _ ha)
  | .tuple ds, _, h => by
    cases h with
    | tup hs ha => exact .tup (by
        rcases hs with (z | ⟨ob, z⟩) | z
        · exact .inl (.inl (s _ _ z))
        · exact .inl (.inr ⟨ob, s _ _ z⟩)
        · exact .inr z) (dpsKeep s ds _ ha)
  | .dict _, _, h => by cases h
theorem dpsKeep (s : Same R H) : ∀ (ds : List PyData) (vs : List V), DpAll K R vs ds → DpAll K H vs ds
  | [], _, h => by cases h; exact .nil
  | d :: ds, _, h => by
    cases h with
    | cons h1 h2 => exact .cons (dpKeep s d _ h1) (dpsKeep s ds _ h2)
end
theorem viaD {d : PyData} (s : Same R H) (h : Dp K R v d) : Dp K H v d := dpKeep s d v h
theorem viaDs {ds : List PyData} {vs : List V} (s : Same R H) (h : DpAll K R vs ds) : DpAll K H vs ds := dpsKeep s ds vs h
/-- new objects, what is made named -/
theorem lst0 (h : xs.length ≤ sizeLine) (q : ∀ p H', H p = none → Same H H' → H' p = some (.lst xs) → Q (.ref p) H') : Gx.LstP xs H Q := Gx.lstP h fun p hp => q p _ hp (Gx.same_new hp) upd_same
theorem tup0 (h : xs.length ≤ sizeLine) (q : ∀ p H', H p = none → Same H H' → H' p = some (.tup xs) → Q (.ref p) H') : Gx.TupP xs H Q := Gx.tupP h fun p hp => q p _ hp (Gx.same_new hp) upd_same
theorem lstN (h : xs.length ≤ sizeLine) (O : Own R H S) (q : ∀ p R' H', R p = none → Own R' H' S → Same R R' → R' p = some (.lst xs) → Q (.ref p) H') : Gx.LstP xs H Q := Gx.lstP h fun p hp => q p _ _ (O.non hp).1 (new O hp) (Gx.same_new (O.non hp).1) upd_same
theorem tupN (h : xs.length ≤ sizeLine) (O : Own R H S) (q : ∀ p R' H', R p = none → Own R' H' S → Same R R' → R' p = some (.tup xs) → Q (.ref p) H') : Gx.TupP xs H Q := Gx.tupP h fun p hp => q p _ _ (O.non hp).1 (new O hp) (Gx.same_new (O.non hp).1) upd_same
/-- a list that is to change, apart -/
theorem lstT (h : xs.length ≤ sizeLine) (q : ∀ p H', Own H H' (one p (.lst xs)) → Q (.ref p) H') : Gx.LstP xs H Q := Gx.lstP h fun p hp => q p _ (top1 hp)
theorem made0 (q : ∀ l H', H l = none → Same H H' → H' l = some o → Q (.ref l) H') : ∀ l, H l = none → Q (.ref l) (upd H l o) := fun l hl => q l _ hl (Gx.same_new hl) upd_same
theorem Own.made (O : Own R H S) (q : ∀ l R' H', R l = none → Own R' H' S → Same R R' → R' l = some o → Q (.ref l) H') : ∀ l, H l = none → Q (.ref l) (upd H l o) := fun l hl => q l _ _ (O.non hl).1 (Nx.new O hl) (Gx.same_new (O.non hl).1) upd_same
variable {b0 : Addr}
theorem slL0 {lo hi : Option Int} (h : SqL K H a xs) (q : ∀ p H', H p = none → Same H H' → H' p = some (.lst (cutV xs lo hi)) → Q (.ref p) H') : rSlL K (.ref a) lo hi H Q := Gx.slL h (made0 q)
theorem slLN {lo hi : Option Int} (h : SqL K H a xs) (O : Own R H S) (q : ∀ p R' H', R p = none → Own R' H' S → Same R R' → R' p = some (.lst (cutV xs lo hi)) → Q (.ref p) H') : rSlL K (.ref a) lo hi H Q := Gx.slL h (Own.made O q)
theorem cat0 {zs : List V} (h1 : H a = some (.lst xs)) (h2 : H b0 = some (.lst zs)) (hz : xs.length + zs.length ≤ sizeLine) (q : ∀ p H', H p = none → Same H H' → H' p = some (.lst (xs ++ zs)) → Q (.ref p) H') : rCat (.ref a) (.ref b0) H Q := Gx.cat h1 h2 hz (made0 q)
theorem catN {zs : List V} (h1 : H a = some (.lst xs)) (h2 : H b0 = some (.lst zs)) (hz : xs.length + zs.length ≤ sizeLine) (O : Own R H S) (q : ∀ p R' H', R p = none → Own R' H' S → Same R R' → R' p = some (.lst (xs ++ zs)) → Q (.ref p) H') : rCat (.ref a) (.ref b0) H Q := Gx.cat h1 h2 hz (Own.made O q)
theorem repN0 {n : Nat} (h : H a = some (.lst [v])) (hn : n ≤ 100000) (q : ∀ p H', H p = none → Same H H' → H' p = some (.lst (List.replicate n v)) → Q (.ref p) H') : Gx.rRepN (.ref a) (.int (n : Int)) H Q := Gx.repN h hn (made0 q)
theorem repNN {n : Nat} (h : H a = some (.lst [v])) (hn : n ≤ 100000) (O : Own R H S) (q : ∀ p R' H', R p = none → Own R' H' S → Same R R' → R' p = some (.lst (List.replicate n v)) → Q (.ref p) H') : Gx.rRepN (.ref a) (.int (n : Int)) H Q := Gx.repN h hn (Own.made O q)
theorem listL0 (h : SqL K H a xs) (q : ∀ p H', H p = none → Same H H' → H' p = some (.lst xs) → Q (.ref p) H') : Gx.rList K [.ref a] H Q := Gx.listL h (made0 q)
theorem listLN (h : SqL K H a xs) (O : Own R H S) (q : ∀ p R' H', R p = none → Own R' H' S → Same R R' → R' p = some (.lst xs) → Q (.ref p) H') : Gx.rList K [.ref a] H Q := Gx.listL h (Own.made O q)
theorem listT0 (h : SqT K H a xs) (q : ∀ p H', H p = none → Same H H' → H' p = some (.lst xs) → Q (.ref p) H') : Gx.rList K [.ref a] H Q := Gx.listT h (made0 q)
theorem listTN (h : SqT K H a xs) (O : Own R H S) (q : ∀ p R' H', R p = none → Own R' H' S → Same R R' → R' p = some (.lst xs) → Q (.ref p) H') : Gx.rList K [.ref a] H Q := Gx.listT h (Own.made O q)
theorem dvm0 {i j : Int} (c : L2.CDiv i j) (q : ∀ p H', H p = none → Same H H' → H' p = some (.tup [.int (i / j), .int (i % j)]) → Q (.ref p) H') : Gx.rDivmod [.int i, .int j] H Q := Gx.dvm c (made0 q)
theorem dvmN {i j : Int} (c : L2.CDiv i j) (O : Own R H S) (q : ∀ p R' H', R p = none → Own R' H' S → Same R R' → R' p = some (.tup [.int (i / j), .int (i % j)]) → Q (.ref p) H') : Gx.rDivmod [.int i, .int j] H Q := Gx.dvm c (Own.made O q)
theorem catT {zs : List V} (h1 : H a = some (.lst xs)) (h2 : H b0 = some (.lst zs)) (hz : xs.length + zs.length ≤ sizeLine) (q : ∀ p H', Own H H' (one p (.lst (xs ++ zs))) → Q (.ref p) H') : rCat (.ref a) (.ref b0) H Q := Gx.cat h1 h2 hz fun p hp => q p _ (top1 hp)
theorem setT {k : Int} {j : Nat} {P : Hp → Prop} (O : Own R H (one l (.lst xs))) (hk : ixN xs.length k = some j) (q : ∀ H', Own R H' (one l (.lst (xs.set j v))) → P H') : rSetL (.ref l) (.int k) v H P := Gx.setL (at1 O) hk (q _ (put1 O))
theorem appT (O : Own R H (one l (.lst xs))) (hz : xs.length < sizeLine) (q : ∀ H', Own R H' (one l (.lst (xs ++ [v]))) → Q .non H') : rAppend (.ref l) [v] H Q := Gx.app (at1 O) hz (q _ (put1 O))
theorem nevB {x y : Bool} (q : Q (.bl (!decide (x = y))) H) : rNe (.bl x) (.bl y) H Q := Gx.nev (by rw [Gx.eqB]; exact q)
theorem cutV_nat (xs : List Nat) (f : Nat → V) (m : Nat) (h : m ≤ xs.length) : cutV (xs.map f) none (some (m : Int)) = (xs.take m).map f := by
  unfold cutV
  rw [HT.sIx_nat, List.length_map, Nat.min_eq_left h]
  show ((xs.map f).drop 0).take (m - 0) = _
  rw [List.drop_zero, Nat.sub_zero, List.map_take]
theorem cutV_from (xs : List Nat) (f : Nat → V) (m : Nat) (h : m ≤ xs.length) : cutV (xs.map f) (some (m : Int)) none = (xs.drop m).map f := by
  unfold cutV
  rw [HT.sIx_nat, List.length_map, Nat.min_eq_left h]
  show ((xs.map f).drop m).take (xs.length - m) = _
  rw [List.map_drop, List.take_of_length_le (by rw [List.length_drop, List.length_map]; omega)]
/-- isinstance with an own class -/
structure IsO (K : PySem.W.Frag) (C : Addr) : Prop where
  ca : PySem.W.findIn K (.ref C) "__class__" = some (some (.builtin "object.__class__"))
  sp : PySem.W.specialIn K (.builtin "object.__class__") "__get__" = some (some (.builtin "getset_descriptor.__get__"))
  tk : PySem.W.takesIn K (.builtin "object.__class__") = some true
  ob : PySem.W.mroIn K C (.type "object") = some true
theorem isiO {C D dx : Addr} {fs : List (Str × V)} {k : Bool} (I : IsO K C) (cl : Cls K C) (h : H a = some (.ins C dx fs)) (e : PySem.W.kitOne K (.ref C) (.ref D) = some k) (q : Q (.bl k) H) : rIsi K [.ref a, .ref D] H Q := ⟨.ref a, .ref D, .ref C, .ref D, k, rfl, .own D, .base (.ins h cl I.ca I.sp I.tk I.ob), e, q⟩
theorem isiOs {C dx : Addr} {fs : List (Str × V)} (I : IsO K C) (cl : Cls K C) (h : H a = some (.ins C dx fs)) (q : Q (.bl true) H) : rIsi K [.ref a, .ref C] H Q := isiO I cl h (by unfold PySem.W.kitOne; rw [if_pos (by simp)]) q
/-- a comprehension; the values so far stand apart in the list D -/
theorem lcO {J : It} {n : Nat} {G : Hp → Prop} {Y : Nat → Hp → V → Hp → Prop} {g : TG} {t : TT} {te : TE} {vs : List Nat} (w : Walk J n G Y) (I : Nat → List V → Hp → Prop) (hn : n < 16777216) (h0 : I 0 [] H) (hG : ∀ i zs R H', I i zs R → Same R H' → G H')
    (hs : ∀ i x zs R D H1 H2 (Ry : V → Hp → Prop) (Rn : Hp → Prop), i < n → I i zs R → Own R H1 (one D (.lst zs)) → Y i H1 x H2 → (∀ y R' H5, Own R' H5 (one D (.lst zs)) → I (i + 1) (zs ++ [y]) R' → Ry y H5) → (∀ R' H4, Own R' H4 (one D (.lst zs)) → I (i + 1) zs R' → Rn H4) →
      g x (wipe σ vs) H2 fun σ2 H3 => Gx.WP (wipe σ2 vs = wipe σ vs) (t σ2 H3 fun b H4 => Gx.IfP b (te σ2 H4 Ry) (Rn H4)))
    (q : ∀ D zs R H', I n zs R → Own R H' (one D (.lst zs)) → Q (.ref D) H') : Gx.LcP J g t te vs σ Q H := fun D hD => by
  refine lc_it w (fun i H' => ∃ R zs, zs.length ≤ i ∧ Own R H' (one D (.lst zs)) ∧ I i zs R) ⟨H, [], Nat.le_refl 0, top1 hD, h0⟩ (fun i H' _ h => ?_) (fun i x H1 H' hi h y => ?_) (fun H' h => ?_)
  · obtain ⟨R, zs, _, O, hI⟩ := h; exact hG i zs R H' hI O.same
  · obtain ⟨R, zs, hl, O, hI⟩ := h
    exact hs i x zs R D H1 H' _ _ hi hI O y (fun y R' H5 O' hI' => ⟨zs, at1 O', by rw [sizeLine_eq]; omega, R', zs ++ [y], by rw [List.length_append]; show _ + 1 ≤ _; omega, put1 O', hI'⟩) (fun R' H4 O' hI' => ⟨R', zs, by omega, O', hI'⟩)
  · obtain ⟨R, zs, _, O, hI⟩ := h; exact q D zs R H' hI O
end
end Nx
local macro_rules | `(tactic| walk_at "xsame1") => `(tactic| first
  | assumption
  | exact Fx.Own.same (by assumption))
local macro_rules | `(tactic| walk_at "xsame") => `(tactic| first
  | assumption
  | exact L2.Same.refl _
  | (refine' L2.Same.trans ?s1 ?s2; (case s2 => walk_at "xsame1"); (case s1 => walk_at "xsame")))
local macro_rules | `(tactic| walk_at "fact") => `(tactic| first
  | assumption
  | exact Nx.at1 (by assumption)
  | exact L2.upd_same
  | (refine' Nx.viaS ?s ?f; (case s => walk_at "xsame1"); (case f => walk_at "fact"))
  | (refine' L2.SqL.of ?f; (case f => walk_at "fact"))
  | (refine' Nx.viaL ?s ?f; (case s => walk_at "xsame1"); (case f => walk_at "fact"))
  | (refine' L2.SqT.of ?f; (case f => walk_at "fact"))
  | (refine' Nx.viaD ?s ?f; (case s => walk_at "xsame1"); (case f => walk_at "fact")))
local macro_rules | `(tactic| walk_at "run1") => `(tactic| first
  | walk_at "go1"
  | ((with_reducible refine' Gx.ixL ?hf ?ha ?_); (case hf => walk_at "fact"); (case ha => rfl))
  | ((with_reducible refine' Gx.ixT ?hf ?ha ?_); (case hf => walk_at "fact"); (case ha => rfl))
  | with_reducible refine Nx.nevB ?_
  | ((with_reducible refine' Gx.ic ?hc ?_); (case hc => walk_at "side"))
  | ((with_reducible refine' Gx.gtup ?hf ?ha ?_); (case hf => walk_at "fact"); (case ha => rfl)))
local macro_rules | `(tactic| walk_at "run") => `(tactic| repeat walk_at "run1")

namespace Bs
open PySem L2
/-- a bit string as a text of the signs 0 and 1 -/
def cd (b : Bool) : Nat := if b then 49 else 48
def S (bs : List Bool) : Str := ⟨(bs.map cd).toArray⟩
theorem cd_inj {a b : Bool} (h : cd a = cd b) : a = b := by cases a <;> cases b <;> first | rfl | (exact absurd h (by decide))
theorem len (bs : List Bool) : (S bs).length = bs.length := by simp [S, Str.length]
theorem cat (a b : List Bool) : S a ++ S b = S (a ++ b) := by
  show Str.mk ((a.map cd).toArray ++ (b.map cd).toArray) = Str.mk ((a ++ b).map cd).toArray
  rw [List.map_append]; simp
theorem inj {a b : List Bool} : S a = S b ↔ a = b := by
  constructor
  · intro h
    have h2 : a.map cd = b.map cd := congrArg (fun x : Str => x.cps.toList) h
    exact List.map_inj_right (f := cd) (fun _ _ => cd_inj) |>.mp h2
  · intro h; rw [h]
theorem lit0 : Str.ofString "0" = S [false] := by decide +kernel
theorem lit1 : Str.ofString "1" = S [true] := by decide +kernel
theorem lit11 : Str.ofString "11" = S [true, true] := by decide +kernel
theorem lit_ : Str.ofString "" = S [] := by decide +kernel
theorem eq1 (b : Bool) : decide (S [b] = Str.ofString "1") = b := by
  rw [lit1]; cases b
  · exact decide_eq_false (fun h => absurd (inj.mp h) (by decide))
  · exact decide_eq_true rfl
theorem eq0 (b : Bool) : decide (S [b] = Str.ofString "0") = !b := by
  rw [lit0]; cases b
  · exact decide_eq_true rfl
  · exact decide_eq_false (fun h => absurd (inj.mp h) (by decide))
theorem at_ {bs : List Bool} {i : Nat} (h : i < bs.length) : atI (S bs).cps.toList (i : Int) = some (cd (bs.getD i false)) := by
  refine atI_nat ?_
  show (bs.map cd)[i]? = _
  rw [List.getElem?_map, List.getElem?_eq_getElem h]
  simp [List.getD_eq_getElem?_getD, List.getElem?_eq_getElem h]
theorem get_ {bs : List Bool} {i : Nat} (h : i < bs.length) : (S bs).cps[i]? = some (cd (bs.getD i false)) := by
  show ((bs.map cd).toArray)[i]? = _
  rw [List.getElem?_toArray, List.getElem?_map, List.getElem?_eq_getElem h]
  simp [List.getD_eq_getElem?_getD, List.getElem?_eq_getElem h]
section
variable {K : PySem.W.Frag} {H : Hp} {Q : VK}
theorem ix {bs : List Bool} {i : Int} (h0 : 0 ≤ i) (h1 : i < bs.length) (hz : bs.length ≤ 16777216) (q : Q (.str (S [bs.getD i.toNat false])) H) : rIx K (.str (S bs)) (.int i) H Q := by
  have e : i = (i.toNat : Int) := by omega
  rw [e]
  refine Gx.ixS (by rw [len, sizeLine_eq]; exact hz) (at_ (by omega)) ?_
  exact q
theorem lenB {bs : List Bool} (hz : bs.length ≤ 16777216) (q : Q (.int (bs.length : Nat)) H) : Gx.rLen K [.str (S bs)] H Q := by
  refine Gx.lenS (by rw [len, sizeLine_eq]; exact hz) ?_
  rw [len]; exact q
theorem strbit {r : Int} (h : r = 0 ∨ r = 1) (q : ∀ c : Bool, c = decide (r = 1) → Q (.str (S [c])) H) : Gx.rStrI [.int r] H Q := by
  rcases h with h | h
  · subst h
    refine Gx.strI (by decide) ?_
    rw [show (toString (0 : Int) : Str) = S [false] by decide +kernel]
    exact q _ rfl
  · subst h
    refine Gx.strI (by decide) ?_
    rw [show (toString (1 : Int) : Str) = S [true] by decide +kernel]
    exact q _ rfl
end
/-- a bit string, bit by bit -/
theorem walk {bs : List Bool} : Walk (Its (S bs)) bs.length (fun _ => True) (fun i H v H' => H' = H ∧ v = .str (S [bs.getD i false])) := by
  have e : (S bs).cps.size = bs.length := len bs
  refine ⟨fun i H hi _ => ?_, fun H _ => ?_, fun i H v H' hi _ y => ?_⟩
  · show i < (S bs).cps.size; omega
  · show (S bs).cps.size ≤ bs.length; omega
  · obtain ⟨h1, c, hc, rfl⟩ := y
    refine ⟨h1, ?_⟩
    have h := get_ hi
    rw [hc] at h
    rw [Option.some.inj h]; rfl
theorem cut_hi (bs : List Bool) (n : Nat) : cutS (S bs) none (some (n : Int)) = S (bs.take n) := by
  unfold cutS
  have e1 : HT.sIx (S bs).length 0 none = 0 := rfl
  have e2 : HT.sIx (S bs).length (S bs).length (some (n : Int)) = min n bs.length := by
    rw [len]; unfold HT.sIx
    first
      | omega
      | (simp only []; split <;> omega)
      | (split <;> omega)
  rw [e1, e2]
  show Str.mk (List.take (min n bs.length - 0) ((bs.map cd).drop 0)).toArray = Str.mk ((bs.take n).map cd).toArray
  rw [List.drop_zero, Nat.sub_zero, ← List.map_take]
  congr 3
  rw [← List.take_take, List.take_length]
theorem cut_lo (bs : List Bool) (n : Nat) : cutS (S bs) (some (n : Int)) none = S (bs.drop n) := by
  unfold cutS
  have e1 : HT.sIx (S bs).length 0 (some (n : Int)) = min n bs.length := by
    rw [len]; unfold HT.sIx
    first
      | omega
      | (simp only []; split <;> omega)
      | (split <;> omega)
  have e2 : HT.sIx (S bs).length (S bs).length none = bs.length := by rw [len]; rfl
  rw [e1, e2]
  show Str.mk (List.take (bs.length - min n bs.length) ((bs.map cd).drop (min n bs.length))).toArray = Str.mk ((bs.drop n).map cd).toArray
  rw [← List.map_drop, ← List.map_take]
  congr 3
  by_cases h : n ≤ bs.length
  · rw [Nat.min_eq_left h, List.take_of_length_le (by rw [List.length_drop]; omega)]
  · rw [Nat.min_eq_right (by omega), List.drop_eq_nil_of_le (Nat.le_refl _), List.drop_eq_nil_of_le (by omega), List.take_nil]
end Bs

namespace Fb
open PySem PySem.W PySem.Builtin PyProof.Rows PySem.Calls
/-! a number's binary digits by its format, as the model lays them -/
def ds (n : Int) : List Nat := (Nat.toDigits 2 n.natAbs).map fun c => (if (98 : Nat) == 88 then c.toUpper else c).toNat
def sg (n : Int) : List Nat := if decide (n < 0) = true then [45] else []
def dd (n : Int) : List Nat := if (ds n).isEmpty then [] else List.replicate (Int.toNat 0 - (ds n).length) 48 ++ ds n
def pad (n : Int) : Nat := ((-1 : Int) - (((sg n).length : Int) + (([] : List Nat).length : Int) + (([] : List Nat).length : Int)) - ((dd n).length : Int)).toNat
def X (n : Int) : Str := ⟨(List.replicate (pad n) 32 ++ sg n ++ [] ++ List.replicate 0 32 ++ dd n ++ [] ++ List.replicate 0 32).toArray⟩
theorem fmt_eq (n : Int) (t u : Tok) : «int.__format__» ⟨[.int n t, .str (Str.ofString "b") u], []⟩ = retStr (X n) := by kernel_rfl
theorem ds_nat (n : Nat) : ds (n : Int) = (Nat.toDigits 2 n).map Char.toNat := by
  unfold ds; rw [Int.natAbs_natCast]; rfl
/-- the k lowest binary digits of r, the highest first -/
def bin : Nat → Nat → List Bool
  | 0, _ => []
  | k + 1, r => bin k (r / 2) ++ [decide (r % 2 = 1)]
theorem bin_len : ∀ k r, (bin k r).length = k
  | 0, _ => rfl
  | k + 1, r => by unfold bin; rw [List.length_append, bin_len k]; rfl
theorem dig01 (r : Nat) : [(r % 2).digitChar].map Char.toNat = [decide (r % 2 = 1)].map Bs.cd := by
  have h : r % 2 = 0 ∨ r % 2 = 1 := by omega
  rcases h with h | h <;> rw [h] <;> decide
theorem ds_led : ∀ (k r : Nat), r < 2 ^ k → (Nat.toDigits 2 (2 ^ k + r)).map Char.toNat = (true :: bin k r).map Bs.cd
  | 0, r, h => by
    have e : r = 0 := by simpa using h
    subst e
    decide
  | k + 1, r, h => by
    have hp := Nat.two_pow_pos k
    have e2 : 2 ^ (k + 1) = 2 * 2 ^ k := by rw [Nat.pow_succ, Nat.mul_comm]
    rw [Nat.toDigits_of_base_le (by decide) (by omega), List.map_append]
    have e3 : (2 ^ (k + 1) + r) / 2 = 2 ^ k + r / 2 := by omega
    have e4 : (2 ^ (k + 1) + r) % 2 = r % 2 := by omega
    rw [e3, e4, ds_led k (r / 2) (by omega), dig01]
    show _ = (true :: (bin k (r / 2) ++ [decide (r % 2 = 1)])).map Bs.cd
    rw [← List.map_append]; rfl
theorem X_led {k r : Nat} (h : r < 2 ^ k) : X (((2 ^ k + r : Nat)) : Int) = Bs.S (true :: bin k r) := by
  have e : ds (((2 ^ k + r : Nat)) : Int) = (true :: bin k r).map Bs.cd := by rw [ds_nat, ds_led k r h]
  have e1 : sg (((2 ^ k + r : Nat)) : Int) = [] := by unfold sg; rw [decide_eq_false (by omega)]; rfl
  have e2 : dd (((2 ^ k + r : Nat)) : Int) = (true :: bin k r).map Bs.cd := by
    unfold dd; rw [e, show Int.toNat 0 = 0 from rfl, Nat.zero_sub]; rfl
  have e3 : pad (((2 ^ k + r : Nat)) : Int) = 0 := by unfold pad; rw [e1, e2]; simp only [List.length_nil]; omega
  unfold X
  rw [e1, e2, e3]
  simp [Bs.S]
theorem gives_b (n : Int) (t u : Tok) : Gives («int.__format__» ⟨[.int n t, .str (Str.ofString "b") u], []⟩) (.str (X n)) := by
  rw [fmt_eq]
  exact .of_eq rfl
section
variable {Y : L2.Cx}
/-- {x:b} -/
def tFmtB (te : L2.TE) : L2.TE := fun σ H Q => te σ H fun x H1 => ∃ n : Int, x = .int n ∧ (X n).length ≤ sizeLine ∧ Q (.str (X n)) H1
theorem pe_fmtB {e : Expr} {te : L2.TE} {pos p1 p2 : Pos} {j : Nat} (he : L2.PE Y e te) : L2.PE Y (.FormattedValue e (-1) (some (.JoinedStr [.Constant (.str "b") j p1] p2)) pos) (tFmtB te) := by
  refine ⟨fun pins s σ H Q I h => wpAny_FormattedValue_spec (L2.thn (he.run pins s σ H _ I h) fun v s1 hv => ?_)⟩
  obtain ⟨x, H1, I1, r1, n, rfl, hz, q⟩ := hv
  obtain ⟨t, rfl⟩ := r1
  refine wpAny_JoinedStr_one (Calls.Constant_str ⟨_, _, rfl, ?_⟩)
  exact wpAny_formatField_spec (by decide) (fun s' => typeIs_int s' n t) F.slot_int_format F.entry_int_format F.args_int_format_2 (fun u => gives_b n t u) ⟨.str (X n), H1, ((I1.tok _).tok _).tok _, ⟨_, rfl⟩, q⟩ (by decide) hz
end
end Fb

namespace I2
open PySem PySem.NumText PySem.Calls PyProof.Rows L2
/-! a number read from binary digits -/
def dv (b : Bool) : Nat := if b then 1 else 0
/-- the value of bits, the highest first -/
def val (bs : List Bool) : Nat := bs.foldl (fun a b => a * 2 + dv b) 0
theorem cd_ne (b : Bool) : Bs.cd b ≠ 95 ∧ Bs.cd b ≠ 45 ∧ Bs.cd b ≠ 43 ∧ Bs.cd b ≠ 98 ∧ Bs.cd b ≠ 66 ∧ Bs.cd b ≠ 120 ∧ Bs.cd b ≠ 88 ∧ Bs.cd b ≠ 111 ∧ Bs.cd b ≠ 79 ∧ Bs.cd b ≠ 0 := by cases b <;> decide
theorem blank_cd (b : Bool) : NumText.blank (Bs.cd b) = false := by cases b <;> rfl
theorem digit_cd (b : Bool) : NumText.digit? (Bs.cd b) = some (dv b) := by cases b <;> rfl
theorem turn2 (a : Array Nat) (k : Bool) (b : Bool) : NumText.step 2 (a, k) (Bs.cd b) = some (a.push (dv b), true) := by cases b <;> rfl
theorem turns2 : ∀ (bs : List Bool) (a : Array Nat), (bs.map Bs.cd).foldlM (NumText.step 2) (a, true) = some (bs.foldl (fun x b => x.push (dv b)) a, true)
  | [], _ => rfl
  | b :: bs, a => by
    rw [List.map_cons, List.foldlM_cons, turn2]
    exact turns2 bs (a.push (dv b))
theorem digs2 (b : Bool) (bs : List Bool) : NumText.digits? 2 ((b :: bs).map Bs.cd) = some ((b :: bs).foldl (fun x b => x.push (dv b)) #[]) := by
  unfold NumText.digits?
  rw [List.map_cons, List.foldlM_cons, turn2]
  show (List.foldlM (NumText.step 2) ((#[] : Array Nat).push (dv b), true) (bs.map Bs.cd)).bind _ = _
  rw [turns2]
  rfl
theorem worth : ∀ (bs : List Bool) (a : Array Nat), (bs.foldl (fun x b => x.push (dv b)) a).foldl (fun acc d => acc * 2 + d) 0 = bs.foldl (fun x b => x * 2 + dv b) (a.foldl (fun acc d => acc * 2 + d) 0)
  | [], _ => rfl
  | b :: bs, a => by
    rw [List.foldl_cons, worth bs (a.push (dv b)), List.foldl_cons]
    congr 1
    simp
theorem nodrop (bs : List Bool) : (bs.map Bs.cd).dropWhile NumText.blank = bs.map Bs.cd := by
  cases bs with
  | nil => rfl
  | cons b bs => rw [List.map_cons, List.dropWhile_cons, blank_cd]; rfl
theorem nosign (bs : List Bool) : NumText.sign (bs.map Bs.cd) = (false, bs.map Bs.cd) := by
  cases bs with
  | nil => rfl
  | cons b bs => cases b <;> rfl
theorem nopre (bs : List Bool) : NumText.prefix? (bs.map Bs.cd) = none := by
  match bs with
  | [] => rfl
  | [b] => cases b <;> rfl
  | b :: c :: r => cases b <;> cases c <;> rfl
theorem nobase (bs : List Bool) : NumText.based 2 (bs.map Bs.cd) = (2, false, bs.map Bs.cd) := by
  unfold NumText.based
  rw [nopre]; rfl
theorem read2 (b : Bool) (bs : List Bool) : (int_private% "readNumeral") 0 2 ((b :: bs).map Bs.cd) = (int_private% "Numeral.value") ((val (b :: bs) : Nat) : Int) := by
  rw [readNumeral_eq, nodrop, nosign]
  show judge 0 false (based 2 ((b :: bs).map Bs.cd)).1 (based 2 ((b :: bs).map Bs.cd)).2.1 (digits? (based 2 ((b :: bs).map Bs.cd)).1 (((based 2 ((b :: bs).map Bs.cd)).2.2.reverse.dropWhile blank).reverse)) = _
  rw [nobase]
  show judge 0 false 2 false (digits? 2 ((((b :: bs).map Bs.cd).reverse.dropWhile blank).reverse)) = _
  rw [← List.map_reverse, nodrop, List.map_reverse, List.reverse_reverse, digs2]
  show (int_private% "Numeral.value") ((((b :: bs).foldl (fun x b => x.push (dv b)) (#[] : Array Nat)).foldl (fun acc d => acc * 2 + d) 0 : Nat) : Int) = _
  rw [worth]; rfl
theorem seen2 (bs : List Bool) : numTextOf (Bs.S bs) = bs.map Bs.cd ∧ numSeenOf (Bs.S bs) = bs.map Bs.cd := by
  have e1 : numTextOf (Bs.S bs) = bs.map Bs.cd := by
    refine if_pos ?_
    rw [← Array.all_toList, List.all_eq_true]
    intro c hc
    obtain ⟨b, _, rfl⟩ := List.mem_map.mp (show c ∈ bs.map Bs.cd from hc)
    cases b <;> decide
  refine ⟨e1, ?_⟩
  show (numTextOf (Bs.S bs)).takeWhile _ = _
  rw [e1]
  exact NumText.takeWhile_all fun c hc => by
    obtain ⟨b, _, rfl⟩ := List.mem_map.mp hc
    exact bne_iff_ne.mpr (cd_ne b).2.2.2.2.2.2.2.2.2
structure Kept (p : Prop) : Prop where
  out : p
set_option maxHeartbeats 4000000 in
theorem gives2 {bs : List Bool} {b : Bool} {u t : Tok} (hl : (b :: bs).length ≤ 640) : Gives (Builtin.«int.__new__» ⟨[.type "int", .str (Bs.S (b :: bs)) u, .int 2 t], []⟩) (.int ((val (b :: bs) : Nat) : Int)) :=
  .of_wp fun M A E s Q hQ => by
    obtain ⟨hp, g, d, tk, os⟩ := s
    have f1 := F.conv_sub_int
    have f2 := F.madeHere_int
    have f6 : typeOf (.str (Bs.S (b :: bs)) u) = pure (.type "str") := rfl
    obtain ⟨e1, e2⟩ := seen2 (b :: bs)
    have hk := Kept.mk (And.intro (show (numSeenOf (Bs.S (b :: bs))).length ≤ 640 by rw [e2, List.length_map]; exact hl)
      (And.intro (show (int_private% "readNumeral") 0 2 (numSeenOf (Bs.S (b :: bs))) = (int_private% "Numeral.value") ((val (b :: bs) : Nat) : Int) by rw [e2]; exact read2 b bs) (show ((numSeenOf (Bs.S (b :: bs))).length == (numTextOf (Bs.S (b :: bs))).length) = true by rw [e1, e2]; exact beq_self_eq_true _)))
    clear e1 e2 hl
    repeat (any_goals (first | assumption | ((with_reducible show wpAny _ _ ((int_private% "intFromText") _ _ _) _ _ _); refine Hx.wp_textB hk.out.1 hk.out.2.1 hk.out.2.2 ?_) | wp_step))
    all_goals first | exact ⟨_, rfl, hQ⟩ | skip
theorem call2 {prog : Program} {w : World} {A : Around} {E : Value → Shared → Prop} {s : Shared} {Q : Value → Shared → Prop} {bs : List Bool} {b : Bool} {u t : Tok} (hl : (b :: bs).length ≤ 640)
    (hQ : Q (.int ((val (b :: bs) : Nat) : Int) s.toks) { s with toks := s.toks + 1 }) : wpAny (model prog w) A (call (.type "int") [.str (Bs.S (b :: bs)) u, .int 2 t]) Q E s :=
  callType_new F.called_int F.newNe_int (Hx.typeCall_int_2 _ _) (Hx.newCall_int_2 _ _) (fun obj => F.initArgs_range_2 obj _ _) F.entry_int_new (gives2 hl).meets (show (Made.int ((val (b :: bs) : Nat) : Int)).post _ s from ⟨rfl, hQ⟩)
/-- int(t, 2) -/
def rInt2 : List V → Hp → VK → Prop := fun xs H Q => ∃ (b : Bool) (bs : List Bool), xs = [.str (Bs.S (b :: bs)), .int 2] ∧ (b :: bs).length ≤ 640 ∧ Q (.int ((val (b :: bs) : Nat) : Int)) H
theorem c_int2 {X : Cx} : CallR X (.type "int") rInt2 := by
  intro pins s σ H xs us Q I r h
  obtain ⟨b, bs, rfl, hl, q⟩ := h
  obtain ⟨u, w', rfl, r1, r2⟩ := vals2 r
  obtain ⟨t1, rfl⟩ := r1
  obtain ⟨t2, rfl⟩ := r2
  exact call2 hl ⟨.int ((val (b :: bs) : Nat) : Int), H, I.tok _, ⟨_, rfl⟩, q⟩
end I2

namespace Fb
open I2
theorem val_app (bs : List Bool) (b : Bool) : val (bs ++ [b]) = val bs * 2 + dv b := by unfold val; rw [List.foldl_append]; rfl
theorem val_zero (bs : List Bool) : val (false :: bs) = val bs := rfl
theorem dv_of (r : Nat) : dv (decide (r % 2 = 1)) = r % 2 := by
  have h : r % 2 = 0 ∨ r % 2 = 1 := by omega
  rcases h with h | h <;> rw [h] <;> rfl
theorem val_bin : ∀ k v, val (bin k v) = v % 2 ^ k
  | 0, v => by simp [bin, val, Nat.mod_one]
  | k + 1, v => by
    unfold bin
    rw [val_app, val_bin k (v / 2), dv_of, Nat.pow_succ, Nat.mul_comm (2 ^ k) 2, Nat.mod_mul]
    omega
theorem val_lt (bs : List Bool) : val bs < 2 ^ bs.length := by
  suffices h : ∀ (n : Nat) (bs : List Bool), bs.length = n → val bs < 2 ^ n from h _ bs rfl
  intro n
  induction n with
  | zero => intro bs h; rw [List.length_eq_zero_iff.mp h]; decide
  | succ n ih =>
    intro bs h
    rcases List.eq_nil_or_concat bs with e | ⟨cs, b, e⟩
    · rw [e] at h; cases h
    · rw [List.concat_eq_append] at e
      subst e
      rw [List.length_append, List.length_singleton] at h
      have := ih cs (by omega)
      rw [val_app, Nat.pow_succ]
      have hb : dv b ≤ 1 := by cases b <;> decide
      omega
theorem bin_val (bs : List Bool) : bin bs.length (val bs) = bs := by
  suffices h : ∀ (n : Nat) (bs : List Bool), bs.length = n → bin n (val bs) = bs from h _ bs rfl
  intro n
  induction n with
  | zero => intro bs h; rw [List.length_eq_zero_iff.mp h]; rfl
  | succ n ih =>
    intro bs h
    rcases List.eq_nil_or_concat bs with e | ⟨cs, b, e⟩
    · rw [e] at h; cases h
    · rw [List.concat_eq_append] at e
      subst e
      rw [List.length_append, List.length_singleton] at h
      unfold bin
      rw [val_app, show (val cs * 2 + dv b) / 2 = val cs by cases b <;> (unfold dv; simp) <;> omega, ih cs (by omega)]
      congr 2
      cases b <;> (unfold dv; simp) <;> omega
theorem bin_mod : ∀ k v, bin k (v % 2 ^ k) = bin k v
  | 0, _ => rfl
  | k + 1, v => by
    unfold bin
    have e1 : v % 2 ^ (k + 1) / 2 = v / 2 % 2 ^ k := by
      rw [Nat.pow_succ, Nat.mul_comm, Nat.mod_mul]; omega
    have e2 : v % 2 ^ (k + 1) % 2 = v % 2 := by
      rw [Nat.pow_succ, Nat.mul_comm, Nat.mod_mul]; omega
    rw [e1, e2, bin_mod k (v / 2)]
theorem bin_cons : ∀ k v, bin (k + 1) v = decide (v / 2 ^ k % 2 = 1) :: bin k v
  | 0, v => by simp [bin]
  | k + 1, v => by
    rw [bin, bin_cons k (v / 2), Nat.div_div_eq_div_mul, ← Nat.pow_succ']; rfl
theorem bin_eq {k a b : Nat} (ha : a < 2 ^ k) (hb : b < 2 ^ k) (h : bin k a = bin k b) : a = b := by
  have := congrArg val h
  rw [val_bin, val_bin, Nat.mod_eq_of_lt ha, Nat.mod_eq_of_lt hb] at this
  exact this
section
open PySem L2
variable {σ : L2.St} {H : Hp} {Q : VK} {te : TE}
def FbP (x : V) (H : Hp) (Q : VK) : Prop := ∃ n : Int, x = .int n ∧ (X n).length ≤ sizeLine ∧ Q (.str (X n)) H
theorem fmt (q : te σ H fun x H1 => FbP x H1 Q) : tFmtB te σ H Q := q
theorem fbp {k r : Nat} {n : Int} (e : n = ((2 ^ k + r : Nat) : Int)) (h : r < 2 ^ k) (hk : k ≤ 100000) (q : Q (.str (Bs.S (true :: bin k r))) H) : FbP (.int n) H Q :=
  ⟨n, rfl, by rw [e, X_led h, Bs.len, List.length_cons, bin_len, sizeLine_eq]; omega, by rw [e, X_led h]; exact q⟩
theorem int2 {bs : List Bool} (h : bs ≠ []) (hl : bs.length ≤ 640) (q : Q (.int (val bs : Nat)) H) : rInt2 [.str (Bs.S bs), .int 2] H Q := by
  cases bs with
  | nil => exact absurd rfl h
  | cons b bs => exact ⟨b, bs, rfl, hl, q⟩
end
end Fb

namespace Pk
open PySem L2 I2 Fb
/-! bits and bytes -/
def ckStep (a : Int × Int) (b : Int) : Int × Int := ((a.1 + b) % 256, (a.2 + (a.1 + b) % 256) % 256)
def ck (xs : List Int) : Int × Int := xs.foldl ckStep (0, 0)
theorem ck_take {xs : List Int} {i : Nat} (h : i < xs.length) : ck (xs.take (i + 1)) = ckStep (ck (xs.take i)) (xs[i]) := by
  unfold ck
  rw [List.take_add_one, List.getElem?_eq_getElem h, Option.toList_some, List.foldl_append]; rfl
def nb (n : Nat) : Nat := (n + 7) / 8
def fill (bs : List Bool) : List Bool := bs ++ List.replicate (8 * nb bs.length - bs.length) false
theorem fill_len (bs : List Bool) : (fill bs).length = 8 * nb bs.length := by
  unfold fill nb; rw [List.length_append, List.length_replicate]; omega
/-- the i-th eight of some bits -/
def ei (l : List Bool) (i : Nat) : List Bool := (l.drop (8 * i)).take 8
theorem ei_len {l : List Bool} {n i : Nat} (h : l.length = 8 * n) (hi : i < n) : (ei l i).length = 8 := by
  unfold ei; rw [List.length_take, List.length_drop]; omega
def pk (bs : List Bool) : List Int := (List.range (nb bs.length)).map fun i => ((val (ei (fill bs) i) : Nat) : Int)
def un (xs : List Nat) : List Bool := (xs.map (bin 8)).flatten
theorem eights : ∀ (n : Nat) (l : List Bool), l.length = 8 * n → ((List.range n).map (ei l)).flatten = l
  | 0, l, h => by have := List.eq_nil_of_length_eq_zero h; subst this; rfl
  | n + 1, l, h => by
    have ih := eights n (l.drop 8) (by rw [List.length_drop]; omega)
    rw [List.range_succ_eq_map, List.map_cons, List.flatten_cons, List.map_map]
    have e : (ei l) ∘ Nat.succ = ei (l.drop 8) := by
      funext i
      show (l.drop (8 * (i + 1))).take 8 = ((l.drop 8).drop (8 * i)).take 8
      rw [List.drop_drop, show 8 * (i + 1) = 8 + 8 * i by omega]
    rw [e, ih]
    show (l.drop (8 * 0)).take 8 ++ l.drop 8 = l
    rw [Nat.mul_zero, List.drop_zero, List.take_append_drop]
theorem un_len (xs : List Nat) : (un xs).length = 8 * xs.length := by
  unfold un
  induction xs with
  | nil => rfl
  | cons x xs ih => rw [List.map_cons, List.flatten_cons, List.length_append, ih, bin_len, List.length_cons]; omega
theorem ei_zero (b l : List Bool) (h : b.length = 8) : ei (b ++ l) 0 = b := by
  unfold ei
  rw [Nat.mul_zero, List.drop_zero, ← h, List.take_left']
  rfl
theorem ei_succ (b l : List Bool) (h : b.length = 8) (i : Nat) : ei (b ++ l) (i + 1) = ei l i := by
  unfold ei
  rw [show 8 * (i + 1) = b.length + 8 * i by omega, ← List.drop_drop, List.drop_left']
  rfl
theorem ei_un : ∀ (xs : List Nat) (i : Nat) (h : i < xs.length), ei (un xs) i = bin 8 xs[i]
  | x :: xs, 0, _ => ei_zero _ _ (bin_len 8 x)
  | x :: xs, i + 1, h => (ei_succ _ _ (bin_len 8 x) i).trans (ei_un xs i (by rw [List.length_cons] at h; omega))
theorem un_pk {bs : List Bool} {vs : List Nat} (h : vs = (List.range (nb bs.length)).map fun i => val (ei (fill bs) i)) : un vs = fill bs := by
  subst h
  unfold un
  rw [List.map_map]
  have e : (List.range (nb bs.length)).map (bin 8 ∘ fun i => val (ei (fill bs) i)) = (List.range (nb bs.length)).map (ei (fill bs)) := by
    refine List.map_congr_left fun i hi => ?_
    rw [List.mem_range] at hi
    have hl := ei_len (fill_len bs) hi
    have := bin_val (ei (fill bs) i)
    rw [hl] at this
    exact this
  rw [e]
  exact eights _ _ (fill_len bs)
theorem pk_un {xs : List Nat} (h : ∀ x ∈ xs, x < 256) : pk (un xs) = xs.map fun v : Nat => (v : Int) := by
  have hn : nb (un xs).length = xs.length := by rw [un_len]; unfold nb; omega
  have hf : fill (un xs) = un xs := by
    unfold fill; rw [hn, un_len, Nat.sub_self, List.replicate_zero, List.append_nil]
  unfold pk
  rw [hn, hf]
  refine List.ext_getElem (by rw [List.length_map, List.length_map, List.length_range]) fun i h1 h2 => ?_
  rw [List.length_map, List.length_range] at h1
  rw [List.getElem_map, List.getElem_map, List.getElem_range, ei_un xs i h1, val_bin]
  rw [Nat.mod_eq_of_lt (h _ (List.getElem_mem h1))]
/-- the law's part: the i-th eight and seven zeros -/
def part (bs : List Bool) (i : Nat) : List Bool := ei bs i ++ List.replicate 7 false
theorem part_eight {bs : List Bool} {i : Nat} (hi : i < nb bs.length) : (part bs i).take 8 = ei (fill bs) i := by
  unfold nb at hi
  have h8 : 8 * i < bs.length := by omega
  unfold part ei fill
  rw [List.drop_append_of_le_length (by omega)]
  have hd : (bs.drop (8 * i)).length = bs.length - 8 * i := List.length_drop
  generalize hr : bs.drop (8 * i) = r at hd
  rcases Nat.lt_or_ge r.length 8 with q | q
  · rw [List.take_of_length_le (l := r) (by omega), List.take_append, List.take_append, List.take_of_length_le (l := r) (by omega), List.take_replicate, List.take_replicate]
    congr 2
    unfold nb
    omega
  · rw [List.take_append_of_le_length (by rw [List.length_take]; omega), List.take_take, List.take_append_of_le_length q, Nat.min_self]
theorem part_len {bs : List Bool} {i : Nat} (hi : i < nb bs.length) : 8 ≤ (part bs i).length := by
  have h := congrArg List.length (part_eight hi)
  rw [ei_len (fill_len bs) hi, List.length_take] at h
  omega
theorem sum_eight : ∀ (p : List Bool), 8 ≤ p.length → ((List.range 8).map fun k => (if p.getD k false = true then (1 : Int) else 0) * ((2 ^ (7 - k) : Nat) : Int)).sum = ((val (p.take 8) : Nat) : Int)
  | a :: b :: c :: d :: e :: f :: g :: h :: r, _ => by
    cases a <;> cases b <;> cases c <;> cases d <;> cases e <;> cases f <;> cases g <;> cases h <;> rfl
theorem sum_part {bs : List Bool} {i : Nat} (hi : i < nb bs.length) : ((List.range 8).map fun k => (if (part bs i).getD k false = true then (1 : Int) else 0) * ((2 ^ (7 - k) : Nat) : Int)).sum = ((val (ei (fill bs) i) : Nat) : Int) := by
  rw [sum_eight _ (part_len hi), part_eight hi]
theorem bin8 : ∀ v : Nat, bin 8 v = (List.range 8).map fun k => decide (v / 2 ^ (7 - k) % 2 = 1) := fun v => by
  rw [bin_cons, bin_cons, bin_cons, bin_cons, bin_cons, bin_cons, bin_cons, bin_cons]
  rfl
theorem rg8 {n : Nat} (h : n ≤ 1000000) : RgC 0 (n : Int) 8 (nb n) := by
  have e : PySem.Builtin.Range.rangeSize 0 (n : Int) 8 = ((nb n : Nat) : Int) := by
    unfold PySem.Builtin.Range.rangeSize nb
    rw [if_pos (by decide)]
    split <;> omega
  refine ⟨by decide, by decide, ?_, e⟩
  unfold PySem.Builtin.Range.small
  rw [e]
  have hk : nb n ≤ 200000 := by unfold nb; omega
  generalize nb n = k at *
  have fit : ∀ x : Int, -(2 ^ 62) ≤ x → x < 2 ^ 62 → PySem.Builtin.Range.rangeFitsLong x = true := fun x h1 h2 => by
    unfold PySem.Builtin.Range.rangeFitsLong
    rw [Bool.and_eq_true, decide_eq_true_iff, decide_eq_true_iff]
    omega
  simp [fit]
  exact ⟨⟨fit _ (by omega) (by omega), fit _ (by omega) (by omega)⟩, .inr (fit _ (by omega) (by omega))⟩
theorem cut_both (bs : List Bool) (n k : Nat) : cutS (Bs.S bs) (some (n : Int)) (some ((n + k : Nat) : Int)) = Bs.S ((bs.drop n).take k) := by
  unfold cutS
  rw [HT.sIx_nat, HT.sIx_nat, Bs.len]
  show Str.mk (List.take (min (n + k) bs.length - min n bs.length) ((bs.map Bs.cd).drop (min n bs.length))).toArray = Str.mk (((bs.drop n).take k).map Bs.cd).toArray
  rw [← List.map_drop, ← List.map_take]
  congr 3
  by_cases h : n ≤ bs.length
  · rw [Nat.min_eq_left h]
    by_cases h2 : n + k ≤ bs.length
    · rw [Nat.min_eq_left h2, Nat.add_sub_cancel_left]
    · rw [Nat.min_eq_right (by omega), List.take_of_length_le (by rw [List.length_drop]; omega), List.take_of_length_le (by rw [List.length_drop]; omega)]
  · rw [Nat.min_eq_right (a := n + k) (b := bs.length) (by omega), Nat.min_eq_right (a := n) (b := bs.length) (by omega), List.drop_eq_nil_of_le (Nat.le_refl _), List.drop_eq_nil_of_le (by omega), List.take_nil, List.take_nil]
theorem glue (e : Str) (he : e.cps = #[]) : ∀ (rows : List (List Bool)) (a : List Bool), (rows.map Bs.S).foldl (fun acc p => acc ++ e.cps ++ p.cps) (Bs.S a).cps = (Bs.S (a ++ rows.flatten)).cps
  | [], a => by rw [List.flatten_nil, List.append_nil]; rfl
  | r :: rows, a => by
    rw [List.map_cons, List.foldl_cons, he, Array.append_empty, List.flatten_cons, ← List.append_assoc]
    rw [← he]
    have := glue e he rows (a ++ r)
    rw [← this]
    congr 1
    have c := Bs.cat a r
    have := congrArg Str.cps c
    exact this
theorem joinE (rows : List (List Bool)) : Txt.join (Str.ofString "") (rows.map Bs.S) = Bs.S rows.flatten := by
  have he : (Str.ofString "").cps = #[] := rfl
  cases rows with
  | nil => rfl
  | cons r rows =>
    have := glue (Str.ofString "") he rows r
    show Str.mk (((r :: rows).map Bs.S).drop 1 |>.foldl (fun acc p => acc ++ (Str.ofString "").cps ++ p.cps) (Bs.S r).cps) = _
    rw [List.map_cons, List.drop_one, List.tail_cons, this, List.flatten_cons]
theorem sum_len : ∀ (rows : List (List Bool)), (∀ r ∈ rows, r.length ≤ 8) → ((rows.map Bs.S).map (·.length)).sum ≤ 8 * rows.length
  | [], _ => Nat.le_refl _
  | r :: rows, h => by
    have ih := sum_len rows fun x hx => h x (List.mem_cons_of_mem _ hx)
    have h1 := h r (List.mem_cons_self ..)
    rw [List.map_cons, List.map_cons, List.sum_cons, List.length_cons, Bs.len]
    omega
theorem joinN {rows : List (List Bool)} (h8 : ∀ r ∈ rows, r.length ≤ 8) (hl : rows.length ≤ 1000000) : ((rows.map Bs.S).map (·.length)).sum + (rows.map Bs.S).length * (Str.ofString "").length ≤ 16777216 := by
  have := sum_len rows h8
  have e0 : (Str.ofString "").length = 0 := rfl
  rw [e0, Nat.mul_zero]
  omega
theorem joinP {K : PySem.W.Frag} {H : Hp} {Q : VK} {p : Addr} {rows : List (List Bool)} (hp : SqL K H p (rows.map fun r => V.str (Bs.S r))) (h8 : ∀ r ∈ rows, r.length ≤ 8) (hl : rows.length ≤ 1000000) (q : Q (.str (Bs.S rows.flatten)) H) :
    ∃ a p', ∃ ys : List Str, V.str (Str.ofString "") = .str a ∧ [V.ref p] = [.ref p'] ∧ (SqL K H p' (ys.map V.str) ∨ SqT K H p' (ys.map V.str)) ∧ (ys.map (·.length)).sum + ys.length * a.length ≤ 16777216 ∧ Q (.str (Txt.join a ys)) H := by
  refine ⟨_, p, rows.map Bs.S, rfl, rfl, .inl (by rw [List.map_map]; exact hp), ?_, ?_⟩
  · have := sum_len rows h8
    have e0 : (Str.ofString "").length = 0 := rfl
    rw [e0, Nat.mul_zero]
    omega
  · rw [joinE]; exact q
theorem singles {A : Type} (g : A → Bool) : ∀ l : List A, (l.map fun i => [g i]).flatten = l.map g
  | [] => rfl
  | a :: l => by rw [List.map_cons, List.flatten_cons, singles g l, List.map_cons]; rfl
theorem nats : ∀ (xs : List Int), (∀ x ∈ xs, 0 ≤ x ∧ x < 256) → ∃ dn : List Nat, xs = dn.map (fun v : Nat => (v : Int)) ∧ ∀ v ∈ dn, v < 256
  | [], _ => ⟨[], rfl, fun v h => nomatch h⟩
  | x :: xs, h => by
    obtain ⟨dn, e, hd⟩ := nats xs fun y hy => h y (List.mem_cons_of_mem _ hy)
    obtain ⟨h0, h1⟩ := h x (List.mem_cons_self ..)
    refine ⟨x.toNat :: dn, ?_, fun v hv => ?_⟩
    · rw [List.map_cons, Int.toNat_of_nonneg h0, ← e]
    · rcases List.mem_cons.mp hv with q | q
      · omega
      · exact hd v q
theorem un_take {dn : List Nat} {i : Nat} (h : i < dn.length) : un (dn.take (i + 1)) = un (dn.take i) ++ bin 8 dn[i] := by
  unfold un
  rw [List.take_add_one, List.getElem?_eq_getElem h, Option.toList_some, List.map_append, List.flatten_append]
  simp
theorem ifC {c : Bool} {x y : Int} {σ : L2.St} {H : Hp} {Q : VK} (q : Q (.int (if c then x else y)) H) : Gx.IfP c (tC (V.int x) σ H Q) (tC (V.int y) σ H Q) := by cases c <;> exact q
end Pk

namespace Bx
open PySem L2
/-- a box of drawn digits: the list b holds the list p of ints and a place; all of H0 stands beside -/
structure Box (H0 H : Hp) (b p : Addr) (xs : List Int) : Prop where
  same : Same H0 H
  nb : H0 b = none
  np : H0 p = none
  bx : ∃ k : Nat, H b = some (.lst [.ref p, .int (k : Int)])
  dg : H p = some (.lst (xs.map V.int))
theorem Box.ne {H0 H : Hp} {b p : Addr} {xs : List Int} (B : Box H0 H b p xs) : p ≠ b := by
  obtain ⟨k, hk⟩ := B.bx
  intro e
  rw [← e, B.dg] at hk
  have h := Option.some.inj hk
  cases xs with
  | nil => cases h
  | cons x xs => cases h
/-- a new object beside -/
theorem Box.new {H0 H : Hp} {b p c : Addr} {xs : List Int} {o : HO} (B : Box H0 H b p xs) (hc : H c = none) : Box (upd H0 c o) (upd H c o) b p xs := by
  obtain ⟨k, hk⟩ := B.bx
  have h1 : b ≠ c := ne_of_none hk hc
  have h2 : p ≠ c := ne_of_none B.dg hc
  refine ⟨fun a u e => ?_, by rw [upd_ne h1]; exact B.nb, by rw [upd_ne h2]; exact B.np, ⟨k, by rw [upd_ne h1]; exact hk⟩, by rw [upd_ne h2]; exact B.dg⟩
  by_cases ha : a = c
  · subst ha; rw [upd_same] at e ⊢; exact e
  · rw [upd_ne ha] at e ⊢; exact B.same a u e
/-- what was made beside, in a heap that keeps all -/
theorem Box.keep {H0 H H' : Hp} {b p : Addr} {xs : List Int} (B : Box H0 H b p xs) (s : Same H H') : Box H0 H' b p xs := by
  obtain ⟨k, hk⟩ := B.bx
  exact ⟨B.same.trans s, B.nb, B.np, ⟨k, s _ _ hk⟩, s _ _ B.dg⟩
end Bx

namespace Ch
open PySem L2
/-! a chain of two comparisons -/
def ChP (r' : R2) (tc : TE) (y z : V) (σ : L2.St) (H : Hp) (Q : VK) : Prop := ∃ k, z = .bl k ∧ Gx.IfP k (tc σ H fun w H4 => r' y w H4 Q) (Q (.bl false) H)
theorem chain {r r' : R2} {ta tb tc : TE} {σ : L2.St} {H : Hp} {Q : VK} (q : ta σ H fun x H1 => tb σ H1 fun y H2 => r x y H2 fun z H3 => ChP r' tc y z σ H3 Q) : tChain r r' ta tb tc σ H Q := q
theorem chp {r' : R2} {tc : TE} {y z : V} {σ : L2.St} {H : Hp} {Q : VK} (k : Bool) (h : z = .bl k) (q : Gx.IfP k (tc σ H fun w H4 => r' y w H4 Q) (Q (.bl false) H)) : ChP r' tc y z σ H Q := ⟨k, h, q⟩
/-- x is None -/
theorem isN_y {H : Hp} {Q : VK} (q : Q (.bl true) H) : V.non = V.non ∧ Q (.bl (decide (V.non = V.non))) H := ⟨rfl, by rw [decide_eq_true rfl]; exact q⟩
theorem isN_n {a : Addr} {H : Hp} {Q : VK} (q : Q (.bl false) H) : V.non = V.non ∧ Q (.bl (decide (V.ref a = V.non))) H := ⟨rfl, by rw [decide_eq_false (by simp)]; exact q⟩
theorem nonA {P : Prop} (q : P) : V.non = V.non ∧ P := ⟨rfl, q⟩
section
variable {A1 A2 : Prop} {a : Addr} {H : Hp} {Q : VK}
theorem ifN_y {inst : Decidable (V.non = V.non)} (q : A1) : Gx.IfP (@decide (V.non = V.non) inst) A1 A2 := Gx.if_y (decide_eq_true rfl) q
theorem ifN_n {inst : Decidable (V.ref a = V.non)} (q : A2) : Gx.IfP (@decide (V.ref a = V.non) inst) A1 A2 := Gx.if_n (decide_eq_false (by simp)) q
theorem ifN_i {b : Int} {inst : Decidable (V.int b = V.non)} (q : A2) : Gx.IfP (@decide (V.int b = V.non) inst) A1 A2 := Gx.if_n (decide_eq_false (by simp)) q
theorem ifN_s {b : Str} {inst : Decidable (V.str b = V.non)} (q : A2) : Gx.IfP (@decide (V.str b = V.non) inst) A1 A2 := Gx.if_n (decide_eq_false (by simp)) q
theorem nfN_y {inst : Decidable (V.non = V.non)} (q : A2) : Gx.IfP (!@decide (V.non = V.non) inst) A1 A2 := Gx.if_n (by rw [decide_eq_true rfl]; rfl) q
theorem nfN_n {inst : Decidable (V.ref a = V.non)} (q : A1) : Gx.IfP (!@decide (V.ref a = V.non) inst) A1 A2 := Gx.if_y (by rw [decide_eq_false (by simp)]; rfl) q
theorem nfN_i {b : Int} {inst : Decidable (V.int b = V.non)} (q : A1) : Gx.IfP (!@decide (V.int b = V.non) inst) A1 A2 := Gx.if_y (by rw [decide_eq_false (by simp)]; rfl) q
theorem nfN_s {b : Str} {inst : Decidable (V.str b = V.non)} (q : A1) : Gx.IfP (!@decide (V.str b = V.non) inst) A1 A2 := Gx.if_y (by rw [decide_eq_false (by simp)]; rfl) q
end
end Ch
local macro_rules | `(tactic| walk_at "run1") => `(tactic| (first
  | with_reducible refine Ch.chain ?_
  | ((with_reducible refine' Ch.chp _ ?h ?_); (case h => rfl))
  | with_reducible refine Ch.nonA ?_
  | with_reducible refine Ch.ifN_y ?_
  | with_reducible refine Ch.ifN_n ?_
  | with_reducible refine Ch.ifN_i ?_
  | with_reducible refine Ch.ifN_s ?_
  | with_reducible refine Ch.nfN_y ?_
  | with_reducible refine Ch.nfN_n ?_
  | with_reducible refine Ch.nfN_i ?_
  | with_reducible refine Ch.nfN_s ?_))

namespace Rd
open PySem L2 I2 Fb Pk
/-! records and headers, as rows of 32 numbers -/
/-- some digits, filled up to 160 -/
def full (bs : List Bool) : List Bool := bs ++ List.replicate (160 - bs.length) false
theorem full_len {bs : List Bool} (h : bs.length ≤ 160) : (full bs).length = 160 := by
  unfold full; rw [List.length_append, List.length_replicate]; omega
def body (bs : List Bool) : List Nat := (List.range 20).map fun k => val (ei (full bs) k)
def head (n s l : Nat) : List Nat := [75, n / 256, n % 256, s / 256, s % 256, l]
def recN (n s : Nat) (bs : List Bool) : List Nat := head n s bs.length ++ body bs ++ [0, 0, 0, 0, 0, 75]
def I (xs : List Nat) : List Int := xs.map fun v : Nat => (v : Int)
def W (xs : List Nat) : List V := xs.map fun v : Nat => V.int (v : Int)
theorem WI (xs : List Nat) : (I xs).map V.int = W xs := by unfold I W; rw [List.map_map]; rfl
theorem W_app (xs ys : List Nat) : W (xs ++ ys) = W xs ++ W ys := List.map_append
theorem W_len (xs : List Nat) : (W xs).length = xs.length := List.length_map ..
theorem W_get {xs : List Nat} {k : Nat} (h : k < xs.length) : atI (W xs) (k : Int) = some (.int ((xs.getD k 0 : Nat) : Int)) := by
  refine atI_nat ?_
  unfold W
  rw [List.getElem?_map, List.getElem?_eq_getElem h, List.getD_eq_getElem?_getD, List.getElem?_eq_getElem h]; rfl
theorem W_last {xs : List Nat} (h : xs.length = 32) : atI (W xs) (-1) = some (.int ((xs.getD 31 0 : Nat) : Int)) := by
  have e : atI (W xs) (-1) = atI (W xs) ((31 : Nat) : Int) := by
    unfold atI
    rw [W_len, h]
    rfl
  rw [e]
  exact W_get (by omega)
theorem cut_mid {xs : List Nat} (h : xs.length = 32) : cutV (W xs) (some 6) (some (-1)) = W ((xs.drop 6).take 25) := by
  unfold cutV
  rw [W_len, h]
  have e1 : HT.sIx 32 0 (some 6) = 6 := rfl
  have e2 : HT.sIx 32 32 (some (-1)) = 31 := rfl
  rw [e1, e2]
  unfold W
  rw [List.map_take, List.map_drop]
theorem body_len (bs : List Bool) : (body bs).length = 20 := by unfold body; rw [List.length_map, List.length_range]
theorem rec_len (n s : Nat) (bs : List Bool) : (recN n s bs).length = 32 := by
  unfold recN; rw [List.length_append, List.length_append, body_len]; rfl
theorem val_zeros : ∀ k, val (List.replicate k false) = 0
  | 0 => rfl
  | k + 1 => by rw [List.replicate_succ, val_zero, val_zeros k]
theorem body_at {bs : List Bool} {i : Nat} (h : i < 20) : (body bs)[i]? = some (val (ei (full bs) i)) := by
  unfold body
  rw [List.getElem?_map, List.getElem?_range h]; rfl
theorem val_take {l : List Bool} {j : Nat} (h : j < l.length) : ((val (l.take (j + 1)) : Nat) : Int) = 2 * ((val (l.take j) : Nat) : Int) + (if l.getD j false = true then 1 else 0) := by
  rw [List.take_add_one, List.getElem?_eq_getElem h, Option.toList_some, val_app, List.getD_eq_getElem?_getD, List.getElem?_eq_getElem h]
  show (((val (l.take j) * 2 + dv l[j] : Nat)) : Int) = _ + (if l[j] = true then 1 else 0)
  cases l[j] <;> simp [dv] <;> omega
theorem full_fill {bs : List Bool} (h : bs.length ≤ 160) : full bs = fill bs ++ List.replicate (8 * (20 - nb bs.length)) false := by
  unfold full fill
  rw [List.append_assoc, List.replicate_append_replicate]
  congr 2
  unfold nb
  omega
theorem ei_app {l r : List Bool} {n k : Nat} (hl : l.length = 8 * n) (hk : k < n) : ei (l ++ r) k = ei l k := by
  unfold ei
  rw [List.drop_append_of_le_length (by omega), List.take_append_of_le_length (by rw [List.length_drop]; omega)]
theorem ei_beyond {l r : List Bool} {n k : Nat} (hl : l.length = 8 * n) : ei (l ++ r) (n + k) = ei r k := by
  unfold ei
  rw [show 8 * (n + k) = l.length + 8 * k by omega, ← List.drop_drop, List.drop_left']
  rfl
theorem ei_zeros {m k : Nat} (h : k < m) : ei (List.replicate (8 * m) false) k = List.replicate 8 false := by
  unfold ei
  rw [List.drop_replicate, List.take_replicate, Nat.min_eq_left (by omega)]
/-- the body is what pack gives, and zeros -/
theorem body_pk {bs : List Bool} (h : bs.length ≤ 160) : I (body bs) = pk bs ++ List.replicate (20 - nb bs.length) 0 := by
  have hn : nb bs.length ≤ 20 := by unfold nb; omega
  have e : List.range 20 = List.range (nb bs.length) ++ (List.range (20 - nb bs.length)).map (nb bs.length + ·) := by
    rw [← List.range_add]; congr 1; omega
  unfold body I pk
  rw [List.map_map, e, List.map_append, List.map_map, full_fill h]
  congr 1
  · refine List.map_congr_left fun k hk => ?_
    rw [List.mem_range] at hk
    show ((val (ei (fill bs ++ _) k) : Nat) : Int) = _
    rw [ei_app (fill_len bs) hk]
  · refine List.ext_getElem (by simp) fun k h1 h2 => ?_
    rw [List.length_replicate] at h2
    rw [List.getElem_map, List.getElem_range, List.getElem_replicate]
    show ((val (ei (fill bs ++ _) (nb bs.length + k)) : Nat) : Int) = 0
    rw [ei_beyond (fill_len bs), ei_zeros h2, val_zeros]; rfl
/-- what encode makes is the record -/
theorem rec_made {n s : Nat} {bs : List Bool} (h : bs.length ≤ 160) :
    W (head n s bs.length) ++ (pk bs).map V.int ++ List.replicate (20 - nb bs.length + 5) (V.int 0) ++ [V.int 75] = W (recN n s bs) := by
  have e := congrArg (List.map V.int) (body_pk h)
  rw [WI, List.map_append, List.map_replicate] at e
  unfold recN
  rw [W_app, W_app, e, ← List.replicate_append_replicate]
  simp only [List.append_assoc]
  rfl
theorem val8 {bs : List Bool} (h : bs.length = 8) : val bs < 256 := by
  have := val_lt bs; rw [h] at this; exact this
theorem body_lt {bs : List Bool} (h : bs.length ≤ 160) : ∀ v ∈ body bs, v < 256 := by
  intro v hv
  unfold body at hv
  obtain ⟨k, hk, rfl⟩ := List.mem_map.mp hv
  rw [List.mem_range] at hk
  exact val8 (ei_len (n := 20) (full_len h) hk)
theorem un_body {bs : List Bool} (h : bs.length ≤ 160) : un (body bs) = full bs := by
  unfold un body
  rw [List.map_map]
  have e : (List.range 20).map (bin 8 ∘ fun k => val (ei (full bs) k)) = (List.range 20).map (ei (full bs)) := by
    refine List.map_congr_left fun k hk => ?_
    rw [List.mem_range] at hk
    have hl := ei_len (n := 20) (full_len h) hk
    have := bin_val (ei (full bs) k)
    rw [hl] at this
    exact this
  rw [e]
  exact eights 20 _ (full_len h)
/-- what a row of 32 bytes tells -/
def dec (xs : List Nat) : Option (Nat × Nat × List Bool) :=
  if xs.getD 0 0 = 75 ∧ xs.getD 31 0 = 75 ∧ 1 ≤ xs.getD 5 0 ∧ xs.getD 5 0 ≤ 160 then
    some (xs.getD 1 0 * 256 + xs.getD 2 0, xs.getD 3 0 * 256 + xs.getD 4 0, (un ((xs.drop 6).take 20)).take (xs.getD 5 0)) else none
theorem un_app (xs ys : List Nat) : un (xs ++ ys) = un xs ++ un ys := by unfold un; rw [List.map_append, List.flatten_append]
theorem more {xs : List Nat} {c : Nat} (hl : xs.length = 32) (h : c ≤ 160) : (un ((xs.drop 6).take 25)).take c = (un ((xs.drop 6).take 20)).take c := by
  have e : (xs.drop 6).take 25 = (xs.drop 6).take 20 ++ ((xs.drop 6).drop 20).take 5 := by
    rw [← List.take_add]
  rw [e, un_app, List.take_append_of_le_length]
  rw [un_len, List.length_take, List.length_drop]
  omega
theorem dec_rec {n s : Nat} {bs : List Bool} (h1 : 1 ≤ bs.length) (h : bs.length ≤ 160) : dec (recN n s bs) = some (n, s, bs) := by
  have hb := body_len bs
  have e0 : recN n s bs = 75 :: n / 256 :: n % 256 :: s / 256 :: s % 256 :: bs.length :: (body bs ++ [0, 0, 0, 0, 0, 75]) := rfl
  have e31 : (recN n s bs).getD 31 0 = 75 := by
    show ((75 :: n / 256 :: n % 256 :: s / 256 :: s % 256 :: bs.length :: (body bs ++ [0, 0, 0, 0, 0, 75])) : List Nat).getD 31 0 = 75
    simp only [List.getD_cons_succ]
    rw [List.getD_eq_getElem?_getD, List.getElem?_append_right (by omega), hb]
    rfl
  have e6 : ((recN n s bs).drop 6).take 20 = body bs := by
    show ((body bs ++ [0, 0, 0, 0, 0, 75])).take 20 = body bs
    rw [List.take_append_of_le_length (by omega), List.take_of_length_le (by omega)]
  unfold dec
  rw [e31, e6, un_body h]
  have e5 : (recN n s bs).getD 5 0 = bs.length := rfl
  rw [e5, if_pos ⟨rfl, rfl, h1, h⟩]
  have f : (full bs).take bs.length = bs := by unfold full; rw [List.take_left']; rfl
  rw [f]
  show some ((n / 256) * 256 + n % 256, (s / 256) * 256 + s % 256, bs) = some (n, s, bs)
  rw [show n / 256 * 256 + n % 256 = n by omega, show s / 256 * 256 + s % 256 = s by omega]
/-- an answer: none, or a tuple of two numbers and a text -/
def Told (d : Option (Nat × Nat × List Bool)) (v : V) (H : Hp) : Prop :=
  match d with
  | none => v = .non
  | some (a, b, bs) => ∃ t, v = .ref t ∧ H t = some (.tup [.int (a : Int), .int (b : Int), .str (Bs.S bs)])
theorem Told.keep {d : Option (Nat × Nat × List Bool)} {v : V} {H H' : Hp} (t : Told d v H) (s : Same H H') : Told d v H' := by
  cases d with
  | none => exact t
  | some r => obtain ⟨t, e, h⟩ := t; exact ⟨t, e, s _ _ h⟩
theorem eqv_told (a b : Nat) (z : Str) : PyData.eqv (.tuple [.int (a : Int), .int (b : Int), .str z]) (.tuple [.int (a : Int), .int (b : Int), .str z]) = true := by
  simp [PyData.eqv, PyData.eqvAll]
theorem strOkB (bs : List Bool) : PyData.strOk (Bs.S bs) = true := by
  unfold PyData.strOk
  rw [Array.all_eq_true']
  intro c hc
  have : c ∈ bs.map Bs.cd := by
    have h2 := Array.mem_toList_iff.mpr hc
    exact h2
  obtain ⟨b, _, rfl⟩ := List.mem_map.mp this
  cases b <;> rfl
theorem shaped_told (a b : Int) (bs : List Bool) : SeqAt.shaped (.tuple [.int a, .int b, .str (Bs.S bs)]) = true := by simp [SeqAt.shaped, PyData.canLay0, PyData.canLayAll0, PyData.depth, PyData.depthAll, strOkB]
theorem eqTold {K : PySem.W.Frag} {H : Hp} {Q : VK} {p q : Addr} {a b : Nat} {bs : List Bool} (h1 : H p = some (.tup [.int (a : Int), .int (b : Int), .str (Bs.S bs)])) (h2 : H q = some (.tup [.int (a : Int), .int (b : Int), .str (Bs.S bs)])) (k : Q (.bl true) H) : rEqD K (.ref p) (.ref q) H Q :=
  ⟨_, _, .tup (SqT.of h1) (.cons (.int _) (.cons (.int _) (.cons (.str _) .nil))), .tup (SqT.of h2) (.cons (.int _) (.cons (.int _) (.cons (.str _) .nil))), shaped_told _ _ _, shaped_told _ _ _, by rw [eqv_told]; exact k⟩
theorem W_set (xs : List Nat) (j v : Nat) : (W xs).set j (.int (v : Int)) = W (xs.set j v) := by
  unfold W; rw [List.map_set]
end Rd
namespace Bx
open PySem L2
/-- an object of one's own beside the box -/
theorem Box.away {H0 H : Hp} {b p c : Addr} {xs : List Int} (B : Box H0 H b p xs) (hc : H c = none) : c ≠ b ∧ c ≠ p ∧ H0 c = none := by
  obtain ⟨k, hk⟩ := B.bx
  exact ⟨(ne_of_none hk hc).symm, (ne_of_none B.dg hc).symm, B.same.free hc⟩
theorem Box.put {H0 H : Hp} {b p c : Addr} {xs : List Int} {o : HO} (B : Box H0 H b p xs) (w : c ≠ b ∧ c ≠ p ∧ H0 c = none) : Box H0 (upd H c o) b p xs := by
  obtain ⟨k, hk⟩ := B.bx
  exact ⟨Gx.same_up w.2.2 B.same, B.nb, B.np, ⟨k, by rw [upd_ne w.1.symm]; exact hk⟩, by rw [upd_ne w.2.1.symm]; exact B.dg⟩
/-- a comprehension whose turns draw numbers below a limit -/
theorem lcDraw {J : It} {n : Nat} {g : TG} {t : TT} {te : TE} {vs : List Nat} {σ : L2.St} {H0 H : Hp} {b p : Addr} {xs : List Int} {m : Int} {Q : VK} {G : Hp → Prop} {Y : Nat → Hp → V → Hp → Prop} (w : Walk J n G Y) (hn : n < 16777216) (B : Box H0 H b p xs) (hG : ∀ H', G H') (hY : ∀ i H x H', Y i H x H' → H' = H)
    (hs : ∀ i x H' (R : V → Hp → Prop) (R0 : Hp → Prop), i < n → Y i H' x H' → Box H0 H' b p xs → (∀ z H4, 0 ≤ z → z < m → Box H0 H4 b p xs → (∀ c, c ≠ b → H4 c = H' c) → R (.int z) H4) →
      g x (wipe σ vs) H' fun σ2 H2 => Gx.WP (wipe σ2 vs = wipe σ vs) (t σ2 H2 fun c H3 => Gx.IfP c (te σ2 H3 R) (R0 H3)))
    (q : ∀ (ys : List Int) (D : Addr) H2, ys.length = n → (∀ z ∈ ys, 0 ≤ z ∧ z < m) → H D = none → Box H0 H2 b p xs → (∀ c, c ≠ b → c ≠ D → H2 c = H c) → H2 D = some (.lst (ys.map V.int)) → Q (.ref D) H2) : Gx.LcP J g t te vs σ Q H := fun D hD => by
  obtain ⟨kb, hkb⟩ := B.bx
  have hDb : D ≠ b := fun e => by rw [e] at hD; rw [hD] at hkb; cases hkb
  have hDp : D ≠ p := fun e => by rw [e] at hD; have := B.dg; rw [hD] at this; cases this
  have up : ∀ {H' : Hp} {o : HO}, Box H0 H' b p xs → Box H0 (upd H' D o) b p xs := by
    intro H' o B'
    obtain ⟨k, hk⟩ := B'.bx
    refine ⟨fun a u e => ?_, B'.nb, B'.np, ⟨k, by rw [upd_ne hDb.symm]; exact hk⟩, by rw [upd_ne hDp.symm]; exact B'.dg⟩
    have : a ≠ D := by
      intro ea
      subst ea
      have := B.same _ _ e
      rw [hD] at this; cases this
    rw [upd_ne this]; exact B'.same _ _ e
  refine lc_it w (fun i H' => Box H0 H' b p xs ∧ (∀ c, c ≠ b → c ≠ D → H' c = H c) ∧ ∃ ys : List Int, ys.length = i ∧ (∀ z ∈ ys, 0 ≤ z ∧ z < m) ∧ H' D = some (.lst (ys.map V.int))) ⟨up B, fun c _ h => upd_ne h, [], rfl, (fun z h => nomatch h), upd_same⟩ (fun i H' _ _ => hG H') (fun i x H1 H' hi h y => ?_) (fun H' h => ?_)
  · obtain ⟨B1, k1, ys, hl, hP, h2⟩ := h
    have e := hY i H1 x H' y
    subst e
    refine hs i x H' _ _ hi y B1 (fun z H4 h0 h1 B4 k4 => ⟨_, (k4 D hDb).trans h2, by rw [List.length_map, hl, sizeLine_eq]; omega, up B4, fun c c1 c2 => ?_, ys ++ [z], by rw [List.length_append, hl]; rfl, fun u hu => ?_, by rw [upd_same, List.map_append]; rfl⟩)
    · rw [upd_ne c2, k4 c c1, k1 c c1 c2]
    · rcases List.mem_append.mp hu with a | a
      · exact hP u a
      · rw [List.mem_singleton] at a; subst a; exact ⟨h0, h1⟩
  · obtain ⟨B1, k1, ys, hl, hP, h2⟩ := h
    exact q ys D H' hl hP hD B1 k1 h2
end Bx

namespace Nx
open PySem L2 Fx
section
variable {K : PySem.W.Frag} {R H S R0 R1 R2 S1 S2 H1 H2 H3 : Hp} {a b p l : Addr} {o u : HO} {xs ys : List V} {σ : L2.St} {Q : VK} {E : XK} {v : V}
/-- a box of drawn digits -/
structure Bo (R H : Hp) (b p : Addr) (xs : List Int) : Prop where
  bx : ∃ k : Nat, Own R H (one b (.lst [.ref p, .int (k : Int)]))
  dg : R p = some (.lst (xs.map V.int))
variable {ns : List Int}
theorem Bo.same (B : Bo R H b p ns) : Same R H := let ⟨_, O⟩ := B.bx; O.same
theorem Bo.new (B : Bo R H b p ns) (h : H a = none) : R a = none ∧ Bo (upd R a o) (upd H a o) b p ns := by
  obtain ⟨⟨k, O⟩, d⟩ := B
  exact ⟨(O.non h).1, ⟨k, Nx.new O h⟩, (Gx.same_new (O.non h).1) _ _ d⟩
theorem lstB (h : xs.length ≤ sizeLine) (B : Bo R H b p ns) (q : ∀ l R' H', R l = none → Bo R' H' b p ns → Same R R' → R' l = some (.lst xs) → Q (.ref l) H') : Gx.LstP xs H Q := Gx.lstP h fun l hp => q l _ _ (B.new hp (o := .lst xs)).1 (B.new hp).2 (Gx.same_new (B.new hp (o := .lst xs)).1) upd_same
theorem tupB (h : xs.length ≤ sizeLine) (B : Bo R H b p ns) (q : ∀ l R' H', R l = none → Bo R' H' b p ns → Same R R' → R' l = some (.tup xs) → Q (.ref l) H') : Gx.TupP xs H Q := Gx.tupP h fun l hp => q l _ _ (B.new hp (o := .tup xs)).1 (B.new hp).2 (Gx.same_new (B.new hp (o := .tup xs)).1) upd_same
/-- any rule that makes one new object -/
theorem Bo.made (B : Bo R H b p ns) (q : ∀ l R' H', R l = none → Bo R' H' b p ns → Same R R' → R' l = some o → Q (.ref l) H') : ∀ l, H l = none → Q (.ref l) (upd H l o) := fun l hl => q l _ _ (B.new hl (o := o)).1 (B.new hl).2 (Gx.same_new (B.new hl (o := o)).1) upd_same
variable {b0 : Addr}
theorem slLB {lo hi : Option Int} (h : SqL K H a xs) (B : Bo R H b p ns) (q : ∀ l R' H', R l = none → Bo R' H' b p ns → Same R R' → R' l = some (.lst (cutV xs lo hi)) → Q (.ref l) H') : rSlL K (.ref a) lo hi H Q := Gx.slL h (B.made q)
theorem catB {zs : List V} (h1 : H a = some (.lst xs)) (h2 : H b0 = some (.lst zs)) (hz : xs.length + zs.length ≤ sizeLine) (B : Bo R H b p ns) (q : ∀ l R' H', R l = none → Bo R' H' b p ns → Same R R' → R' l = some (.lst (xs ++ zs)) → Q (.ref l) H') : rCat (.ref a) (.ref b0) H Q := Gx.cat h1 h2 hz (B.made q)
theorem repNB {n : Nat} (h : H a = some (.lst [v])) (hn : n ≤ 100000) (B : Bo R H b p ns) (q : ∀ l R' H', R l = none → Bo R' H' b p ns → Same R R' → R' l = some (.lst (List.replicate n v)) → Q (.ref l) H') : Gx.rRepN (.ref a) (.int (n : Int)) H Q := Gx.repN h hn (B.made q)
theorem listLB (h : SqL K H a xs) (B : Bo R H b p ns) (q : ∀ l R' H', R l = none → Bo R' H' b p ns → Same R R' → R' l = some (.lst xs) → Q (.ref l) H') : Gx.rList K [.ref a] H Q := Gx.listL h (B.made q)
theorem listTB (h : SqT K H a xs) (B : Bo R H b p ns) (q : ∀ l R' H', R l = none → Bo R' H' b p ns → Same R R' → R' l = some (.lst xs) → Q (.ref l) H') : Gx.rList K [.ref a] H Q := Gx.listT h (B.made q)
theorem dvmB {i j : Int} (c : L2.CDiv i j) (B : Bo R H b p ns) (q : ∀ l R' H', R l = none → Bo R' H' b p ns → Same R R' → R' l = some (.tup [.int (i / j), .int (i % j)]) → Q (.ref l) H') : Gx.rDivmod [.int i, .int j] H Q := Gx.dvm c (B.made q)
theorem Bo.start (hb : H b = none) (hp : H p = some (.lst (ns.map V.int))) : Bo H (upd H b (.lst [.ref p, .int 0])) b p ns := ⟨⟨0, top1 hb⟩, hp⟩
theorem Bo.old (B : Bo R H b p ns) : Bx.Box (fun a => if a = p then none else R a) H b p ns := by
  obtain ⟨⟨k, O⟩, d⟩ := B
  exact ⟨fun a x e => by
    by_cases c : a = p
    · rw [if_pos c] at e; cases e
    · rw [if_neg c] at e; exact O.same a x e, by
    by_cases c : b = p
    · rw [if_pos c]
    · rw [if_neg c]; exact no1 O, if_pos rfl, ⟨k, at1 O⟩, O.same _ _ d⟩
theorem Bo.again (B : Bo R H b p ns) {G H' : Hp} (B' : Bx.Box G H' b p ns) (kp : ∀ c, c ≠ b → H' c = H c) : Bo R H' b p ns := by
  obtain ⟨⟨k, O⟩, d⟩ := B
  obtain ⟨j, hj⟩ := B'.bx
  exact ⟨⟨j, mk1 (no1 O) trivial hj fun c hc => (kp c hc).trans (off1 O hc)⟩, d⟩
/-- behind a call that leaves all that stands: a part R' that holds what is new -/
theorem Bo.grow (B : Bo R H b p ns) (s : Same H H1) : ∃ R', Bo R' H1 b p ns ∧ Same R R' ∧ ∀ a o, H a = none → H1 a = some o → R' a = some o := by
  obtain ⟨⟨k, O⟩, d⟩ := B
  have hs : Same R (fun a => if a = b then none else H1 a) := fun a x e => by
    by_cases c : a = b
    · rw [c, no1 O] at e; cases e
    · show (if a = b then none else H1 a) = some x
      rw [if_neg c]; exact s _ _ (O.same _ _ e)
  refine ⟨fun a => if a = b then none else H1 a, ⟨⟨k, mk1 (if_pos rfl) trivial (s _ _ (at1 O)) fun c hc => (if_neg hc).symm⟩, hs _ _ d⟩, hs, fun a x e q => ?_⟩
  have c : a ≠ b := fun c => by rw [c, at1 O] at e; cases e
  show (if a = b then none else H1 a) = some x
  rw [if_neg c]; exact q
/-- what was apart above the box comes below -/
theorem Bo.sink (B : Bo R0 R b p ns) (O2 : Own R H (one l o)) : ∃ R1, Bo R1 H b p ns ∧ Same R0 R1 ∧ R0 l = none ∧ R1 l = some o := by
  obtain ⟨⟨k, O⟩, d⟩ := B
  obtain ⟨h1, h2⟩ := Nx.sink O O2
  exact ⟨_, ⟨⟨k, h2⟩, h1.same _ _ d⟩, h1.same, (O.non (no1 O2)).1, at1 h1⟩

theorem Bo.step (B : Bo R H b p ns) : ∃ S, Own R H S ∧ ∀ R' H', Own R' H' S → Same R R' → Bo R' H' b p ns := by
  obtain ⟨⟨k, O⟩, d⟩ := B
  exact ⟨_, O, fun R' H' O' s => ⟨⟨k, O'⟩, s _ _ d⟩⟩
theorem lstBO (h : xs.length ≤ sizeLine) (O : Own R1 H S) (B : Bo R R1 b p ns) (q : ∀ l R' R1' H', R l = none → Own R1' H' S → Bo R' R1' b p ns → Same R R' → R' l = some (.lst xs) → Q (.ref l) H') : Gx.LstP xs H Q := Gx.lstP h fun l hp => q l _ _ _ (B.new (O.non hp).1 (o := .lst xs)).1 (Nx.new O hp) (B.new (O.non hp).1).2 (Gx.same_new (B.new (O.non hp).1 (o := .lst xs)).1) upd_same
end
end Nx
local macro_rules | `(tactic| walk_at "xsame1") => `(tactic| exact Nx.Bo.same (by assumption))
local macro_rules | `(tactic| walk_at "fact") => `(tactic| exact Nx.Bo.dg (by assumption))

namespace Hd
open PySem L2 Rd
/-- a header's row; what a row says as a header -/
def hdN (g w h d c t : Nat) : List Nat := [72, g, w, h, d, c, t] ++ List.replicate 24 0 ++ [72]
theorem hd_len {g w h d c t : Nat} : (hdN g w h d c t).length = 32 := rfl
def frm (xs : List Nat) (k : Nat) : Option Str := Sx.frameBad (xs.getD k 0 : Nat) (xs.getD (k + 1) 0 : Nat) (xs.getD (k + 2) 0 : Nat) (xs.getD (k + 3) 0 : Nat) (xs.getD (k + 4) 0 : Nat)
def dec (xs : List Nat) : Option (Nat × Nat × Nat × Nat × Nat × Nat) :=
  if xs.getD 0 0 = 72 ∧ xs.getD 31 0 = 72 ∧ frm xs 2 = none then some (xs.getD 1 0, xs.getD 2 0, xs.getD 3 0, xs.getD 4 0, xs.getD 5 0, xs.getD 6 0) else none
theorem cut_five {xs : List Nat} (h : xs.length = 32) : cutV (W xs) (some 2) (some 7) = [.int (xs.getD 2 0 : Nat), .int (xs.getD 3 0 : Nat), .int (xs.getD 4 0 : Nat), .int (xs.getD 5 0 : Nat), .int (xs.getD 6 0 : Nat)] := by
  match xs, h with
  | x0 :: x1 :: x2 :: x3 :: x4 :: x5 :: x6 :: r, h =>
    unfold cutV
    rw [W_len, h]
    rfl
theorem dec_hd {g w h d c t : Nat} (ok : Sx.frameBad w h d c t = none) : dec (hdN g w h d c t) = some (g, w, h, d, c, t) := by
  unfold dec
  rw [if_pos ⟨rfl, rfl, ok⟩]
  rfl
def rowN (r a b c d e : Nat) (ns : List Nat) : List Nat := [72, r] ++ [a, b, c, d, e] ++ ns ++ [72]
theorem row_len {r a b c d e : Nat} {ns : List Nat} (h : ns.length = 24) : (rowN r a b c d e ns).length = 32 := by
  unfold rowN; rw [List.length_append, List.length_append, h]; rfl
theorem row_last {r a b c d e : Nat} {ns : List Nat} (h : ns.length = 24) : (rowN r a b c d e ns).getD 31 0 = 72 := by
  unfold rowN
  have l1 : (([72, r] ++ [a, b, c, d, e]) ++ ns).length = 31 := by simp [h]
  rw [List.getD_eq_getElem?_getD, List.getElem?_append_right (by omega), l1]
  rfl
theorem dec_row {r a b c d e : Nat} {ns : List Nat} (h : ns.length = 24) : dec (rowN r a b c d e ns) = if Sx.frameBad a b c d e = none then some (r, a, b, c, d, e) else none := by
  have e2 : frm (rowN r a b c d e ns) 2 = Sx.frameBad a b c d e := rfl
  unfold dec
  rw [e2, row_last h]
  by_cases k : Sx.frameBad a b c d e = none
  · rw [if_pos ⟨rfl, rfl, k⟩, if_pos k]; rfl
  · rw [if_neg (fun z => k z.2.2), if_neg k]
theorem dec_bad {xs : List Nat} (h : xs.getD 0 0 ≠ 72 ∨ xs.getD 31 0 ≠ 72) : dec xs = none := by
  unfold dec
  rw [if_neg]
  rintro ⟨h1, h2, _⟩
  rcases h with z | z
  · exact z h1
  · exact z h2
theorem mix_hd {g g' w h d c t : Nat} : ∀ m, (hdN g' w h d c t).take m ++ (hdN g w h d c t).drop m = hdN (if 1 < m then g' else g) w h d c t
  | 0 => rfl
  | 1 => rfl
  | m + 2 => by
    rw [if_pos (by omega)]
    show 72 :: g' :: (([w, h, d, c, t] ++ List.replicate 24 0 ++ [72]).take m ++ ([w, h, d, c, t] ++ List.replicate 24 0 ++ [72]).drop m) = _
    rw [List.take_append_drop]
    rfl
theorem dec_mixA {xs : List Nat} (h : xs.length = 32) {m : Nat} (hm : m < 32) : Rd.dec (xs.take m ++ (List.replicate 32 0).drop m) = none := by
  unfold Rd.dec
  rw [if_neg]
  rintro ⟨_, z, _⟩
  rw [List.getD_eq_getElem?_getD, List.getElem?_append_right (by rw [List.length_take]; omega), List.length_take, List.getElem?_drop, List.getElem?_replicate, if_pos (by omega)] at z
  cases z
theorem dec_mixB {xs : List Nat} {m : Nat} (hm : 0 < m) : Rd.dec ((List.replicate 32 0).take m ++ xs.drop m) = none := by
  unfold Rd.dec
  rw [if_neg]
  rintro ⟨z, _⟩
  rw [List.getD_eq_getElem?_getD, List.getElem?_append_left (by rw [List.length_take, List.length_replicate]; omega), List.getElem?_take_of_lt hm, List.getElem?_replicate, if_pos (by omega)] at z
  cases z
theorem pick {K : PySem.W.Frag} {H : Hp} {p : Addr} {zs : List Nat} {r : Nat} {Q : VK} (h : SqL K H p (W zs)) (hr : r < zs.length) (q : ∀ z : Nat, z ∈ zs → Q (.int (z : Int)) H) : rIx K (.ref p) (.int (r : Int)) H Q :=
  Gx.ixL h (W_get hr) (q _ (by rw [List.getD_eq_getElem?_getD, List.getElem?_eq_getElem hr]; exact List.getElem_mem hr))
end Hd

namespace Gy
open PySem L2
/-- the gray bit of v in plane p -/
def gb (v p : Nat) : Nat := (v / 2 ^ p + v / 2 ^ (p + 1)) % 2
theorem gb_int (v p : Nat) : Builtin.bitAnd (Builtin.bitXor ((v : Int) / 2 ^ (p : Int).toNat) ((v : Int) / 2 ^ ((p : Int) + 1).toNat)) 1 = ((gb v p : Nat) : Int) := by
  have e1 : (p : Int).toNat = p := rfl
  have e2 : ((p : Int) + 1).toNat = p + 1 := by omega
  have c (k : Nat) : (v : Int) / 2 ^ k = ((v / 2 ^ k : Nat) : Int) := by
    rw [Int.natCast_ediv, Int.natCast_pow]; rfl
  rw [e1, e2, c, c, Bits.bitXor_pp (Int.natCast_nonneg _) (Int.natCast_nonneg _), Int.toNat_natCast, Int.toNat_natCast]
  have h := Bits.bitAnd_mask (x := ((v / 2 ^ p ^^^ v / 2 ^ (p + 1) : Nat) : Int)) 1 (Int.natCast_nonneg _)
  rw [show (2 : Int) ^ 1 - 1 = 1 by decide] at h
  rw [h]
  have x := @Nat.xor_mod_two_eq_one (v / 2 ^ p) (v / 2 ^ (p + 1))
  unfold gb
  omega
theorem gb_le (v p : Nat) : gb v p ≤ 1 := by unfold gb; omega
/-- the value of gray bits from the highest plane on -/
def vstep (v g : Nat) : Nat := v * 2 + (g ^^^ v % 2)
def val (gs : List Nat) : Nat := gs.foldl vstep 0
theorem vstep_int (v g : Nat) : (v : Int) * 2 + Builtin.bitXor (g : Int) (Builtin.bitAnd (v : Int) 1) = ((vstep v g : Nat) : Int) := by
  have h := Bits.bitAnd_mask (x := (v : Int)) 1 (Int.natCast_nonneg _)
  rw [show (2 : Int) ^ 1 - 1 = 1 by decide, show (2 : Int) ^ 1 = ((2 : Nat) : Int) by decide, ← Int.natCast_emod] at h
  rw [h, Bits.bitXor_pp (Int.natCast_nonneg _) (Int.natCast_nonneg _), Int.toNat_natCast, Int.toNat_natCast]
  unfold vstep
  omega
theorem val_take {gs : List Nat} {i g : Nat} (h : gs[i]? = some g) : ((val (gs.take (i + 1)) : Nat) : Int) = (val (gs.take i) : Int) * 2 + Builtin.bitXor (g : Int) (Builtin.bitAnd (val (gs.take i) : Int) 1) := by
  rw [vstep_int]
  unfold val
  rw [List.take_add_one, h, List.foldl_append]
  rfl

/-- the gray bits of the planes below n, the highest first -/
def grays (v n : Nat) : List Nat := (List.range n).map fun i => gb v (n - 1 - i)
theorem pw (p : Nat) : (1 : Int) * 2 ^ ((p : Nat) : Int).toNat = ((2 ^ p : Nat) : Int) := by
  rw [Int.toNat_natCast, Int.one_mul, Int.natCast_pow]; rfl
theorem pw1 (p : Nat) : (1 : Int) * 2 ^ ((p : Int) + 1).toNat = ((2 ^ (p + 1) : Nat) : Int) := by
  rw [show ((p : Int) + 1).toNat = p + 1 by omega, Int.one_mul, Int.natCast_pow]; rfl
theorem dw {v : Int} {p : Nat} (h : p ≤ 8000) : CDivW v ((2 ^ p : Nat) : Int) := by
  refine wide_div (b := p + 1) ?_ ?_ (Nat.succ_pos _) (by omega)
  · exact Int.natCast_pos.mpr (Nat.two_pow_pos p)
  · rw [Int.natAbs_natCast]; exact Nat.pow_lt_pow_right (by decide) (Nat.lt_succ_self p)
theorem ne_gb (v p : Nat) : (if (!decide ((v : Int) / ((2 ^ p : Nat) : Int) % 2 = (v : Int) / ((2 ^ (p + 1) : Nat) : Int) % 2)) = true then (1 : Int) else 0) = ((gb v p : Nat) : Int) := by
  rw [← Int.natCast_ediv, ← Int.natCast_ediv]
  unfold gb
  generalize v / 2 ^ p = a
  generalize v / 2 ^ (p + 1) = b
  by_cases h : (a : Int) % 2 = (b : Int) % 2
  · rw [decide_eq_true h]
    simp only [Bool.not_true, Bool.false_eq_true, if_false]
    omega
  · rw [decide_eq_false h]
    simp only [Bool.not_false, if_true]
    omega
theorem grays_succ (v n : Nat) : grays v (n + 1) = gb v n :: grays v n := by
  unfold grays
  rw [List.range_succ_eq_map, List.map_cons, List.map_map]
  refine congr (congrArg List.cons (by simp)) ?_
  refine List.map_congr_left fun i hi => ?_
  show gb v (n + 1 - 1 - (i + 1)) = gb v (n - 1 - i)
  congr 1; omega
theorem xor_bit (a b : Nat) (hb : b ≤ 1) : (b ^^^ a % 2) % 2 = (b + a) % 2 ∧ b ^^^ a % 2 ≤ 1 := by
  have h : a % 2 = 0 ∨ a % 2 = 1 := by omega
  have h2 : b = 0 ∨ b = 1 := by omega
  rcases h with h | h <;> rcases h2 with h2 | h2 <;> subst h2 <;> rw [h] <;> simp <;> omega
theorem half (v n : Nat) : v / 2 ^ (n + 1) = v / 2 ^ n / 2 := by rw [Nat.pow_succ, Nat.div_div_eq_div_mul]
theorem vstep_gb (v n : Nat) : vstep (v / 2 ^ (n + 1)) (gb v n) = v / 2 ^ n := by
  unfold vstep gb
  rw [half]
  generalize v / 2 ^ n = a
  have h := xor_bit (a / 2) ((a + a / 2) % 2) (by omega)
  omega
theorem fold_grays (v : Nat) : ∀ n, (grays v n).foldl vstep (v / 2 ^ n) = v
  | 0 => by simp [grays]
  | n + 1 => by rw [grays_succ, List.foldl_cons, vstep_gb, fold_grays v n]
theorem val_grays {v n : Nat} (h : v < 2 ^ n) : val (grays v n) = v := by
  have e := fold_grays v n
  rw [Nat.div_eq_of_lt h] at e
  exact e
theorem fold_bits : ∀ (bs : List Nat) (u : Nat), (∀ b ∈ bs, b ≤ 1) → (bs.foldl vstep u) / 2 ^ bs.length = u ∧ grays (bs.foldl vstep u) bs.length = bs
  | [], u, _ => by simp [grays]
  | b :: bs, u, h => by
    obtain ⟨h1, h2⟩ := fold_bits bs (vstep u b) fun x hx => h x (List.mem_cons_of_mem _ hx)
    have hb := h b (List.mem_cons_self ..)
    rw [List.foldl_cons, List.length_cons]
    generalize hr : bs.foldl vstep (vstep u b) = r at *
    have x := xor_bit u b hb
    have e1 : r / 2 ^ (bs.length + 1) = u := by
      rw [half, h1]; unfold vstep; omega
    refine ⟨e1, ?_⟩
    rw [grays_succ, h2]
    congr 1
    unfold gb
    rw [e1, h1]; unfold vstep; omega
theorem grays_val {bs : List Nat} (h : ∀ b ∈ bs, b ≤ 1) : val bs < 2 ^ bs.length ∧ grays (val bs) bs.length = bs := by
  obtain ⟨h1, h2⟩ := fold_bits bs 0 h
  refine ⟨?_, h2⟩
  have h3 := (Nat.div_eq_zero_iff.mp h1)
  rcases h3 with h3 | h3
  · have := Nat.two_pow_pos bs.length; omega
  · exact h3
theorem nats_of {xs : List Int} (h : ∀ x ∈ xs, 0 ≤ x ∧ x < 2) : ∃ bs : List Nat, xs = bs.map (fun b : Nat => (b : Int)) ∧ ∀ b ∈ bs, b ≤ 1 := by
  refine ⟨xs.map Int.toNat, ?_, ?_⟩
  · rw [List.map_map]
    conv => lhs; rw [← List.map_id xs]
    refine List.map_congr_left fun x hx => ?_
    have := h x hx
    show x = ((x.toNat : Nat) : Int)
    omega
  · intro b hb
    obtain ⟨x, hx, rfl⟩ := List.mem_map.mp hb
    have := h x hx
    omega
theorem gb_top {v n : Nat} (h : v < 2 ^ n) : gb v n = 0 := by
  unfold gb
  rw [Nat.div_eq_of_lt h, Nat.div_eq_of_lt (Nat.lt_trans h (Nat.pow_lt_pow_right (by decide) (Nat.lt_succ_self n)))]
/-- t is the last place from which v + 1 is whole -/
def Last (v n t : Nat) : Prop := t ≤ n ∧ (v + 1) % 2 ^ t = 0
theorem div_step {v k : Nat} : (v + 1) / 2 ^ k = v / 2 ^ k + if (v + 1) % 2 ^ k = 0 then 1 else 0 := by
  have hp := Nat.two_pow_pos k
  have h1 := Nat.div_add_mod (v + 1) (2 ^ k)
  have h2 := Nat.div_add_mod v (2 ^ k)
  have l1 := Nat.mod_lt (v + 1) hp
  have l2 := Nat.mod_lt v hp
  generalize (v + 1) / 2 ^ k = x at *
  generalize v / 2 ^ k = y at *
  generalize (v + 1) % 2 ^ k = r at *
  generalize v % 2 ^ k = s at *
  generalize 2 ^ k = m at *
  have hx : x = y ∨ x = y + 1 := by
    have c1 : ¬ x < y := fun h => by
      have : m * (x + 1) ≤ m * y := Nat.mul_le_mul_left m h
      rw [Nat.mul_add] at this; omega
    have c2 : ¬ y + 1 < x := fun h => by
      have : m * (y + 1 + 1) ≤ m * x := Nat.mul_le_mul_left m h
      rw [Nat.mul_add, Nat.mul_add] at this; omega
    omega
  rcases hx with hx | hx
  · subst hx
    rw [if_neg (by omega)]; omega
  · subst hx
    rw [Nat.mul_add] at h1
    rw [if_pos (by omega)]
theorem whole_of {a k t : Nat} (h : a % 2 ^ t = 0) (hk : k ≤ t) : a % 2 ^ k = 0 :=
  Nat.mod_eq_zero_of_dvd (Nat.dvd_trans (Nat.pow_dvd_pow 2 hk) (Nat.dvd_of_mod_eq_zero h))
/-- the gray bits of v and v + 1 differ in the plane of the greatest power of 2 that divides v + 1 alone -/
theorem gb_diff {v n t : Nat} (hv : v < 2 ^ n) (h1 : t ≤ n) (h2 : (v + 1) % 2 ^ t = 0) (h3 : t < n → (v + 1) % 2 ^ (t + 1) ≠ 0) (k : Nat) : (gb v k ≠ gb (v + 1) k) ↔ k = t := by
  have h4 : (v + 1) % 2 ^ (t + 1) ≠ 0 := by
    by_cases ht : t < n
    · exact h3 ht
    · have e : t = n := by omega
      subst e
      have hp : 2 ^ (t + 1) = 2 ^ t * 2 := Nat.pow_succ ..
      rw [Nat.mod_eq_of_lt (by omega)]; omega
  unfold gb
  rw [div_step (v := v) (k := k), div_step (v := v) (k := k + 1)]
  by_cases hk : k ≤ t
  · rw [if_pos (whole_of h2 hk)]
    by_cases hk2 : k = t
    · subst hk2
      rw [if_neg h4]
      constructor <;> intro _ <;> omega
    · rw [if_pos (whole_of h2 (show k + 1 ≤ t by omega))]
      constructor <;> intro _ <;> omega
  · have z1 : ¬ (v + 1) % 2 ^ k = 0 := fun z => h4 (whole_of z (by omega))
    have z2 : ¬ (v + 1) % 2 ^ (k + 1) = 0 := fun z => h4 (whole_of z (by omega))
    rw [if_neg z1, if_neg z2]
    constructor <;> intro _ <;> omega
theorem filter_one {n t : Nat} {c : Nat → Bool} (ht : t < n) (h : ∀ k, c k = decide (k = t)) : (List.range n).filter c = [t] := by
  induction n with
  | zero => omega
  | succ n ih =>
    rw [List.range_succ, List.filter_append]
    by_cases e : t < n
    · rw [ih e, List.filter_cons, h, decide_eq_false (by omega)]; rfl
    · have e2 : t = n := by omega
      subst e2
      rw [List.filter_cons, h, decide_eq_true rfl, List.filter_eq_nil_iff.mpr (fun k hk => by rw [h, decide_eq_true_eq]; have := List.mem_range.mp hk; omega)]
      rfl
end Gy

namespace Gd
open PySem L2
/-- tiles beside one another -/
def ac (n t : Nat) : Nat := (n + t - 1) / t
theorem ac_int {n t : Nat} (ht : 0 < t) : ((n : Int) + (t : Int) - 1) / (t : Int) = ((ac n t : Nat) : Int) := by
  unfold ac
  rw [Int.natCast_ediv]
  congr 1
  omega
theorem ac_pos {n t : Nat} (hn : 0 < n) (ht : 0 < t) : 0 < ac n t := by
  unfold ac
  exact Nat.div_pos (by omega) ht
theorem ac_le {n t : Nat} (ht : 0 < t) : ac n t ≤ n := by
  unfold ac
  rcases Nat.eq_zero_or_pos n with h | h
  · subst h; rw [Nat.zero_add]; rw [Nat.div_eq_of_lt (by omega)]; exact Nat.le_refl _
  · have := Nat.div_le_of_le_mul (m := n + t - 1) (k := t) (n := n) (by
      have : t * n = t * (n - 1) + t := by rw [← Nat.mul_succ]; congr 1; omega
      have : n - 1 ≤ t * (n - 1) := Nat.le_mul_of_pos_left _ ht
      omega)
    exact this
/-- so large a picture may be -/
theorem room {w h c : Nat} (hh : h ≤ 3072 / (w * c)) (hp : 0 < w * c) : w * h * c ≤ 3072 := by
  have e := (Nat.le_div_iff_mul_le hp).mp hh
  rw [Nat.mul_right_comm, Nat.mul_comm]; exact e
/-- the side of the k-th tile -/
def sd (n t k : Nat) : Nat := min t (n - k * t)
theorem ac_mul {n t k : Nat} (ht : 0 < t) (hk : k < ac n t) : k * t < n := by
  unfold ac at hk
  have h := (Nat.le_div_iff_mul_le ht).mp (Nat.succ_le_of_lt hk)
  rw [Nat.succ_mul] at h
  omega
theorem sd_int {n t k : Nat} (ht : 0 < t) (hk : k < ac n t) : (if (n : Int) - ((k * t : Nat) : Int) < (t : Int) then (n : Int) - ((k * t : Nat) : Int) else (t : Int)) = ((sd n t k : Nat) : Int) := by
  have := ac_mul ht hk
  unfold sd
  generalize k * t = m at *
  split <;> omega
theorem ac_succ {n t : Nat} (ht : 0 < t) : ac (n + 1) t = ac n t + if n % t = 0 then 1 else 0 := by
  unfold ac
  rw [show n + 1 + t - 1 = (n + t - 1) + 1 by omega, Nat.succ_div]
  congr 1
  have e : n + t - 1 + 1 = n + t := by omega
  rw [e]
  by_cases h : n % t = 0
  · rw [if_pos h, if_pos (Nat.dvd_of_mod_eq_zero (by rw [Nat.add_mod_right]; exact h))]
  · rw [if_neg h, if_neg (fun z => h (by have := Nat.mod_eq_zero_of_dvd z; rwa [Nat.add_mod_right] at this))]
/-- every t-th column begins a tile -/
theorem firsts {t : Nat} (ht : 0 < t) : ∀ n, ((List.range n).filter fun i => decide (i % t = 0)).length = ac n t
  | 0 => by unfold ac; rw [Nat.zero_add, Nat.div_eq_of_lt (by omega)]; rfl
  | n + 1 => by
    rw [List.range_succ, List.filter_append, List.length_append, firsts ht n, ac_succ ht]
    congr 1
    by_cases h : n % t = 0
    · rw [if_pos h, List.filter_cons, if_pos (decide_eq_true h)]; rfl
    · rw [if_neg h, List.filter_cons, if_neg (by simpa using h)]; rfl
/-- the columns of one tile -/
theorem side {t k : Nat} (ht : 0 < t) : ∀ n, ((List.range n).filter fun i => decide (i / t = k)) = List.range' (k * t) (sd n t k)
  | 0 => by unfold sd; rw [Nat.zero_sub, Nat.min_zero]; rfl
  | n + 1 => by
    rw [List.range_succ, List.filter_append, side ht n]
    have d1 := Nat.div_mul_le_self n t
    have d2 := Nat.lt_div_mul_add (a := n) ht
    by_cases h : n / t = k
    · rw [List.filter_cons, if_pos (decide_eq_true h)]
      subst h
      have e1 : sd n t (n / t) = n - n / t * t := by unfold sd; omega
      have e2 : sd (n + 1) t (n / t) = (n - n / t * t) + 1 := by unfold sd; omega
      rw [e1, e2, List.range'_concat]
      congr 2
      omega
    · rw [List.filter_cons, if_neg (by simpa using h)]
      have e : sd (n + 1) t k = sd n t k := by
        unfold sd
        rcases Nat.lt_or_ge n (k * t) with z | z
        · omega
        · have : k < n / t := by
            rcases Nat.lt_trichotomy (n / t) k with y | y | y
            · have := (Nat.div_lt_iff_lt_mul ht).mp y; omega
            · exact absurd y h
            · exact y
          have g := (Nat.le_div_iff_mul_le ht).mp (Nat.succ_le_of_lt this)
          rw [Nat.succ_mul] at g
          omega
      rw [e]
      show List.range' _ _ ++ [] = _
      rw [List.append_nil]
theorem sd_pos {n t k : Nat} (ht : 0 < t) (hk : k < ac n t) : 0 < sd n t k := by
  have := ac_mul ht hk
  unfold sd; omega
end Gd

namespace Mu
open PySem L2
def rMulS : R2 := fun x y H Q => ∃ (z : Str) (n : Int), x = .str z ∧ y = .int n ∧ MulOk z n ∧ Q (.str (Txt.mul z n)) H
theorem o_mulS {X : Cx} : OpR X (binaryOp .Mult) rMulS := by
  intro pins s σ H x y v u Q I rx ry h
  obtain ⟨z, n, rfl, rfl, ok, q⟩ := h
  obtain ⟨t, rfl⟩ := rx
  obtain ⟨t2, rfl⟩ := ry
  exact SB.mul ok fun t' k => ⟨.str _, H, I.tok k, ⟨t', rfl⟩, q⟩
theorem cps_fold (a : Array Nat) : ∀ (k : Nat) (acc : Array Nat), ((List.replicate k a).foldl (· ++ ·) acc).toList = acc.toList ++ (List.replicate k a.toList).flatten
  | 0, acc => by simp
  | k + 1, acc => by
    rw [List.replicate_succ, List.foldl_cons, cps_fold a k, List.replicate_succ, List.flatten_cons, Array.toList_append, List.append_assoc]
/-- a text so many times -/
theorem mul_list (z : Str) (k : Nat) : Txt.mul z (k : Int) = ⟨((List.replicate k z.cps.toList).flatten).toArray⟩ := by
  unfold Txt.mul
  by_cases h0 : k = 0
  · subst h0; rfl
  rw [if_neg (by omega)]
  by_cases h1 : (((k : Int) == 1) || z.length == 0) = true
  · rw [if_pos h1]
    rw [Bool.or_eq_true] at h1
    rcases h1 with h | h
    · have e : (k : Int) = 1 := by simpa using h
      have : k = 1 := by omega
      subst this; simp
    · have hz : z.cps = #[] := by
        have : z.cps.size = 0 := by simpa [Str.length] using h
        exact Array.eq_empty_of_size_eq_zero this
      obtain ⟨c⟩ := z
      dsimp only at hz
      subst hz
      simp
  · rw [if_neg h1, Int.toNat_natCast]
    congr 1
    apply Array.ext'
    rw [cps_fold]; simp
theorem mul_S (bs : List Bool) (k : Nat) : Txt.mul (Bs.S bs) (k : Int) = Bs.S (List.replicate k bs).flatten := by
  rw [mul_list]
  show Str.mk _ = Str.mk _
  congr 2
  show (List.replicate k (bs.map Bs.cd)).flatten = ((List.replicate k bs).flatten).map Bs.cd
  rw [List.map_flatten, List.map_replicate]
theorem mulB {bs : List Bool} {k : Nat} {H : Hp} {Q : VK} (h : bs.length ≤ 4) (hk : k ≤ 1000000) (q : Q (.str (Bs.S (List.replicate k bs).flatten)) H) : rMulS (.str (Bs.S bs)) (.int (k : Int)) H Q :=
  ⟨_, _, rfl, rfl, PyProof.Rows.mulOk_of 4 1000000 (by rw [Bs.len]; exact h) (by omega) (by omega) (by decide) (by decide), by rw [mul_S]; exact q⟩
theorem flat1 (b : Bool) (k : Nat) : (List.replicate k [b]).flatten = List.replicate k b := by simp
theorem mulQ {z : Str} {k : Nat} {H : Hp} {Q : VK} (h : z.length ≤ 4) (hk : k ≤ 1000000) (q : Q (.str (Txt.mul z (k : Int))) H) : rMulS (.str z) (.int (k : Int)) H Q :=
  ⟨_, _, rfl, rfl, PyProof.Rows.mulOk_of 4 1000000 h (by omega) (by omega) (by decide) (by decide), q⟩
theorem len_mul (z : Str) (k : Nat) : (Txt.mul z (k : Int)).length = k * z.length := by
  rw [mul_list]; simp [Str.length]
end Mu

namespace My
open PySem L2
def top (i : Nat) : Stmt := PySem.Challenge.pw_packetpicture_k77_torn_blocks_are_told.main.body.getD i (.Pass ⟨0, 0, 0, 0⟩)
abbrev s_is_marked : Stmt := top 34
abbrev s_check_size : Stmt := top 15
abbrev s_check_range : Stmt := top 8
abbrev s_check_kind : Stmt := top 14
abbrev s_Frame___init__ : Stmt := inClass (top 16) 0
abbrev s_frame_of : Stmt := top 17
abbrev s_decode_header : Stmt := top 38
abbrev s_digits_of : Stmt := top 2
abbrev s_unpack : Stmt := top 23
abbrev s_number_at : Stmt := top 20
abbrev s_decode_record : Stmt := top 36
abbrev s_law_header : Stmt := top 46
abbrev s_encode_header : Stmt := top 37
abbrev s_law_frame : Stmt := top 45
abbrev s_law_draw : Stmt := top 42
abbrev s_law_shape : Stmt := top 44
abbrev s_number_of : Stmt := top 3
abbrev s_bytes_for : Stmt := top 21
abbrev s_pack : Stmt := top 22
abbrev s_two_bytes : Stmt := top 19
abbrev s_encode_record : Stmt := top 35
abbrev s_law_bits : Stmt := top 43
abbrev s_law_cell : Stmt := top 40
abbrev s_law_digits : Stmt := top 41
abbrev s_law : Stmt := top 47
/-- a def of the text as it stands behind the top -/
structure DefAt (K : PySem.W.Frag) (mg : Str → Option Value) (x : Str) (st : Stmt) (ps : List Str) where
  a : Addr
  d : FuncData
  f : Fun K x x st a d
  g : mg x = some (.ref a)
  b : Binds K d ps []
structure MethAt (K : PySem.W.Frag) (C : Addr) (x q : Str) (st : Stmt) (ps : List Str) where
  a : Addr
  d : FuncData
  f : Fun K x q st a d
  b : Binds K d ps []
  m : Meth K C x a
abbrev s_OutOfRange___init__ : Stmt := inClass (top 6) 0
structure Tx (P : Program) (K : PySem.W.Frag) (mg : Str → Option Value) where
  a_Frame : Addr
  cl_Frame : Cls K a_Frame
  g_Frame : mg "Frame" = some (.ref a_Frame)
  mk_Frame : PySem.W.makesIn K a_Frame = true
  kp_Frame : PySem.W.keepIn K (.ref a_Frame) = true
  na_Frame_width : NoAttr K a_Frame "width"
  na_Frame_height : NoAttr K a_Frame "height"
  na_Frame_depth : NoAttr K a_Frame "depth"
  na_Frame_channels : NoAttr K a_Frame "channels"
  na_Frame_tile : NoAttr K a_Frame "tile"
  is_marked : DefAt K mg "is_marked" s_is_marked ["block", "mark"]
  check_size : DefAt K mg "check_size" s_check_size ["width", "height", "channels"]
  check_range : DefAt K mg "check_range" s_check_range ["name", "value", "least", "most"]
  check_kind : DefAt K mg "check_kind" s_check_kind ["width", "height", "depth", "channels"]
  Frame___init__ : MethAt K a_Frame "__init__" "Frame.__init__" s_Frame___init__ ["self", "width", "height", "depth", "channels", "tile"]
  frame_of : DefAt K mg "frame_of" s_frame_of ["numbers"]
  decode_header : DefAt K mg "decode_header" s_decode_header ["block"]
  digits_of : DefAt K mg "digits_of" s_digits_of ["value", "count"]
  unpack : DefAt K mg "unpack" s_unpack ["row", "count"]
  number_at : DefAt K mg "number_at" s_number_at ["row", "at"]
  decode_record : DefAt K mg "decode_record" s_decode_record ["block"]
  law_header : DefAt K mg "_law_header" s_law_header ["block", "generation", "shape"]
  encode_header : DefAt K mg "encode_header" s_encode_header ["generation", "frame"]
  law_frame : DefAt K mg "_law_frame" s_law_frame ["shape"]
  law_draw : DefAt K mg "_law_draw" s_law_draw ["box", "many"]
  law_shape : DefAt K mg "_law_shape" s_law_shape ["box", "most", "planes", "side"]
  number_of : DefAt K mg "number_of" s_number_of ["digits"]
  bytes_for : DefAt K mg "bytes_for" s_bytes_for ["count"]
  pack : DefAt K mg "pack" s_pack ["bits"]
  two_bytes : DefAt K mg "two_bytes" s_two_bytes ["number"]
  encode_record : DefAt K mg "encode_record" s_encode_record ["number", "start", "digits"]
  law_bits : DefAt K mg "_law_bits" s_law_bits ["box", "many"]
  law_cell : DefAt K mg "_law_cell" s_law_cell ["script", "k"]
  law_digits : DefAt K mg "_law_digits" s_law_digits ["script", "first", "last"]
  law : DefAt K mg "law" s_law ["script"]
  x_OutOfRange : Sx.ExcAt P K mg "OutOfRange" "OutOfRange.__init__" s_OutOfRange___init__ ["self", "name"]
  nf_OutOfRange_name : PySem.W.findIn K (.ref x_OutOfRange.C) "name" = some none
  n_int : mg "int" = none
  n_len : mg "len" = none
  n_range : mg "range" = none
  n_str : mg "str" = none
  t_COUNT_AT : Tok
  c_COUNT_AT : mg "COUNT_AT" = some (.int 5 t_COUNT_AT)
  t_DEPTH_MOST : Tok
  c_DEPTH_MOST : mg "DEPTH_MOST" = some (.int 8 t_DEPTH_MOST)
  t_DIGITS_AT : Tok
  c_DIGITS_AT : mg "DIGITS_AT" = some (.int 6 t_DIGITS_AT)
  t_HEADER_FILL : Tok
  c_HEADER_FILL : mg "HEADER_FILL" = some (.int 24 t_HEADER_FILL)
  t_HEADER_MARK : Tok
  c_HEADER_MARK : mg "HEADER_MARK" = some (.int 72 t_HEADER_MARK)
  t_NUMBERS_AT : Tok
  c_NUMBERS_AT : mg "NUMBERS_AT" = some (.int 2 t_NUMBERS_AT)
  t_NUMBERS_END : Tok
  c_NUMBERS_END : mg "NUMBERS_END" = some (.int 7 t_NUMBERS_END)
  t_RECORD_FILL : Tok
  c_RECORD_FILL : mg "RECORD_FILL" = some (.int 5 t_RECORD_FILL)
  t_RECORD_MARK : Tok
  c_RECORD_MARK : mg "RECORD_MARK" = some (.int 75 t_RECORD_MARK)
  t_RECORD_MOST : Tok
  c_RECORD_MOST : mg "RECORD_MOST" = some (.int 160 t_RECORD_MOST)
  t_SIDE_MOST : Tok
  c_SIDE_MOST : mg "SIDE_MOST" = some (.int 64 t_SIDE_MOST)
  t_TILE_MOST : Tok
  c_TILE_MOST : mg "TILE_MOST" = some (.int 16 t_TILE_MOST)
  t_VALUES_MOST : Tok
  c_VALUES_MOST : mg "VALUES_MOST" = some (.int 3072 t_VALUES_MOST)
section
variable {P : Program} {w : World} {K : PySem.W.Frag} {mg : Str → Option Value} {base : Heap}
def fl_Frame (v0 v1 v2 v3 v4 : V) : List (Str × V) := [("width", v0), ("height", v1), ("depth", v2), ("channels", v3), ("tile", v4)]
theorem ne_Frame_width__height : ((Str.ofString "width") = Str.ofString "height") = False := eq_false (by decide +kernel)
theorem ne_Frame_width__depth : ((Str.ofString "width") = Str.ofString "depth") = False := eq_false (by decide +kernel)
theorem ne_Frame_width__channels : ((Str.ofString "width") = Str.ofString "channels") = False := eq_false (by decide +kernel)
theorem ne_Frame_width__tile : ((Str.ofString "width") = Str.ofString "tile") = False := eq_false (by decide +kernel)
theorem ne_Frame_width____init__ : ((Str.ofString "width") = Str.ofString "__init__") = False := eq_false (by decide +kernel)
theorem ne_Frame_width__across : ((Str.ofString "width") = Str.ofString "across") = False := eq_false (by decide +kernel)
theorem ne_Frame_width__down : ((Str.ofString "width") = Str.ofString "down") = False := eq_false (by decide +kernel)
theorem ne_Frame_width__tiles : ((Str.ofString "width") = Str.ofString "tiles") = False := eq_false (by decide +kernel)
theorem ne_Frame_width__pixels : ((Str.ofString "width") = Str.ofString "pixels") = False := eq_false (by decide +kernel)
theorem ne_Frame_width__packets : ((Str.ofString "width") = Str.ofString "packets") = False := eq_false (by decide +kernel)
theorem ne_Frame_width__same : ((Str.ofString "width") = Str.ofString "same") = False := eq_false (by decide +kernel)
theorem ne_Frame_height__width : ((Str.ofString "height") = Str.ofString "width") = False := eq_false (by decide +kernel)
theorem ne_Frame_height__depth : ((Str.ofString "height") = Str.ofString "depth") = False := eq_false (by decide +kernel)
theorem ne_Frame_height__channels : ((Str.ofString "height") = Str.ofString "channels") = False := eq_false (by decide +kernel)
theorem ne_Frame_height__tile : ((Str.ofString "height") = Str.ofString "tile") = False := eq_false (by decide +kernel)
theorem ne_Frame_height____init__ : ((Str.ofString "height") = Str.ofString "__init__") = False := eq_false (by decide +kernel)
theorem ne_Frame_height__across : ((Str.ofString "height") = Str.ofString "across") = False := eq_false (by decide +kernel)
theorem ne_Frame_height__down : ((Str.ofString "height") = Str.ofString "down") = False := eq_false (by decide +kernel)
theorem ne_Frame_height__tiles : ((Str.ofString "height") = Str.ofString "tiles") = False := eq_false (by decide +kernel)
theorem ne_Frame_height__pixels : ((Str.ofString "height") = Str.ofString "pixels") = False := eq_false (by decide +kernel)
theorem ne_Frame_height__packets : ((Str.ofString "height") = Str.ofString "packets") = False := eq_false (by decide +kernel)
theorem ne_Frame_height__same : ((Str.ofString "height") = Str.ofString "same") = False := eq_false (by decide +kernel)
theorem ne_Frame_depth__width : ((Str.ofString "depth") = Str.ofString "width") = False := eq_false (by decide +kernel)
theorem ne_Frame_depth__height : ((Str.ofString "depth") = Str.ofString "height") = False := eq_false (by decide +kernel)
theorem ne_Frame_depth__channels : ((Str.ofString "depth") = Str.ofString "channels") = False := eq_false (by decide +kernel)
theorem ne_Frame_depth__tile : ((Str.ofString "depth") = Str.ofString "tile") = False := eq_false (by decide +kernel)
theorem ne_Frame_depth____init__ : ((Str.ofString "depth") = Str.ofString "__init__") = False := eq_false (by decide +kernel)
theorem ne_Frame_depth__across : ((Str.ofString "depth") = Str.ofString "across") = False := eq_false (by decide +kernel)
theorem ne_Frame_depth__down : ((Str.ofString "depth") = Str.ofString "down") = False := eq_false (by decide +kernel)
theorem ne_Frame_depth__tiles : ((Str.ofString "depth") = Str.ofString "tiles") = False := eq_false (by decide +kernel)
theorem ne_Frame_depth__pixels : ((Str.ofString "depth") = Str.ofString "pixels") = False := eq_false (by decide +kernel)
theorem ne_Frame_depth__packets : ((Str.ofString "depth") = Str.ofString "packets") = False := eq_false (by decide +kernel)
theorem ne_Frame_depth__same : ((Str.ofString "depth") = Str.ofString "same") = False := eq_false (by decide +kernel)
theorem ne_Frame_channels__width : ((Str.ofString "channels") = Str.ofString "width") = False := eq_false (by decide +kernel)
theorem ne_Frame_channels__height : ((Str.ofString "channels") = Str.ofString "height") = False := eq_false (by decide +kernel)
theorem ne_Frame_channels__depth : ((Str.ofString "channels") = Str.ofString "depth") = False := eq_false (by decide +kernel)
theorem ne_Frame_channels__tile : ((Str.ofString "channels") = Str.ofString "tile") = False := eq_false (by decide +kernel)
theorem ne_Frame_channels____init__ : ((Str.ofString "channels") = Str.ofString "__init__") = False := eq_false (by decide +kernel)
theorem ne_Frame_channels__across : ((Str.ofString "channels") = Str.ofString "across") = False := eq_false (by decide +kernel)
theorem ne_Frame_channels__down : ((Str.ofString "channels") = Str.ofString "down") = False := eq_false (by decide +kernel)
theorem ne_Frame_channels__tiles : ((Str.ofString "channels") = Str.ofString "tiles") = False := eq_false (by decide +kernel)
theorem ne_Frame_channels__pixels : ((Str.ofString "channels") = Str.ofString "pixels") = False := eq_false (by decide +kernel)
theorem ne_Frame_channels__packets : ((Str.ofString "channels") = Str.ofString "packets") = False := eq_false (by decide +kernel)
theorem ne_Frame_channels__same : ((Str.ofString "channels") = Str.ofString "same") = False := eq_false (by decide +kernel)
theorem ne_Frame_tile__width : ((Str.ofString "tile") = Str.ofString "width") = False := eq_false (by decide +kernel)
theorem ne_Frame_tile__height : ((Str.ofString "tile") = Str.ofString "height") = False := eq_false (by decide +kernel)
theorem ne_Frame_tile__depth : ((Str.ofString "tile") = Str.ofString "depth") = False := eq_false (by decide +kernel)
theorem ne_Frame_tile__channels : ((Str.ofString "tile") = Str.ofString "channels") = False := eq_false (by decide +kernel)
theorem ne_Frame_tile____init__ : ((Str.ofString "tile") = Str.ofString "__init__") = False := eq_false (by decide +kernel)
theorem ne_Frame_tile__across : ((Str.ofString "tile") = Str.ofString "across") = False := eq_false (by decide +kernel)
theorem ne_Frame_tile__down : ((Str.ofString "tile") = Str.ofString "down") = False := eq_false (by decide +kernel)
theorem ne_Frame_tile__tiles : ((Str.ofString "tile") = Str.ofString "tiles") = False := eq_false (by decide +kernel)
theorem ne_Frame_tile__pixels : ((Str.ofString "tile") = Str.ofString "pixels") = False := eq_false (by decide +kernel)
theorem ne_Frame_tile__packets : ((Str.ofString "tile") = Str.ofString "packets") = False := eq_false (by decide +kernel)
theorem ne_Frame_tile__same : ((Str.ofString "tile") = Str.ofString "same") = False := eq_false (by decide +kernel)
theorem put_Frame_width {v0 v1 v2 v3 v4 : V} {z : V} : putF "width" z (fl_Frame v0 v1 v2 v3 v4) = fl_Frame z v1 v2 v3 v4 := by
  simp only [fl_Frame, putF, if_false, if_true, reduceIte]
theorem lk_Frame_width {v0 v1 v2 v3 v4 : V} : (fl_Frame v0 v1 v2 v3 v4).lookup ("width" : Str) = some v0 := by
  have h := lookup_putF "width" "width" v0 (fl_Frame v0 v1 v2 v3 v4)
  rw [put_Frame_width, if_pos rfl] at h
  exact h
theorem put_Frame_height {v0 v1 v2 v3 v4 : V} {z : V} : putF "height" z (fl_Frame v0 v1 v2 v3 v4) = fl_Frame v0 z v2 v3 v4 := by
  simp only [fl_Frame, putF, ne_Frame_width__height, if_false, if_true, reduceIte]
theorem lk_Frame_height {v0 v1 v2 v3 v4 : V} : (fl_Frame v0 v1 v2 v3 v4).lookup ("height" : Str) = some v1 := by
  have h := lookup_putF "height" "height" v1 (fl_Frame v0 v1 v2 v3 v4)
  rw [put_Frame_height, if_pos rfl] at h
  exact h
theorem put_Frame_depth {v0 v1 v2 v3 v4 : V} {z : V} : putF "depth" z (fl_Frame v0 v1 v2 v3 v4) = fl_Frame v0 v1 z v3 v4 := by
  simp only [fl_Frame, putF, ne_Frame_width__depth, ne_Frame_height__depth, if_false, if_true, reduceIte]
theorem lk_Frame_depth {v0 v1 v2 v3 v4 : V} : (fl_Frame v0 v1 v2 v3 v4).lookup ("depth" : Str) = some v2 := by
  have h := lookup_putF "depth" "depth" v2 (fl_Frame v0 v1 v2 v3 v4)
  rw [put_Frame_depth, if_pos rfl] at h
  exact h
theorem put_Frame_channels {v0 v1 v2 v3 v4 : V} {z : V} : putF "channels" z (fl_Frame v0 v1 v2 v3 v4) = fl_Frame v0 v1 v2 z v4 := by
  simp only [fl_Frame, putF, ne_Frame_width__channels, ne_Frame_height__channels, ne_Frame_depth__channels, if_false, if_true, reduceIte]
theorem lk_Frame_channels {v0 v1 v2 v3 v4 : V} : (fl_Frame v0 v1 v2 v3 v4).lookup ("channels" : Str) = some v3 := by
  have h := lookup_putF "channels" "channels" v3 (fl_Frame v0 v1 v2 v3 v4)
  rw [put_Frame_channels, if_pos rfl] at h
  exact h
theorem put_Frame_tile {v0 v1 v2 v3 v4 : V} {z : V} : putF "tile" z (fl_Frame v0 v1 v2 v3 v4) = fl_Frame v0 v1 v2 v3 z := by
  simp only [fl_Frame, putF, ne_Frame_width__tile, ne_Frame_height__tile, ne_Frame_depth__tile, ne_Frame_channels__tile, if_false, if_true, reduceIte]
theorem lk_Frame_tile {v0 v1 v2 v3 v4 : V} : (fl_Frame v0 v1 v2 v3 v4).lookup ("tile" : Str) = some v4 := by
  have h := lookup_putF "tile" "tile" v4 (fl_Frame v0 v1 v2 v3 v4)
  rw [put_Frame_tile, if_pos rfl] at h
  exact h
theorem len_Frame {v0 v1 v2 v3 v4 : V} : (fl_Frame v0 v1 v2 v3 v4).length = 5 := rfl
theorem few_Frame {v0 v1 v2 v3 v4 : V} : (fl_Frame v0 v1 v2 v3 v4).length < 1000 := by
  show 5 < 1000
  decide
theorem ini_Frame {v0 v1 v2 v3 v4 : V} : putF "tile" v4 (putF "channels" v3 (putF "depth" v2 (putF "height" v1 (putF "width" v0 [])))) = fl_Frame v0 v1 v2 v3 v4 := by
  simp only [fl_Frame, putF, ne_Frame_width__height, ne_Frame_width__depth, ne_Frame_width__channels, ne_Frame_width__tile, ne_Frame_height__depth, ne_Frame_height__channels, ne_Frame_height__tile, ne_Frame_depth__channels, ne_Frame_depth__tile, ne_Frame_channels__tile, if_false, if_true, reduceIte]
theorem no_Frame___init__ {v0 v1 v2 v3 v4 : V} : (fl_Frame v0 v1 v2 v3 v4).lookup ("__init__" : Str) = none := by
  have q : ∀ (g : Str) (u : V) (r : List (Str × V)), ¬ g = "__init__" → List.lookup (Str.ofString "__init__") ((g, u) :: r) = List.lookup (Str.ofString "__init__") r := fun g u r h => by
    have hb : ((Str.ofString "__init__") == g) = false := beq_eq_false_iff_ne.mpr (fun z => h z.symm)
    simp only [List.lookup, hb]
  unfold fl_Frame
  rw [q _ _ _ (by rw [ne_Frame_width____init__]; exact id), q _ _ _ (by rw [ne_Frame_height____init__]; exact id), q _ _ _ (by rw [ne_Frame_depth____init__]; exact id), q _ _ _ (by rw [ne_Frame_channels____init__]; exact id), q _ _ _ (by rw [ne_Frame_tile____init__]; exact id)]
  rfl
theorem no_Frame_across {v0 v1 v2 v3 v4 : V} : (fl_Frame v0 v1 v2 v3 v4).lookup ("across" : Str) = none := by
  have q : ∀ (g : Str) (u : V) (r : List (Str × V)), ¬ g = "across" → List.lookup (Str.ofString "across") ((g, u) :: r) = List.lookup (Str.ofString "across") r := fun g u r h => by
    have hb : ((Str.ofString "across") == g) = false := beq_eq_false_iff_ne.mpr (fun z => h z.symm)
    simp only [List.lookup, hb]
  unfold fl_Frame
  rw [q _ _ _ (by rw [ne_Frame_width__across]; exact id), q _ _ _ (by rw [ne_Frame_height__across]; exact id), q _ _ _ (by rw [ne_Frame_depth__across]; exact id), q _ _ _ (by rw [ne_Frame_channels__across]; exact id), q _ _ _ (by rw [ne_Frame_tile__across]; exact id)]
  rfl
theorem no_Frame_down {v0 v1 v2 v3 v4 : V} : (fl_Frame v0 v1 v2 v3 v4).lookup ("down" : Str) = none := by
  have q : ∀ (g : Str) (u : V) (r : List (Str × V)), ¬ g = "down" → List.lookup (Str.ofString "down") ((g, u) :: r) = List.lookup (Str.ofString "down") r := fun g u r h => by
    have hb : ((Str.ofString "down") == g) = false := beq_eq_false_iff_ne.mpr (fun z => h z.symm)
    simp only [List.lookup, hb]
  unfold fl_Frame
  rw [q _ _ _ (by rw [ne_Frame_width__down]; exact id), q _ _ _ (by rw [ne_Frame_height__down]; exact id), q _ _ _ (by rw [ne_Frame_depth__down]; exact id), q _ _ _ (by rw [ne_Frame_channels__down]; exact id), q _ _ _ (by rw [ne_Frame_tile__down]; exact id)]
  rfl
theorem no_Frame_tiles {v0 v1 v2 v3 v4 : V} : (fl_Frame v0 v1 v2 v3 v4).lookup ("tiles" : Str) = none := by
  have q : ∀ (g : Str) (u : V) (r : List (Str × V)), ¬ g = "tiles" → List.lookup (Str.ofString "tiles") ((g, u) :: r) = List.lookup (Str.ofString "tiles") r := fun g u r h => by
    have hb : ((Str.ofString "tiles") == g) = false := beq_eq_false_iff_ne.mpr (fun z => h z.symm)
    simp only [List.lookup, hb]
  unfold fl_Frame
  rw [q _ _ _ (by rw [ne_Frame_width__tiles]; exact id), q _ _ _ (by rw [ne_Frame_height__tiles]; exact id), q _ _ _ (by rw [ne_Frame_depth__tiles]; exact id), q _ _ _ (by rw [ne_Frame_channels__tiles]; exact id), q _ _ _ (by rw [ne_Frame_tile__tiles]; exact id)]
  rfl
theorem no_Frame_pixels {v0 v1 v2 v3 v4 : V} : (fl_Frame v0 v1 v2 v3 v4).lookup ("pixels" : Str) = none := by
  have q : ∀ (g : Str) (u : V) (r : List (Str × V)), ¬ g = "pixels" → List.lookup (Str.ofString "pixels") ((g, u) :: r) = List.lookup (Str.ofString "pixels") r := fun g u r h => by
    have hb : ((Str.ofString "pixels") == g) = false := beq_eq_false_iff_ne.mpr (fun z => h z.symm)
    simp only [List.lookup, hb]
  unfold fl_Frame
  rw [q _ _ _ (by rw [ne_Frame_width__pixels]; exact id), q _ _ _ (by rw [ne_Frame_height__pixels]; exact id), q _ _ _ (by rw [ne_Frame_depth__pixels]; exact id), q _ _ _ (by rw [ne_Frame_channels__pixels]; exact id), q _ _ _ (by rw [ne_Frame_tile__pixels]; exact id)]
  rfl
theorem no_Frame_packets {v0 v1 v2 v3 v4 : V} : (fl_Frame v0 v1 v2 v3 v4).lookup ("packets" : Str) = none := by
  have q : ∀ (g : Str) (u : V) (r : List (Str × V)), ¬ g = "packets" → List.lookup (Str.ofString "packets") ((g, u) :: r) = List.lookup (Str.ofString "packets") r := fun g u r h => by
    have hb : ((Str.ofString "packets") == g) = false := beq_eq_false_iff_ne.mpr (fun z => h z.symm)
    simp only [List.lookup, hb]
  unfold fl_Frame
  rw [q _ _ _ (by rw [ne_Frame_width__packets]; exact id), q _ _ _ (by rw [ne_Frame_height__packets]; exact id), q _ _ _ (by rw [ne_Frame_depth__packets]; exact id), q _ _ _ (by rw [ne_Frame_channels__packets]; exact id), q _ _ _ (by rw [ne_Frame_tile__packets]; exact id)]
  rfl
theorem no_Frame_same {v0 v1 v2 v3 v4 : V} : (fl_Frame v0 v1 v2 v3 v4).lookup ("same" : Str) = none := by
  have q : ∀ (g : Str) (u : V) (r : List (Str × V)), ¬ g = "same" → List.lookup (Str.ofString "same") ((g, u) :: r) = List.lookup (Str.ofString "same") r := fun g u r h => by
    have hb : ((Str.ofString "same") == g) = false := beq_eq_false_iff_ne.mpr (fun z => h z.symm)
    simp only [List.lookup, hb]
  unfold fl_Frame
  rw [q _ _ _ (by rw [ne_Frame_width__same]; exact id), q _ _ _ (by rw [ne_Frame_height__same]; exact id), q _ _ _ (by rw [ne_Frame_depth__same]; exact id), q _ _ _ (by rw [ne_Frame_channels__same]; exact id), q _ _ _ (by rw [ne_Frame_tile__same]; exact id)]
  rfl
/-- a Frame stands at x -/
def Frm (C : Addr) (H : Hp) (x : Addr) (w h d c t : Nat) : Prop := ∃ dx, H x = some (.ins C dx (fl_Frame (.int (w : Int)) (.int (h : Int)) (.int (d : Int)) (.int (c : Int)) (.int (t : Int))))
theorem Frm.keep {C x : Addr} {H H' : Hp} {w h d c t : Nat} (f : Frm C H x w h d c t) (s : Same H H') : Frm C H' x w h d c t := by
  obtain ⟨dx, h1⟩ := f
  exact ⟨dx, s _ _ h1⟩

theorem scx_OutOfRange : Sx.SupScope ["self", "name"] ["self", "name"] (defScope s_OutOfRange___init__) := ⟨rfl, rfl, rfl, by decide +kernel, rfl, by decide +kernel, by decide +kernel, by decide +kernel, rfl, rfl⟩
theorem ok_OutOfRange___init__ (T : Tx P K mg) : FnOk P w K mg base CX0 1 T.x_OutOfRange.a T.x_OutOfRange.d ["self", "name"] (Sx.sp1 T.x_OutOfRange.C "name") := by
  refine Sx.fn_sup (k := 0) T.x_OutOfRange.o T.x_OutOfRange.s scx_OutOfRange (fun vs H Q E h => ?_) rfl rfl rfl rfl (fun _ => rfl) (fun _ => ⟨_, rfl⟩) (fun _ => rfl) (fun cda cc A outer s H vs Q E h => ?_)
  · obtain ⟨a, z, rfl, _⟩ := h; rfl
  obtain ⟨a, z, rfl, hz, ha, q⟩ := h
  have hs : sizeLine = 16777216 := sizeLine_eq
  refine ⟨_, _, a, [.str z], pa_cons (pe_joined (PJ.cons (pe_fmt (pv 1)) (PJ.cons pe_str PJ.nil))) pa_nil, pss_one (ps_ost (pv 0) (pv 1)), rfl, ha, ?_⟩
  have l1 : ∀ x y : Str, (x ++ y).length = x.length + y.length := fun x y => Str.length_append x y
  refine ⟨.str z, rfl, .inl ⟨z, rfl, by omega, z, rfl, by rw [l1]; show 0 + _ ≤ _; omega, _, rfl, by rw [l1, l1]; show 0 + _ + 16 ≤ _; omega, by show 1 ≤ 1000; decide, ha, ?_⟩⟩
  exact ⟨.str z, rfl, .ref a, rfl, a, _, rfl, T.x_OutOfRange.o, T.nf_OutOfRange_name, .inl ⟨ha, fun dx hd hne => q dx hd hne⟩⟩

set_option hygiene false
local macro_rules | `(tactic| walk_at "go1") => `(tactic| (first
  | refine Gx.fp (by assumption) T.cl_Frame T.na_Frame_width lk_Frame_width ?_
  | refine Gx.fp (by assumption) T.cl_Frame T.na_Frame_height lk_Frame_height ?_
  | refine Gx.fp (by assumption) T.cl_Frame T.na_Frame_depth lk_Frame_depth ?_
  | refine Gx.fp (by assumption) T.cl_Frame T.na_Frame_channels lk_Frame_channels ?_
  | refine Gx.fp (by assumption) T.cl_Frame T.na_Frame_tile lk_Frame_tile ?_))
set_option hygiene true
/-- the law's own: True, whatever the script -/
def spLaw (K : PySem.W.Frag) : Sp := fun vs H Q _ => ∃ (a : Addr) (ns : List Int), vs = [.ref a] ∧ SqL K H a (ns.map V.int) ∧ ns.length ≤ 63 ∧ (∀ z ∈ ns, Builtin.Int.intBits z ≤ 1048576) ∧ ∀ H', Q (.bl true) H' 
def sp_is_marked (K : PySem.W.Frag) : Sp := fun vs H Q _ => ∃ (p : Addr) (xs : List Nat) (m : Nat), vs = [.ref p, .int (m : Int)] ∧ SqL K H p (Rd.W xs) ∧ xs.length = 32 ∧ Q (.bl (decide (xs.getD 0 0 = m) && decide (xs.getD 31 0 = m))) H

theorem sc_is_marked : FnScope ["block", "mark"] ["block", "mark"] (defScope s_is_marked) := ⟨rfl, rfl, rfl, by decide +kernel, rfl, by decide +kernel, by decide +kernel⟩
theorem ok_is_marked (T : Tx P K mg) : FnOk P w K mg base CX0 1 T.is_marked.a T.is_marked.d ["block", "mark"] (sp_is_marked K) := by
  refine T.is_marked.f.ok sc_is_marked (fun vs H Q E h => ?_) (fun cdv A outer s H vs Q E hr h => ⟨_, pss_one (ps_ret (Gx.pe_andW (pe_and (pe_cmpR op_eq (pe_ix (Gx.ix_seqK (K := K) rfl) (pv 0) (pe_int) (fun _ _ => rfl)) (pv 1) (nomark _)) (pe_one (pe_cmpR op_eq (pe_ix (Gx.ix_seqK (K := K) rfl) (pv 0) (pe_un un_neg (pe_int)) (fun _ _ => rfl)) (pv 1) (nomark _)))))), ?_⟩)
  · obtain ⟨p, xs, m, rfl, _⟩ := h
    rfl
  · skip
    obtain ⟨p, xs, m, rfl, hp, hl, q⟩ := h
    have e0 : ∀ k, decide (((xs.getD k 0 : Nat) : Int) = (m : Int)) = decide (xs.getD k 0 = m) := fun k => decide_eq_decide.mpr (by omega)
    walk_at "go"
    refine Gx.ixL hp (Rd.W_get (k := 0) (by omega)) ?_
    walk_at "go"
    rw [e0]
    refine Gx.andp (d := decide (xs.getD 31 0 = m)) (fun R r => ?_) q
    walk_at "go"
    refine Gx.ixL hp (Rd.W_last hl) ?_
    walk_at "go"
    rw [e0]
    exact r

theorem cp_is_marked {K : PySem.W.Frag} {p : Addr} {xs : List Nat} {m : Int} {H : Hp} {Q : VK} {E : XK} (hp : SqL K H p (Rd.W xs)) (hl : xs.length = 32) (hm : 0 ≤ m) (q : Q (.bl (decide (xs.getD 0 0 = m.toNat) && decide (xs.getD 31 0 = m.toNat))) H) : Gx.CP (sp_is_marked K) [.ref p, .int m] [] H Q E := ⟨p, xs, m.toNat, by rw [List.append_nil, Int.toNat_of_nonneg hm], hp, hl, q⟩

def sp_check_size (C : Addr) : Sp := fun vs H Q E => ∃ (w h c : Int), vs = [.int w, .int h, .int c] ∧ (1 ≤ w ∧ w ≤ 64) ∧ (1 ≤ h ∧ h ≤ 64) ∧ (1 ≤ c ∧ c ≤ 3) ∧ (w * h * c ≤ 3072 → Q .non H) ∧ (w * h * c > 3072 → Sx.Err C H "size" E)

theorem sc_check_size : FnScope ["width", "height", "channels"] ["width", "height", "channels"] (defScope s_check_size) := ⟨rfl, rfl, rfl, by decide +kernel, rfl, by decide +kernel, by decide +kernel⟩
theorem ok_check_size (T : Tx P K mg) : FnOk P w K mg base (L2.CX P w) 3 T.check_size.a T.check_size.d ["width", "height", "channels"] (sp_check_size T.x_OutOfRange.C) := by
  refine T.check_size.f.okX sc_check_size (fun vs H Q E h => ?_) (fun cdv A outer s H vs Q E hr h => ⟨_, pss_one (ps_if (pt_cmpR op_gt (pe_op op_mul (pe_op op_mul (pv 0) (pv 1)) (pv 2)) (pe_glob (v := .int 3072) rfl T.c_VALUES_MOST ⟨_, rfl⟩) (nomark _)) (pss_one (ps_raise rfl (takes_of rfl rfl rfl rfl) (pmk_oex T.x_OutOfRange.o T.x_OutOfRange.i T.x_OutOfRange.t (ok_OutOfRange___init__ T) (hr.mono (by decide)) T.x_OutOfRange.b .nil pass0 rfl T.x_OutOfRange.g (pa_cons (pe_str) pa_nil)))) (pss_nil)), ?_⟩)
  · obtain ⟨w, h, c, rfl, _⟩ := h
    rfl
  · skip
    obtain ⟨w, h, c, rfl, hw, hh, hc, q, qe⟩ := h
    walk_at "go"
    refine Gx.ic (.inr (by omega)) ?_
    walk_at "go"
    refine Gx.ic (.inr (by omega)) ?_
    walk_at "go"
    refine Gx.if_d (fun a => ?_) (fun a => ?_)
    · walk_at "go"
      exact Sx.mkO (by decide) (qe (by omega)).now fun R h => by walk_at "go"; exact h
    walk_at "go"
    exact q (by omega)

theorem cs_check_size {C : Addr} {w h c : Int} {H : Hp} {Q : VK} {E : XK} (hw : 1 ≤ w ∧ w ≤ 64) (hh : 1 ≤ h ∧ h ≤ 64) (hc : 1 ≤ c ∧ c ≤ 3) (q : w * h * c ≤ 3072 → Q .non H) (qe : w * h * c > 3072 → Sx.Err C H "size" E) : Sx.CS (sp_check_size C) [.int w, .int h, .int c] H Q E := ⟨w, h, c, rfl, hw, hh, hc, q, qe⟩

/-- a number against its bounds -/
def sp_check_range (C : Addr) : Sp := fun vs H Q E => ∃ (z : Str) (v l m : Int), vs = [.str z, .int v, .int l, .int m] ∧ z.length ≤ 1000 ∧ (l ≤ v → v ≤ m → Q .non H) ∧ (¬ (l ≤ v ∧ v ≤ m) → Sx.Err C H z E)

theorem sc_check_range : FnScope ["name", "value", "least", "most"] ["name", "value", "least", "most"] (defScope s_check_range) := ⟨rfl, rfl, rfl, by decide +kernel, rfl, by decide +kernel, by decide +kernel⟩
theorem ok_check_range (T : Tx P K mg) : FnOk P w K mg base (L2.CX P w) 3 T.check_range.a T.check_range.d ["name", "value", "least", "most"] (sp_check_range T.x_OutOfRange.C) := by
  refine T.check_range.f.okX sc_check_range (fun vs H Q E h => ?_) (fun cdv A outer s H vs Q E hr h => ⟨_, pss_one (ps_if (PW.pt (pw_or (pt_cmpR op_lt (pv 1) (pv 2) (nomark _)) (pw_or1 (pt_cmpR op_gt (pv 1) (pv 3) (nomark _))))) (pss_one (ps_raise rfl (takes_of rfl rfl rfl rfl) (pmk_oex T.x_OutOfRange.o T.x_OutOfRange.i T.x_OutOfRange.t (ok_OutOfRange___init__ T) (hr.mono (by decide)) T.x_OutOfRange.b .nil pass0 rfl T.x_OutOfRange.g (pa_cons (pv 0) pa_nil)))) (pss_nil)), ?_⟩)
  · obtain ⟨z, v, l, m, rfl, _⟩ := h
    rfl
  · skip
    obtain ⟨z, v, l, m, rfl, hz, q, qe⟩ := h
    walk_at "go"
    refine Gx.if_d (fun h => ?_) (fun h => ?_)
    · walk_at "go"
      exact Sx.mkO hz (qe (by omega)).now fun R h => by walk_at "go"; exact h
    walk_at "go"
    refine Gx.if_d (fun h2 => ?_) (fun h2 => ?_)
    · walk_at "go"
      exact Sx.mkO hz (qe (by omega)).now fun R h => by walk_at "go"; exact h
    walk_at "go"
    exact q (by omega) (by omega)

theorem cpx_check_range {C : Addr} {z : Str} {v l m : Int} {H : Hp} {Q : VK} {E : XK} (q : l ≤ v → v ≤ m → Q .non H) (qe : ¬ (l ≤ v ∧ v ≤ m) → Sx.Err C H z E) (hz : z.length ≤ 1000 := by decide) : Gx.CP (sp_check_range C) [.str z, .int v, .int l, .int m] [] H Q E := ⟨z, v, l, m, rfl, hz, q, qe⟩
theorem cs_check_range {C : Addr} {z : Str} {v l m : Int} {H : Hp} {Q : VK} {E : XK} (q : l ≤ v → v ≤ m → Q .non H) (qe : ¬ (l ≤ v ∧ v ≤ m) → Sx.Err C H z E) (hz : z.length ≤ 1000 := by decide) : Sx.CS (sp_check_range C) [.str z, .int v, .int l, .int m] H Q E := ⟨z, v, l, m, rfl, hz, q, qe⟩
theorem cp_check_range {C : Addr} {z : Str} {v l m : Int} {H : Hp} {Q : VK} {E : XK} (h1 : l ≤ v) (h2 : v ≤ m) (q : Q .non H) (hz : z.length ≤ 1000 := by decide) : Gx.CP (sp_check_range C) [.str z, .int v, .int l, .int m] [] H Q E := ⟨z, v, l, m, rfl, hz, fun _ _ => q, fun h => absurd ⟨h1, h2⟩ h⟩

def sp_check_kind (C : Addr) : Sp := fun vs H Q E => ∃ (w h d c : Int), vs = [.int w, .int h, .int d, .int c] ∧ (Sx.kindBad w h d c = none → ∀ H', Same H H' → Q .non H') ∧ (∀ z, Sx.kindBad w h d c = some z → Sx.Err C H z E)

theorem sc_check_kind : FnScope ["width", "height", "depth", "channels"] ["width", "height", "depth", "channels"] (defScope s_check_kind) := ⟨rfl, rfl, rfl, by decide +kernel, rfl, by decide +kernel, by decide +kernel⟩
theorem ok_check_kind (T : Tx P K mg) : FnOk P w K mg base (L2.CX P w) 4 T.check_kind.a T.check_kind.d ["width", "height", "depth", "channels"] (sp_check_kind T.x_OutOfRange.C) := by
  refine T.check_kind.f.okX sc_check_kind (fun vs H Q E h => ?_) (fun cdv A outer s H vs Q E hr h => ⟨_, pss_cons (ps_expr (pe_callS (ok_check_range T) (hr.mono (by decide)) rfl T.check_range.g T.check_range.f.kp T.check_range.b (fun σ => passAt (takes_of rfl rfl rfl rfl) σ) (pa_cons (pe_str) (pa_cons (pv 0) (pa_cons (pe_int) (pa_cons (pe_glob (v := .int 64) rfl T.c_SIDE_MOST ⟨_, rfl⟩) pa_nil))))))
      (pss_cons (ps_expr (pe_callS (ok_check_range T) (hr.mono (by decide)) rfl T.check_range.g T.check_range.f.kp T.check_range.b (fun σ => passAt (takes_of rfl rfl rfl rfl) σ) (pa_cons (pe_str) (pa_cons (pv 1) (pa_cons (pe_int) (pa_cons (pe_glob (v := .int 64) rfl T.c_SIDE_MOST ⟨_, rfl⟩) pa_nil))))))
      (pss_cons (ps_expr (pe_callS (ok_check_range T) (hr.mono (by decide)) rfl T.check_range.g T.check_range.f.kp T.check_range.b (fun σ => passAt (takes_of rfl rfl rfl rfl) σ) (pa_cons (pe_str) (pa_cons (pv 2) (pa_cons (pe_int) (pa_cons (pe_glob (v := .int 8) rfl T.c_DEPTH_MOST ⟨_, rfl⟩) pa_nil))))))
      (pss_one (ps_if (pt_cmpR op_notIn_seq (pv 3) (pe_tup (pa_cons (pe_int) (pa_cons (pe_int) pa_nil))) (by rfl)) (pss_one (ps_raise rfl (takes_of rfl rfl rfl rfl) (pmk_oex T.x_OutOfRange.o T.x_OutOfRange.i T.x_OutOfRange.t (ok_OutOfRange___init__ T) (hr.mono (by decide)) T.x_OutOfRange.b .nil pass0 rfl T.x_OutOfRange.g (pa_cons (pe_str) pa_nil)))) (pss_nil))))), ?_⟩)
  · obtain ⟨w, h, d, c, rfl, _⟩ := h
    rfl
  · skip
    obtain ⟨w, h, d, c, rfl, q, qe⟩ := h
    unfold Sx.kindBad at q qe
    walk_at "go"
    refine cs_check_range (fun a1 a2 => ?_) (fun a => qe _ (if_pos a))
    rw [if_neg (not_not_intro ⟨a1, a2⟩)] at q qe
    walk_at "go"
    refine cs_check_range (fun b1 b2 => ?_) (fun a => qe _ (if_pos a))
    rw [if_neg (not_not_intro ⟨b1, b2⟩)] at q qe
    walk_at "go"
    refine cs_check_range (fun c1 c2 => ?_) (fun a => qe _ (if_pos a))
    rw [if_neg (not_not_intro ⟨c1, c2⟩)] at q qe
    walk_at "go"
    refine Gx.tupP (by show 2 ≤ sizeLine; decide) fun p hp => ?_
    have s1 := Gx.same_new (o := .tup [.int 1, .int 3]) hp
    walk_at "go"
    refine Gx.inT (SqT.of upd_same) rfl ?_
    walk_at "go"
    have e : inV (.int c) [.int 1, .int 3] = decide (c = 1 ∨ c = 3) := by
      by_cases hc : c = 1 ∨ c = 3
      · rw [decide_eq_true hc]
        rcases hc with e | e <;> subst e <;> decide
      · rw [decide_eq_false hc]
        exact Gx.notin_ints [1, 3] (fun y hy e => hc (by simp at hy; omega))
    by_cases hc : c = 1 ∨ c = 3
    · rw [if_neg (not_not_intro hc)] at q
      refine Gx.if_n (by rw [e, decide_eq_true hc]; rfl) ?_
      walk_at "go"
      exact q rfl _ s1
    · rw [if_pos hc] at qe
      refine Gx.if_y (by rw [e, decide_eq_false hc]; rfl) ?_
      walk_at "go"
      exact Sx.mkO (by decide) ((qe _ rfl).mono s1).now fun R h => by walk_at "go"; exact h

theorem cs_check_kind {C : Addr} {w h d c : Int} {H : Hp} {Q : VK} {E : XK} (q : Sx.kindBad w h d c = none → ∀ H', Same H H' → Q .non H') (qe : ∀ z, Sx.kindBad w h d c = some z → Sx.Err C H z E) : Sx.CS (sp_check_kind C) [.int w, .int h, .int d, .int c] H Q E := ⟨w, h, d, c, rfl, q, qe⟩

def sp_Frame_init (CE C : Addr) : Sp := fun vs H Q E => ∃ (H0 : Hp) (x dx : Addr) (w h d c t : Int), vs = [.ref x, .int w, .int h, .int d, .int c, .int t] ∧ H x = some (.ins C dx []) ∧ Same H0 H ∧ H0 x = none ∧
  (Sx.frameBad w h d c t = none → ∀ (H' : Hp), Same H0 H' → Frm C H' x w.toNat h.toNat d.toNat c.toNat t.toNat → Q .non H') ∧ (∀ z, Sx.frameBad w h d c t = some z → Sx.Err CE H0 z E)

theorem sc_Frame___init__ : FnScope ["self", "width", "height", "depth", "channels", "tile"] ["self", "width", "height", "depth", "channels", "tile"] (defScope s_Frame___init__) := ⟨rfl, rfl, rfl, by decide +kernel, rfl, by decide +kernel, by decide +kernel⟩
theorem ok_Frame___init__ (T : Tx P K mg) : FnOk P w K mg base (L2.CX P w) 5 T.Frame___init__.a T.Frame___init__.d ["self", "width", "height", "depth", "channels", "tile"] (sp_Frame_init T.x_OutOfRange.C T.a_Frame) := by
  refine T.Frame___init__.f.okX sc_Frame___init__ (fun vs H Q E h => ?_) (fun cdv A outer s H vs Q E hr h => ⟨_, pss_cons (ps_expr (pe_callS (ok_check_kind T) (hr.mono (by decide)) rfl T.check_kind.g T.check_kind.f.kp T.check_kind.b (fun σ => passAt (takes_of rfl rfl rfl rfl) σ) (pa_cons (pv 1) (pa_cons (pv 2) (pa_cons (pv 3) (pa_cons (pv 4) pa_nil))))))
      (pss_cons (ps_expr (pe_callS (ok_check_range T) (hr.mono (by decide)) rfl T.check_range.g T.check_range.f.kp T.check_range.b (fun σ => passAt (takes_of rfl rfl rfl rfl) σ) (pa_cons (pe_str) (pa_cons (pv 5) (pa_cons (pe_int) (pa_cons (pe_glob (v := .int 16) rfl T.c_TILE_MOST ⟨_, rfl⟩) pa_nil))))))
      (pss_cons (ps_expr (pe_callS (ok_check_size T) (hr.mono (by decide)) rfl T.check_size.g T.check_size.f.kp T.check_size.b (fun σ => passAt (takes_of rfl rfl rfl rfl) σ) (pa_cons (pv 1) (pa_cons (pv 2) (pa_cons (pv 4) pa_nil)))))
      (pss_cons (ps_fld (pv 0) (pv 1) rfl)
      (pss_cons (ps_fld (pv 0) (pv 2) rfl)
      (pss_cons (ps_fld (pv 0) (pv 3) rfl)
      (pss_cons (ps_fld (pv 0) (pv 4) rfl)
      (pss_one (ps_fld (pv 0) (pv 5) rfl)))))))), ?_⟩)
  · obtain ⟨H0, x, dx, w, h, d, c, t, rfl, _⟩ := h
    rfl
  · skip
    obtain ⟨H0, x, dx, w, h, d, c, t, rfl, hx, s0, h0, q, qe⟩ := h
    unfold Sx.frameBad at q qe
    walk_at "go"
    refine cs_check_kind (fun hk H1 s1 => ?_) (fun z e => (qe z (by rw [e])).mono s0)
    rw [hk] at q qe
    dsimp only at q qe
    obtain ⟨k1, k2, k3, k4⟩ := Sx.kindBad_none.mp hk
    have hx := s1 _ _ hx
    have s0 := s0.trans s1
    walk_at "go"
    refine cs_check_range (fun a1 a2 => ?_) (fun a => (qe _ (if_pos a)).mono s0)
    rw [if_neg (not_not_intro ⟨a1, a2⟩)] at q qe
    walk_at "go"
    refine cs_check_size k1 k2 (by omega) (fun a => ?_) (fun a => (qe _ (if_pos a)).mono s0)
    rw [if_neg (by omega)] at q
    walk_at "go"
    refine Gx.sfp hx T.cl_Frame T.na_Frame_width (by walk_at "few") rfl ?_
    walk_at "go"
    refine Gx.sfp upd_same T.cl_Frame T.na_Frame_height (by walk_at "few") rfl ?_
    walk_at "go"
    refine Gx.sfp upd_same T.cl_Frame T.na_Frame_depth (by walk_at "few") rfl ?_
    walk_at "go"
    refine Gx.sfp upd_same T.cl_Frame T.na_Frame_channels (by walk_at "few") rfl ?_
    walk_at "go"
    refine Gx.sfp upd_same T.cl_Frame T.na_Frame_tile (by walk_at "few") rfl ?_
    rw [upd_upd, upd_upd, upd_upd, upd_upd, ini_Frame]
    refine q rfl _ (Gx.same_up h0 s0) ⟨dx, ?_⟩
    rw [upd_same, Int.toNat_of_nonneg (by omega), Int.toNat_of_nonneg (by omega), Int.toNat_of_nonneg (by omega), Int.toNat_of_nonneg (by omega), Int.toNat_of_nonneg (by omega)]

theorem mk_Frame {CE C : Addr} {w h d c t : Nat} {H : Hp} {Q : VK} {E : XK} (hw : 1 ≤ w ∧ w ≤ 64) (hh : 1 ≤ h ∧ h ≤ 64) (hd : 1 ≤ d ∧ d ≤ 8) (hc : c = 1 ∨ c = 3) (ht : 1 ≤ t ∧ t ≤ 16) (hs : w * h * c ≤ 3072) (q : ∀ x H2, Same H H2 → H x = none → Frm C H2 x w h d c t → Q (.ref x) H2) :
    Gx.MkP C (sp_Frame_init CE C) [.int (w : Int), .int (h : Int), .int (d : Int), .int (c : Int), .int (t : Int)] [] H Q E := by
  intro x dx hx hdx hne
  have ok : Sx.frameBad (w : Int) (h : Int) (d : Int) (c : Int) (t : Int) = none := Sx.frameBad_none.mpr ⟨by omega, by omega, by omega, by omega, by omega, by rw [← Int.natCast_mul, ← Int.natCast_mul]; omega⟩
  exact ⟨H, x, dx, w, h, d, c, t, rfl, upd_same, Gx.same_up hx (Gx.same_new hdx), hx, fun _ H2 s2 fr => ⟨rfl, q x H2 s2 hx fr⟩, fun z e => by rw [ok] at e; cases e⟩
theorem mks_Frame {CE C : Addr} {w h d c t : Int} {H : Hp} {Q : VK} {E : XK} (q : Sx.frameBad w h d c t = none → ∀ x H2, Same H H2 → H x = none → Frm C H2 x w.toNat h.toNat d.toNat c.toNat t.toNat → Q (.ref x) H2) (qe : ∀ z, Sx.frameBad w h d c t = some z → Sx.Err CE H z E) :
    Sx.MkS C (sp_Frame_init CE C) [.int w, .int h, .int d, .int c, .int t] H Q E := by
  intro x dx hx hdx hne
  exact ⟨H, x, dx, w, h, d, c, t, rfl, upd_same, Gx.same_up hx (Gx.same_new hdx), hx, fun ok H2 s2 fr => ⟨rfl, q ok x H2 s2 hx fr⟩, qe⟩

def sp_frame_of (K : PySem.W.Frag) (C : Addr) : Sp := fun vs H Q _ => ∃ (p : Addr) (w h d c t : Int), vs = [.ref p] ∧ SqL K H p [.int w, .int h, .int d, .int c, .int t] ∧
  (Sx.frameBad w h d c t = none → ∀ x H', H x = none → Same H H' → Frm C H' x w.toNat h.toNat d.toNat c.toNat t.toNat → Q (.ref x) H') ∧ (∀ z, Sx.frameBad w h d c t = some z → ∀ H', Same H H' → Q .non H')

theorem sc_frame_of : FnScope ["numbers", "width", "height", "depth", "channels", "tile"] ["numbers"] (defScope s_frame_of) := ⟨rfl, rfl, rfl, by decide +kernel, rfl, by decide +kernel, by decide +kernel⟩
theorem ok_frame_of (T : Tx P K mg) : FnOk P w K mg base CX0 7 T.frame_of.a T.frame_of.d ["numbers"] (sp_frame_of K T.a_Frame) := by
  refine T.frame_of.f.ok sc_frame_of (fun vs H Q E h => ?_) (fun cdv A outer s H vs Q E hr h => ⟨_, pss_cons (ps_asg (pv 0) (pg_unl rfl (pgs_cons (pg_name (i := 1) sc_frame_of.nd rfl (Or.inl rfl)) (pgs_cons (pg_name (i := 2) sc_frame_of.nd rfl (Or.inl rfl)) (pgs_cons (pg_name (i := 3) sc_frame_of.nd rfl (Or.inl rfl)) (pgs_cons (pg_name (i := 4) sc_frame_of.nd rfl (Or.inl rfl)) (pgs_cons (pg_name (i := 5) sc_frame_of.nd rfl (Or.inl rfl)) pgs_nil)))))))
      (pss_one (ps_try_only rfl rfl ⟨rfl, by decide, .inl T.x_OutOfRange.g⟩ takes0 (fun W pn xe tk po => pss_one (ps_ret (Sx.pe_makeS ⟨T.mk_Frame, T.Frame___init__.m.at_, T.Frame___init__.m.fn, T.kp_Frame⟩ (ok_Frame___init__ T) (hr.mono (by decide)) rfl T.g_Frame T.Frame___init__.b (fun σ => passAt tk σ) (pa_cons (pv 1) (pa_cons (pv 2) (pa_cons (pv 3) (pa_cons (pv 4) (pa_cons (pv 5) pa_nil)))))))) (fun a oe cls d pn hz hf => pss_one (ps_ret (pe_non))))), ?_⟩)
  · obtain ⟨p, w, h, d, c, t, rfl, _⟩ := h
    rfl
  · skip
    obtain ⟨p, w, h, d, c, t, rfl, hp, q, qe⟩ := h
    walk_at "run"
    refine ⟨p, _, rfl, hp, rfl, ?_⟩
    walk_at "run"
    refine mks_Frame (fun ok x H2 s hx fr => ?_) (fun z e H' dd s hd => ?_)
    · exact q ok x H2 hx s fr
    · refine ⟨true, T.x_OutOfRange.te, fun _ => ?_, fun z => Bool.noConfusion z⟩
      intro _ _
      walk_at "run"
      exact qe z e _ (s.trans (Gx.same_new hd))

theorem cp_frame_of {K : PySem.W.Frag} {C p : Addr} {w h d c t : Int} {H : Hp} {Q : VK} {E : XK} (hp : SqL K H p [.int w, .int h, .int d, .int c, .int t]) (q : Sx.frameBad w h d c t = none → ∀ x H', H x = none → Same H H' → Frm C H' x w.toNat h.toNat d.toNat c.toNat t.toNat → Q (.ref x) H') (qe : ∀ z, Sx.frameBad w h d c t = some z → ∀ H', Same H H' → Q .non H') :
    Gx.CP (sp_frame_of K C) [.ref p] [] H Q E := ⟨p, w, h, d, c, t, rfl, hp, q, qe⟩

/-- what a row says as a header, laid out -/
def HTold (C : Addr) (z : Option (Nat × Nat × Nat × Nat × Nat × Nat)) (v : V) (H : Hp) : Prop := match z with
  | none => v = .non
  | some (g, w, h, d, c, t) => ∃ t' x, v = .ref t' ∧ H t' = some (.tup [.int (g : Int), .ref x]) ∧ Frm C H x w h d c t
def sp_decode_header (K : PySem.W.Frag) (C : Addr) : Sp := fun vs H Q _ => ∃ (p : Addr) (xs : List Nat), vs = [.ref p] ∧ SqL K H p (Rd.W xs) ∧ xs.length = 32 ∧ ∀ v H', Same H H' → HTold C (Hd.dec xs) v H' → Q v H'

theorem sc_decode_header : FnScope ["block", "frame"] ["block"] (defScope s_decode_header) := ⟨rfl, rfl, rfl, by decide +kernel, rfl, by decide +kernel, by decide +kernel⟩
theorem ok_decode_header (T : Tx P K mg) : FnOk P w K mg base CX0 8 T.decode_header.a T.decode_header.d ["block"] (sp_decode_header K T.a_Frame) := by
  refine T.decode_header.f.ok sc_decode_header (fun vs H Q E h => ?_) (fun cdv A outer s H vs Q E hr h => ⟨_, pss_cons (ps_set (i := 1) sc_decode_header.nd rfl (Or.inl rfl) (pe_call (ok_frame_of T) (hr.mono (by decide)) rfl T.frame_of.g T.frame_of.f.kp T.frame_of.b .nil pass0 (pa_cons (pe_slice (Gx.sl_listK (K := K) rfl) (pv 0) (po_some (pe_glob (v := .int 2) rfl T.c_NUMBERS_AT ⟨_, rfl⟩)) (po_some (pe_glob (v := .int 7) rfl T.c_NUMBERS_END ⟨_, rfl⟩))) pa_nil)))
      (pss_cons (ps_if (PW.pt (pw_or (pt_not (pt_val (pe_call (ok_is_marked T) (hr.mono (by decide)) rfl T.is_marked.g T.is_marked.f.kp T.is_marked.b .nil pass0 (pa_cons (pv 0) (pa_cons (pe_glob (v := .int 72) rfl T.c_HEADER_MARK ⟨_, rfl⟩) pa_nil))))) (pw_or1 (pt_cmpR op_isN (pv 1) (pe_non) (nomark _))))) (pss_one (ps_ret (pe_non))) (pss_nil))
      (pss_one (ps_ret (pe_tup (pa_cons (pe_ix (Gx.ix_seqK (K := K) rfl) (pv 0) (pe_int) (fun _ _ => rfl)) (pa_cons (pv 1) pa_nil)))))), ?_⟩)
  · obtain ⟨p, xs, rfl, _⟩ := h
    rfl
  · skip
    obtain ⟨p, xs, rfl, hp, hl, q⟩ := h
    walk_at "run"
    refine Nx.slL0 hp fun p1 H1 n1 s1 h1 => ?_
    rw [Hd.cut_five hl] at h1
    have hp1 := s1.seq hp
    walk_at "run"
    have no : ∀ H2, Same H1 H2 → ¬ (xs.getD 0 0 = 72 ∧ xs.getD 31 0 = 72 ∧ Hd.frm xs 2 = none) → Q .non H2 := fun H2 s h => q _ _ (s1.trans s) (by unfold Hd.dec; rw [if_neg h]; rfl)
    refine cp_frame_of (SqL.of h1) (fun ok x H2 nx s2 fr => ?_) (fun z e H2 s2 => ?_)
    · have hp2 := s2.seq hp1
      walk_at "run"
      refine cp_is_marked hp2 hl (by decide) ?_
      walk_at "run"
      refine Gx.if_b (fun c => ?_) (fun c => ?_)
      · walk_at "run"
        refine no _ s2 fun ⟨a, b, _⟩ => ?_
        rw [show (72 : Int).toNat = 72 from rfl, a, b] at c
        cases c
      walk_at "run"
      refine Gx.ixL hp2 (Rd.W_get (k := 1) (by omega)) ?_
      walk_at "run"
      refine Nx.tup0 (by show 2 ≤ sizeLine; decide) fun t H3 n3 s3 h3 => ?_
      refine q (.ref t) H3 ?sm ?_
      case sm => walk_at "xsame"
      have c2 : xs.getD 0 0 = 72 ∧ xs.getD 31 0 = 72 := by
        rw [show (72 : Int).toNat = 72 from rfl] at c
        simpa using c
      unfold Hd.dec
      rw [if_pos ⟨c2.1, c2.2, ok⟩]
      exact ⟨t, x, rfl, h3, fr.keep s3⟩
    · have hp2 := s2.seq hp1
      walk_at "run"
      refine cp_is_marked hp2 hl (by decide) ?_
      walk_at "run"
      have ne : ¬ (xs.getD 0 0 = 72 ∧ xs.getD 31 0 = 72 ∧ Hd.frm xs 2 = none) := fun ⟨_, _, f⟩ => by
        have : Hd.frm xs 2 = some z := e
        rw [this] at f; cases f
      refine Gx.if_b (fun c => ?_) (fun c => ?_)
      · walk_at "run"
        exact no _ s2 ne
      walk_at "run"
      exact no _ s2 ne

theorem cp_decode_header {K : PySem.W.Frag} {C p : Addr} {xs : List Nat} {H : Hp} {Q : VK} {E : XK} (hp : SqL K H p (Rd.W xs)) (hl : xs.length = 32) (q : ∀ v H', Same H H' → HTold C (Hd.dec xs) v H' → Q v H') : Gx.CP (sp_decode_header K C) [.ref p] [] H Q E := ⟨p, xs, rfl, hp, hl, q⟩

/-- the lowest binary digits -/
def sp_digits_of : Sp := fun vs H Q _ => ∃ (v c : Nat), vs = [.int (v : Int), .int (c : Int)] ∧ c ≤ 10000 ∧ Q (.str (Bs.S (Fb.bin c v))) H

theorem sc_digits_of : FnScope ["value", "count", "power", "led", "digits"] ["value", "count"] (defScope s_digits_of) := ⟨rfl, rfl, rfl, by decide +kernel, rfl, by decide +kernel, by decide +kernel⟩
theorem ok_digits_of (T : Tx P K mg) : FnOk P w K mg base CX0 1 T.digits_of.a T.digits_of.d ["value", "count"] (sp_digits_of) := by
  refine T.digits_of.f.ok sc_digits_of (fun vs H Q E h => ?_) (fun cdv A outer s H vs Q E hr h => ⟨_, pss_cons (ps_set (i := 2) sc_digits_of.nd rfl (Or.inl rfl) (pe_op op_shl (pe_int) (pv 1)))
      (pss_cons (ps_set (i := 3) sc_digits_of.nd rfl (Or.inl rfl) (pe_op op_add (pv 2) (pe_op op_mod (pv 0) (pv 2))))
      (pss_cons (ps_set (i := 4) sc_digits_of.nd rfl (Or.inl rfl) (pe_joined1 (Fb.pe_fmtB (pv 3))))
      (pss_one (ps_ret (pe_slice sl_str (pv 4) (po_some (pe_int)) po_none))))), ?_⟩)
  · obtain ⟨v, c, rfl, _⟩ := h
    rfl
  · skip
    obtain ⟨v, c, rfl, hc, q⟩ := h
    walk_at "go"
    refine Gx.ic ⟨by omega, by omega, by decide⟩ ?_
    rw [Gy.pw]
    walk_at "go"
    refine Gx.ic (Int.natCast_pos.mpr (Nat.two_pow_pos c)) ?_
    walk_at "go"
    refine Fb.fmt ?_
    walk_at "go"
    refine Fb.fbp (k := c) (r := v % 2 ^ c) (by rw [Int.natCast_add, Int.natCast_emod]) (Nat.mod_lt _ (Nat.two_pow_pos c)) (by omega) ?_
    walk_at "go"
    refine Gx.slS (by rw [Bs.len, List.length_cons, Fb.bin_len, sizeLine_eq]; omega) ?_
    rw [show cutS (Bs.S (true :: Fb.bin c (v % 2 ^ c))) (some 1) none = Bs.S (Fb.bin c v) by rw [show (1 : Int) = ((1 : Nat) : Int) from rfl, Bs.cut_lo, Fb.bin_mod]; rfl]
    exact q

theorem cp_digits_of {v c : Int} {H : Hp} {Q : VK} {E : XK} (h0 : 0 ≤ v) (h1 : 0 ≤ c) (h2 : c ≤ 10000) (q : Q (.str (Bs.S (Fb.bin c.toNat v.toNat))) H) : Gx.CP sp_digits_of [.int v, .int c] [] H Q E :=
  ⟨v.toNat, c.toNat, by rw [List.append_nil, Int.toNat_of_nonneg h0, Int.toNat_of_nonneg h1], by omega, q⟩

def sp_unpack (K : PySem.W.Frag) : Sp := fun vs H Q _ => ∃ (p : Addr) (xs : List Nat) (n : Nat), vs = [.ref p, .int (n : Int)] ∧ SqL K H p (xs.map fun v : Nat => V.int (v : Int)) ∧ xs.length ≤ 10000 ∧ ∀ H', Same H H' → Q (.str (Bs.S ((Pk.un xs).take n))) H'

theorem sc_unpack : FnScope ["row", "count", "bits", "byte"] ["row", "count"] (defScope s_unpack) := ⟨rfl, rfl, rfl, by decide +kernel, rfl, by decide +kernel, by decide +kernel⟩
theorem ok_unpack (T : Tx P K mg) : FnOk P w K mg base CX0 2 T.unpack.a T.unpack.d ["row", "count"] (sp_unpack K) := by
  refine T.unpack.f.ok sc_unpack (fun vs H Q E h => ?_) (fun cdv A outer s H vs Q E hr h => ⟨_, pss_cons (ps_set (i := 2) sc_unpack.nd rfl (Or.inl rfl) (pe_join (pe_str) (pe_lc (own := [("byte", 3)]) (g := gName 3) (tt := tYes) rfl sc_unpack.nd (pi_list (pv 0)) (blkOk_by (own := [("byte", 3)]) (N := ["row", "count", "bits", "byte"]) (sc := defScope s_unpack) (by decide +kernel)) (fun _ _ _ _ _ => pg_name (i := 3) sc_unpack.nd rfl (Or.inl rfl)) (fun _ _ _ _ _ => pts_nil) (fun _ _ _ _ _ => pe_call (ok_digits_of T) (hr.mono (by decide)) rfl T.digits_of.g T.digits_of.f.kp T.digits_of.b .nil pass0 (pa_cons (pv 3) (pa_cons (pe_int) pa_nil))))))
      (pss_one (ps_ret (pe_slice sl_str (pv 2) po_none (po_some (pv 1))))), ?_⟩)
  · obtain ⟨p, xs, n, rfl, _⟩ := h
    rfl
  · skip
    obtain ⟨p, xs, n, rfl, hp, hl, q⟩ := h
    walk_at "go"
    refine Gx.lp hp ?_
    refine Gx.lcMap walk_list (by rw [List.length_map]; omega) (fun i => V.str (Bs.S (Fb.bin 8 (xs.getD i 0)))) (fun _ s => s.seq hp) Gx.sameAt ?_ ?_
    · rintro i x H3 H3' R R0 hi s3 ⟨rfl, hx⟩ hr
      rw [List.length_map] at hi
      rw [List.getElem?_map, List.getElem?_eq_getElem hi] at hx
      cases hx
      walk_at "go"
      refine cp_digits_of (by omega) (by omega) (by omega) ?_
      rw [Int.toNat_natCast]
      have := hr _ (Same.refl _)
      rw [show xs.getD i 0 = xs[i] by rw [List.getD_eq_getElem?_getD, List.getElem?_eq_getElem hi]; rfl] at this
      exact this
    intro pl H3 hpl s3 hL
    rw [List.length_map] at hL
    have hL2 : H3 pl = some (.lst ((xs.map (Fb.bin 8)).map fun r => V.str (Bs.S r))) := by
      rw [hL, List.map_map]
      congr 2
      refine List.ext_getElem (by simp) fun i h1 h2 => ?_
      rw [List.length_map, List.length_range] at h1
      rw [List.getElem_map, List.getElem_map, List.getElem_range, List.getD_eq_getElem?_getD, List.getElem?_eq_getElem h1]
      rfl
    refine ⟨_, pl, (xs.map (Fb.bin 8)).map Bs.S, rfl, rfl, .inl (by rw [List.map_map]; exact SqL.of hL2), Pk.joinN (fun r hr => by obtain ⟨v, _, rfl⟩ := List.mem_map.mp hr; rw [Fb.bin_len]; omega) (by rw [List.length_map]; omega), ?_⟩
    rw [Pk.joinE, show (xs.map (Fb.bin 8)).flatten = Pk.un xs from rfl]
    walk_at "go"
    have hul := Pk.un_len xs
    refine Gx.slS (by rw [Bs.len, sizeLine_eq]; show (Pk.un xs).length ≤ _; omega) ?_
    rw [Bs.cut_hi]
    exact q _ s3

theorem cp_unpack {K : PySem.W.Frag} {p : Addr} {xs : List Nat} {n : Nat} {H : Hp} {Q : VK} {E : XK} (hp : SqL K H p (xs.map fun v : Nat => V.int (v : Int))) (hl : xs.length ≤ 10000) (q : ∀ H', Same H H' → Q (.str (Bs.S ((Pk.un xs).take n))) H') : Gx.CP (sp_unpack K) [.ref p, .int (n : Int)] [] H Q E := ⟨p, xs, n, rfl, hp, hl, q⟩

def sp_number_at (K : PySem.W.Frag) : Sp := fun vs H Q _ => ∃ (p : Addr) (xs : List Nat) (k : Nat), vs = [.ref p, .int (k : Int)] ∧ SqL K H p (Rd.W xs) ∧ k + 1 < xs.length ∧ Q (.int ((xs.getD k 0 * 256 + xs.getD (k + 1) 0 : Nat) : Int)) H

theorem sc_number_at : FnScope ["row", "at"] ["row", "at"] (defScope s_number_at) := ⟨rfl, rfl, rfl, by decide +kernel, rfl, by decide +kernel, by decide +kernel⟩
theorem ok_number_at (T : Tx P K mg) : FnOk P w K mg base CX0 1 T.number_at.a T.number_at.d ["row", "at"] (sp_number_at K) := by
  refine T.number_at.f.ok sc_number_at (fun vs H Q E h => ?_) (fun cdv A outer s H vs Q E hr h => ⟨_, pss_one (ps_ret (pe_op op_add (pe_op op_mul (pe_ix (Gx.ix_seqK (K := K) rfl) (pv 0) (pv 1) (fun _ _ => rfl)) (pe_int)) (pe_ix (Gx.ix_seqK (K := K) rfl) (pv 0) (pe_op op_add (pv 1) (pe_int)) (fun _ _ => rfl)))), ?_⟩)
  · obtain ⟨p, xs, k, rfl, _⟩ := h
    rfl
  · skip
    obtain ⟨p, xs, k, rfl, hp, hk, q⟩ := h
    walk_at "go"
    refine Gx.ixL hp (Rd.W_get (by omega)) ?_
    walk_at "go"
    refine Gx.ic (.inr (by decide)) ?_
    walk_at "go"
    rw [show ((k : Int) + 1) = ((k + 1 : Nat) : Int) by omega]
    refine Gx.ixL hp (Rd.W_get hk) ?_
    walk_at "go"
    rw [Int.natCast_add, Int.natCast_mul] at q
    exact q

theorem cp_number_at {K : PySem.W.Frag} {p : Addr} {xs : List Nat} {k : Nat} {H : Hp} {Q : VK} {E : XK} (hp : SqL K H p (Rd.W xs)) (hk : k + 1 < xs.length) (q : Q (.int ((xs.getD k 0 * 256 + xs.getD (k + 1) 0 : Nat) : Int)) H) : Gx.CP (sp_number_at K) [.ref p, .int (k : Int)] [] H Q E := ⟨p, xs, k, rfl, hp, hk, q⟩

def sp_decode_record (K : PySem.W.Frag) : Sp := fun vs H Q _ => ∃ (p : Addr) (xs : List Nat), vs = [.ref p] ∧ SqL K H p (Rd.W xs) ∧ xs.length = 32 ∧ ∀ v H', Same H H' → Rd.Told (Rd.dec xs) v H' → Q v H'

theorem sc_decode_record : FnScope ["block", "count"] ["block"] (defScope s_decode_record) := ⟨rfl, rfl, rfl, by decide +kernel, rfl, by decide +kernel, by decide +kernel⟩
theorem ok_decode_record (T : Tx P K mg) : FnOk P w K mg base CX0 3 T.decode_record.a T.decode_record.d ["block"] (sp_decode_record K) := by
  refine T.decode_record.f.ok sc_decode_record (fun vs H Q E h => ?_) (fun cdv A outer s H vs Q E hr h => ⟨_, pss_cons (ps_set (i := 1) sc_decode_record.nd rfl (Or.inl rfl) (pe_ix (Gx.ix_seqK (K := K) rfl) (pv 0) (pe_glob (v := .int 5) rfl T.c_COUNT_AT ⟨_, rfl⟩) (fun _ _ => rfl)))
      (pss_cons (ps_if (PW.pt (pw_or (pt_not (pt_val (pe_call (ok_is_marked T) (hr.mono (by decide)) rfl T.is_marked.g T.is_marked.f.kp T.is_marked.b .nil pass0 (pa_cons (pv 0) (pa_cons (pe_glob (v := .int 75) rfl T.c_RECORD_MARK ⟨_, rfl⟩) pa_nil))))) (pw_or (pt_cmpR op_lt (pv 1) (pe_int) (nomark _)) (pw_or1 (pt_cmpR op_gt (pv 1) (pe_glob (v := .int 160) rfl T.c_RECORD_MOST ⟨_, rfl⟩) (nomark _)))))) (pss_one (ps_ret (pe_non))) (pss_nil))
      (pss_one (ps_ret (pe_tup (pa_cons (pe_call (ok_number_at T) (hr.mono (by decide)) rfl T.number_at.g T.number_at.f.kp T.number_at.b .nil pass0 (pa_cons (pv 0) (pa_cons (pe_int) pa_nil))) (pa_cons (pe_call (ok_number_at T) (hr.mono (by decide)) rfl T.number_at.g T.number_at.f.kp T.number_at.b .nil pass0 (pa_cons (pv 0) (pa_cons (pe_int) pa_nil))) (pa_cons (pe_call (ok_unpack T) (hr.mono (by decide)) rfl T.unpack.g T.unpack.f.kp T.unpack.b .nil pass0 (pa_cons (pe_slice (Gx.sl_listK (K := K) rfl) (pv 0) (po_some (pe_glob (v := .int 6) rfl T.c_DIGITS_AT ⟨_, rfl⟩)) (po_some (pe_un un_neg (pe_int)))) (pa_cons (pv 1) pa_nil))) pa_nil))))))), ?_⟩)
  · obtain ⟨p, xs, rfl, _⟩ := h
    rfl
  · skip
    obtain ⟨p, xs, rfl, hp, hl, q⟩ := h
    walk_at "go"
    refine Gx.ixL hp (Rd.W_get (k := 5) (by omega)) ?_
    walk_at "go"
    refine cp_is_marked hp hl (by decide) ?_
    have no : ∀ h : ¬ (xs.getD 0 0 = 75 ∧ xs.getD 31 0 = 75 ∧ 1 ≤ xs.getD 5 0 ∧ xs.getD 5 0 ≤ 160), Q .non H := fun h => q _ _ (Same.refl _) (by unfold Rd.dec; rw [if_neg h]; rfl)
    walk_at "go"
    refine Gx.if_b (fun c => ?_) (fun c => ?_)
    · walk_at "go"
      refine no fun ⟨a, b, _⟩ => ?_
      rw [show (75 : Int).toNat = 75 from rfl, a, b] at c
      cases c
    walk_at "go"
    have c2 : xs.getD 0 0 = 75 ∧ xs.getD 31 0 = 75 := by
      rw [show (75 : Int).toNat = 75 from rfl] at c
      simpa using c
    refine Gx.if_d (fun d => ?_) (fun d => ?_)
    · walk_at "go"
      exact no fun ⟨_, _, a, _⟩ => by omega
    walk_at "go"
    refine Gx.if_d (fun f => ?_) (fun f => ?_)
    · walk_at "go"
      exact no fun ⟨_, _, _, a⟩ => by omega
    walk_at "go"
    refine cp_number_at (k := 1) hp (by omega) ?_
    walk_at "go"
    refine cp_number_at (k := 3) hp (by omega) ?_
    walk_at "go"
    refine Gx.slL hp fun r hr => ?_
    rw [Rd.cut_mid hl]
    walk_at "go"
    have m1 := Gx.same_new (o := .lst (Rd.W ((xs.drop 6).take 25))) hr
    refine cp_unpack (K := K) (xs := (xs.drop 6).take 25) (SqL.of upd_same) (by rw [List.length_take, List.length_drop]; omega) fun H2 m2 => ?_
    rw [Rd.more hl (by omega)]
    walk_at "go"
    refine Gx.tupP (by show 3 ≤ sizeLine; decide) fun t ht => ?_
    refine q _ _ (m1.trans (m2.trans (Gx.same_new ht))) ?_
    unfold Rd.dec
    rw [if_pos ⟨c2.1, c2.2, by omega, by omega⟩]
    exact ⟨t, rfl, upd_same⟩

theorem cp_decode_record {K : PySem.W.Frag} {p : Addr} {xs : List Nat} {H : Hp} {Q : VK} {E : XK} (hp : SqL K H p (Rd.W xs)) (hl : xs.length = 32) (q : ∀ v H', Same H H' → Rd.Told (Rd.dec xs) v H' → Q v H') : Gx.CP (sp_decode_record K) [.ref p] [] H Q E := ⟨p, xs, rfl, hp, hl, q⟩

def sp_law_header (K : PySem.W.Frag) : Sp := fun vs H Q _ => ∃ (p s : Addr) (g w h d c t : Nat), vs = [.ref p, .int (g : Int), .ref s] ∧ SqL K H p (Rd.W (Hd.hdN g w h d c t)) ∧ Sx.frameBad w h d c t = none ∧ H s = some (.lst ([(w : Int), (h : Int), (d : Int), (c : Int), (t : Int)].map V.int)) ∧ ∀ H', Same H H' → Q (.bl true) H'

theorem sc_law_header : FnScope ["block", "generation", "shape", "told", "frame"] ["block", "generation", "shape"] (defScope s_law_header) := ⟨rfl, rfl, rfl, by decide +kernel, rfl, by decide +kernel, by decide +kernel⟩
theorem ok_law_header (T : Tx P K mg) : FnOk P w K mg base CX0 9 T.law_header.a T.law_header.d ["block", "generation", "shape"] (sp_law_header K) := by
  refine T.law_header.f.ok sc_law_header (fun vs H Q E h => ?_) (fun cdv A outer s H vs Q E hr h => ⟨_, pss_cons (ps_set (i := 3) sc_law_header.nd rfl (Or.inl rfl) (pe_call (ok_decode_header T) (hr.mono (by decide)) rfl T.decode_header.g T.decode_header.f.kp T.decode_header.b .nil pass0 (pa_cons (pv 0) pa_nil)))
      (pss_cons (ps_if (PW.pt (pw_or (pt_cmpR op_isN (pv 3) (pe_non) (nomark _)) (pw_or1 (pt_cmpR op_ne (pe_ix (Gx.ix_seqK (K := K) rfl) (pv 3) (pe_int) (fun _ _ => rfl)) (pv 1) (nomark _))))) (pss_one (ps_ret (pe_bl))) (pss_nil))
      (pss_cons (ps_set (i := 4) sc_law_header.nd rfl (Or.inl rfl) (pe_ix (Gx.ix_seqK (K := K) rfl) (pv 3) (pe_int) (fun _ _ => rfl)))
      (pss_one (ps_ret (pe_cmpR (op_eqD hr.units) (pe_lst (pa_cons (pe_fld (pv 4) rfl) (pa_cons (pe_fld (pv 4) rfl) (pa_cons (pe_fld (pv 4) rfl) (pa_cons (pe_fld (pv 4) rfl) (pa_cons (pe_fld (pv 4) rfl) pa_nil)))))) (pv 2) (nomark _)))))), ?_⟩)
  · obtain ⟨p, s, g, w, h, d, c, t, rfl, _⟩ := h
    rfl
  · skip
    obtain ⟨p, s', g, w, h, d, c, t, rfl, hp, ok, h3, q⟩ := h
    walk_at "run"
    refine cp_decode_header hp rfl fun u H2 s2 hu => ?_
    rw [Hd.dec_hd ok] at hu
    obtain ⟨t1, x, rfl, h1, fr⟩ := hu
    walk_at "run"
    rw [decide_eq_true rfl]
    walk_at "run"
    obtain ⟨dx, hx⟩ := id fr
    walk_at "run"
    refine Nx.lst0 (by show 5 ≤ sizeLine; decide) fun p9 H9 n9 s9 h9 => ?_
    walk_at "run"
    refine Gx.eqDI (xs := [(w : Int), (h : Int), (d : Int), (c : Int), (t : Int)]) (ys := [(w : Int), (h : Int), (d : Int), (c : Int), (t : Int)]) (SqL.of h9) (by walk_at "fact") ?_
    rw [decide_eq_true rfl]
    exact q _ (by walk_at "xsame")

theorem cp_law_header {K : PySem.W.Frag} {p s : Addr} {g w h d c t : Nat} {H : Hp} {Q : VK} {E : XK} (hp : SqL K H p (Rd.W (Hd.hdN g w h d c t))) (ok : Sx.frameBad w h d c t = none) (hs : H s = some (.lst ([(w : Int), (h : Int), (d : Int), (c : Int), (t : Int)].map V.int))) (q : ∀ H', Same H H' → Q (.bl true) H') : Gx.CP (sp_law_header K) [.ref p, .int (g : Int), .ref s] [] H Q E := ⟨p, s, g, w, h, d, c, t, rfl, hp, ok, hs, q⟩

def sp_encode_header (C : Addr) : Sp := fun vs H Q _ => ∃ (x : Addr) (g w h d c t : Nat), vs = [.int (g : Int), .ref x] ∧ Frm C H x w h d c t ∧ ∀ p H', H p = none → Same H H' → H' p = some (.lst (Rd.W (Hd.hdN g w h d c t))) → Q (.ref p) H'

theorem sc_encode_header : FnScope ["generation", "frame", "numbers"] ["generation", "frame"] (defScope s_encode_header) := ⟨rfl, rfl, rfl, by decide +kernel, rfl, by decide +kernel, by decide +kernel⟩
theorem ok_encode_header (T : Tx P K mg) : FnOk P w K mg base CX0 1 T.encode_header.a T.encode_header.d ["generation", "frame"] (sp_encode_header T.a_Frame) := by
  refine T.encode_header.f.ok sc_encode_header (fun vs H Q E h => ?_) (fun cdv A outer s H vs Q E hr h => ⟨_, pss_cons (ps_set (i := 2) sc_encode_header.nd rfl (Or.inl rfl) (pe_lst (pa_cons (pe_fld (pv 1) rfl) (pa_cons (pe_fld (pv 1) rfl) (pa_cons (pe_fld (pv 1) rfl) (pa_cons (pe_fld (pv 1) rfl) (pa_cons (pe_fld (pv 1) rfl) pa_nil)))))))
      (pss_one (ps_ret (pe_op op_cat (pe_op op_cat (pe_op op_cat (pe_lst (pa_cons (pe_glob (v := .int 72) rfl T.c_HEADER_MARK ⟨_, rfl⟩) (pa_cons (pv 0) pa_nil))) (pv 2)) (pe_op Gx.o_rep (pe_lst (pa_cons (pe_int) pa_nil)) (pe_glob (v := .int 24) rfl T.c_HEADER_FILL ⟨_, rfl⟩))) (pe_lst (pa_cons (pe_glob (v := .int 72) rfl T.c_HEADER_MARK ⟨_, rfl⟩) pa_nil))))), ?_⟩)
  · obtain ⟨x, g, w, h, d, c, t, rfl, _⟩ := h
    rfl
  · skip
    obtain ⟨x, g, w, h, d, c, t, rfl, ⟨dx, hx⟩, q⟩ := h
    walk_at "run"
    refine Nx.lst0 (by show 5 ≤ sizeLine; decide) fun p1 H1 n1 s1 h1 => ?_
    walk_at "run"
    refine Nx.lst0 (by show 2 ≤ sizeLine; decide) fun p2 H2 n2 s2 h2 => ?_
    walk_at "run"
    refine Nx.cat0 h2 (s2 _ _ h1) (by show 7 ≤ sizeLine; decide) fun p3 H3 n3 s3 h3 => ?_
    walk_at "run"
    refine Nx.lst0 (by show 1 ≤ sizeLine; decide) fun p4 H4 n4 s4 h4 => ?_
    walk_at "run"
    refine Nx.repN0 (n := 24) h4 (by decide) fun p5 H5 n5 s5 h5 => ?_
    walk_at "run"
    refine Nx.cat0 ((s4.trans s5) _ _ h3) h5 (by show 31 ≤ sizeLine; decide) fun p6 H6 n6 s6 h6 => ?_
    walk_at "run"
    refine Nx.lst0 (by show 1 ≤ sizeLine; decide) fun p7 H7 n7 s7 h7 => ?_
    walk_at "run"
    refine Nx.cat0 (s7 _ _ h6) h7 (by show 32 ≤ sizeLine; decide) fun p8 H8 n8 s8 h8 => ?_
    have s : Same H H7 := by walk_at "xsame"
    exact q p8 H8 (s.free n8) (s.trans s8) h8

theorem cp_encode_header {C x : Addr} {g w h d c t : Nat} {H : Hp} {Q : VK} {E : XK} (f : Frm C H x w h d c t) (q : ∀ p H', H p = none → Same H H' → H' p = some (.lst (Rd.W (Hd.hdN g w h d c t))) → Q (.ref p) H') : Gx.CP (sp_encode_header C) [.int (g : Int), .ref x] [] H Q E := ⟨x, g, w, h, d, c, t, rfl, f, q⟩

def sp_law_frame (K : PySem.W.Frag) (C : Addr) : Sp := fun vs H Q _ => ∃ (p : Addr) (w h d c t : Nat), vs = [.ref p] ∧ SqL K H p [.int (w : Int), .int (h : Int), .int (d : Int), .int (c : Int), .int (t : Int)] ∧ (1 ≤ w ∧ w ≤ 64) ∧ (1 ≤ h ∧ h ≤ 64) ∧ (1 ≤ d ∧ d ≤ 8) ∧ (c = 1 ∨ c = 3) ∧ (1 ≤ t ∧ t ≤ 16) ∧ w * h * c ≤ 3072 ∧ ∀ x H', H x = none → Same H H' → Frm C H' x w h d c t → Q (.ref x) H'

theorem sc_law_frame : FnScope ["shape"] ["shape"] (defScope s_law_frame) := ⟨rfl, rfl, rfl, by decide +kernel, rfl, by decide +kernel, by decide +kernel⟩
theorem ok_law_frame (T : Tx P K mg) : FnOk P w K mg base CX0 7 T.law_frame.a T.law_frame.d ["shape"] (sp_law_frame K T.a_Frame) := by
  refine T.law_frame.f.ok sc_law_frame (fun vs H Q E h => ?_) (fun cdv A outer s H vs Q E hr h => ⟨_, pss_one (ps_ret (pe_make ⟨T.mk_Frame, T.Frame___init__.m.at_, T.Frame___init__.m.fn, T.kp_Frame⟩ (ok_Frame___init__ T) (hr.mono (by decide)) rfl T.g_Frame T.Frame___init__.b .nil passL (pa_cons (pe_ix (Gx.ix_seqK (K := K) rfl) (pv 0) (pe_int) (fun _ _ => rfl)) (pa_cons (pe_ix (Gx.ix_seqK (K := K) rfl) (pv 0) (pe_int) (fun _ _ => rfl)) (pa_cons (pe_ix (Gx.ix_seqK (K := K) rfl) (pv 0) (pe_int) (fun _ _ => rfl)) (pa_cons (pe_ix (Gx.ix_seqK (K := K) rfl) (pv 0) (pe_int) (fun _ _ => rfl)) (pa_cons (pe_ix (Gx.ix_seqK (K := K) rfl) (pv 0) (pe_int) (fun _ _ => rfl)) pa_nil))))))), ?_⟩)
  · obtain ⟨p, w, h, d, c, t, rfl, _⟩ := h
    rfl
  · skip
    obtain ⟨p, w, h, d, c, t, rfl, hp, hw, hh, hd, hc, ht, hs, q⟩ := h
    walk_at "run"
    exact mk_Frame hw hh hd hc ht hs fun x H2 s hx fr => q x H2 hx s fr

theorem cp_law_frame {K : PySem.W.Frag} {C p : Addr} {w h d c t : Nat} {H : Hp} {Q : VK} {E : XK} (hp : SqL K H p [.int (w : Int), .int (h : Int), .int (d : Int), .int (c : Int), .int (t : Int)]) (hw : 1 ≤ w ∧ w ≤ 64) (hh : 1 ≤ h ∧ h ≤ 64) (hd : 1 ≤ d ∧ d ≤ 8) (hc : c = 1 ∨ c = 3) (ht : 1 ≤ t ∧ t ≤ 16) (hs : w * h * c ≤ 3072) (q : ∀ x H', H x = none → Same H H' → Frm C H' x w h d c t → Q (.ref x) H') :
    Gx.CP (sp_law_frame K C) [.ref p] [] H Q E := ⟨p, w, h, d, c, t, rfl, hp, hw, hh, hd, hc, ht, hs, q⟩

/-- a number from 0 on below the limit; the box's place moves -/
def sp_law_draw : Sp := fun vs H Q _ => ∃ (H0 : Hp) (b p : Addr) (xs : List Int) (m : Int), vs = [.ref b, .int m] ∧ 0 < m ∧ Bx.Box H0 H b p xs ∧ ∀ (r : Int) (H' : Hp), 0 ≤ r → r < m → Bx.Box H0 H' b p xs → (∀ c, c ≠ b → H' c = H c) → Q (.int r) H'

theorem sc_law_draw : FnScope ["box", "many", "at"] ["box", "many"] (defScope s_law_draw) := ⟨rfl, rfl, rfl, by decide +kernel, rfl, by decide +kernel, by decide +kernel⟩
theorem ok_law_draw (T : Tx P K mg) : FnOk P w K mg base CX0 1 T.law_draw.a T.law_draw.d ["box", "many"] (sp_law_draw) := by
  refine T.law_draw.f.ok sc_law_draw (fun vs H Q E h => ?_) (fun cdv A outer s H vs Q E hr h => ⟨_, pss_cons (ps_set (i := 2) sc_law_draw.nd rfl (Or.inl rfl) (pe_ix (Gx.ix_seqK (K := K) rfl) (pv 0) (pe_int) (fun _ _ => rfl)))
      (pss_cons (ps_asg (pe_op op_add (pv 2) (pe_int)) (pg_sub (pv 0) (pe_int) set_list))
      (pss_cons (ps_if (pt_cmpR op_lt (pv 2) (pe_callB (Gx.c_lenK (K := K) rfl) rfl T.n_len (by decide +kernel) (pa_cons (pe_ix (Gx.ix_seqK (K := K) rfl) (pv 0) (pe_int) (fun _ _ => rfl)) pa_nil)) (nomark _)) (pss_one (ps_ret (pe_op op_mod (pe_callTy Gx.c_int rfl T.n_int (by decide +kernel) (pa_cons (pe_ix (Gx.ix_seqK (K := K) rfl) (pe_ix (Gx.ix_seqK (K := K) rfl) (pv 0) (pe_int) (fun _ _ => rfl)) (pv 2) (fun _ _ => rfl)) pa_nil)) (pv 1)))) (pss_nil))
      (pss_one (ps_ret (pe_op op_mod (pe_callTy Gx.c_int rfl T.n_int (by decide +kernel) (pa_cons (pe_op op_add (pe_op op_mul (pv 2) (pe_int)) (pe_int)) pa_nil)) (pv 1)))))), ?_⟩)
  · obtain ⟨H0, b, p, xs, m, rfl, _⟩ := h
    rfl
  · skip
    obtain ⟨H0, b, p, xs, m, rfl, hm, B, q⟩ := h
    have hne := B.ne
    obtain ⟨hs, nb, np, ⟨k, hk⟩, hd⟩ := B
    walk_at "go"
    refine Gx.ixL (SqL.of hk) (at_of (j := 1) rfl rfl) ?_
    walk_at "go"
    refine Gx.setL (j := 1) hk rfl ?_
    have hk2 : upd H b (.lst [.ref p, .int ((k : Int) + 1)]) b = some (.lst [.ref p, .int ((k + 1 : Nat) : Int)]) := by rw [upd_same]; rfl
    have hd2 : upd H b (.lst [.ref p, .int ((k : Int) + 1)]) p = some (.lst (xs.map V.int)) := by rw [upd_ne hne]; exact hd
    have B2 : Bx.Box H0 (upd H b (.lst [.ref p, .int ((k : Int) + 1)])) b p xs := ⟨Gx.same_up nb hs, nb, np, ⟨k + 1, hk2⟩, hd2⟩
    have kp : ∀ c, c ≠ b → upd H b (.lst [.ref p, .int ((k : Int) + 1)]) c = H c := fun c hc => upd_ne hc
    walk_at "go"
    refine Gx.ixL (SqL.of hk2) (at_of (j := 0) rfl rfl) ?_
    walk_at "go"
    refine Gx.lenL (SqL.of hd2) ?_
    rw [List.length_map]
    walk_at "go"
    refine Gx.if_d (fun hlt => ?_) (fun hge => ?_)
    · walk_at "go"
      refine Gx.ixL (SqL.of hk2) (at_of (j := 0) rfl rfl) ?_
      walk_at "go"
      refine Gx.ixL (SqL.of hd2) (Gx.at_map (by omega)) ?_
      walk_at "go"
      refine Gx.ic hm ?_
      exact q _ _ (Int.emod_nonneg _ (by omega)) (Int.emod_lt_of_pos _ hm) B2 kp
    · walk_at "go"
      refine Gx.ic (.inr (by decide)) ?_
      walk_at "go"
      refine Gx.ic hm ?_
      exact q _ _ (Int.emod_nonneg _ (by omega)) (Int.emod_lt_of_pos _ hm) B2 kp

theorem cp_law_draw {H0 H : Hp} {b p : Addr} {xs : List Int} {m : Int} {Q : VK} {E : XK} (B : Bx.Box H0 H b p xs) (hm : 0 < m) (q : ∀ (r : Int) (H' : Hp), 0 ≤ r → r < m → Bx.Box H0 H' b p xs → (∀ c, c ≠ b → H' c = H c) → Q (.int r) H') :
    Gx.CP sp_law_draw [.ref b, .int m] [] H Q E := ⟨H0, b, p, xs, m, rfl, hm, B, q⟩
theorem drB {R H : Hp} {b p : Addr} {xs : List Int} {m : Int} {Q : VK} {E : XK} (B : Nx.Bo R H b p xs) (hm : 0 < m) (q : ∀ (r : Nat) (H' : Hp), (r : Int) < m → Nx.Bo R H' b p xs → Q (.int (r : Int)) H') :
    Gx.CP (Fx.fr sp_law_draw) [.ref b, .int m] [] H Q E := Nx.whole (cp_law_draw B.old hm fun r H' h0 h1 B' kp => by
  have := q r.toNat H' (by omega) (B.again B' kp)
  rw [Int.toNat_of_nonneg h0] at this
  exact this)
/-- a draw below a list that is being made -/
theorem drO {R R0 H : Hp} {b p D : Addr} {o : HO} {xs : List Int} {m : Int} {Q : VK} {E : XK} (O : Fx.Own R H (Nx.one D o)) (B : Nx.Bo R0 R b p xs) (hm : 0 < m) (q : ∀ (r : Nat) (R' H' : Hp), (r : Int) < m → Fx.Own R' H' (Nx.one D o) → Nx.Bo R0 R' b p xs → Q (.int (r : Int)) H') :
    Gx.CP (Fx.fr sp_law_draw) [.ref b, .int m] [] H Q E := Nx.inF O (cp_law_draw B.old hm fun r R' h0 h1 B' kp H' O' => by
  have := q r.toNat R' H' (by omega) O' (B.again B' kp)
  rw [Int.toNat_of_nonneg h0] at this
  exact this)

def sp_law_shape : Sp := fun vs H Q _ => ∃ (R : Hp) (b p : Addr) (xs : List Int) (m n k : Nat), vs = [.ref b, .int (m : Int), .int (n : Int), .int (k : Int)] ∧ 0 < m ∧ 0 < n ∧ 0 < k ∧ Nx.Bo R H b p xs ∧
  ∀ (w h d c t : Nat) (l : Addr) (R' H' : Hp), 1 ≤ w → w ≤ m → 1 ≤ h → h ≤ m → 1 ≤ d → d ≤ n → (c = 1 ∨ c = 3) → 1 ≤ t → t ≤ k → R l = none → Nx.Bo R' H' b p xs → Same R R' → R' l = some (.lst [.int (w : Int), .int (h : Int), .int (d : Int), .int (c : Int), .int (t : Int)]) → Q (.ref l) H'

theorem sc_law_shape : FnScope ["box", "most", "planes", "side", "width", "height", "depth", "channels"] ["box", "most", "planes", "side"] (defScope s_law_shape) := ⟨rfl, rfl, rfl, by decide +kernel, rfl, by decide +kernel, by decide +kernel⟩
theorem ok_law_shape (T : Tx P K mg) : FnOk P w K mg base CX0 2 T.law_shape.a T.law_shape.d ["box", "most", "planes", "side"] (sp_law_shape) := by
  refine T.law_shape.f.ok sc_law_shape (fun vs H Q E h => ?_) (fun cdv A outer s H vs Q E hr h => ⟨_, pss_cons (ps_set (i := 4) sc_law_shape.nd rfl (Or.inl rfl) (pe_op op_add (pe_int) (pe_call (Fx.frame0 (ok_law_draw T)) (hr.mono (by decide)) rfl T.law_draw.g T.law_draw.f.kp T.law_draw.b .nil pass0 (pa_cons (pv 0) (pa_cons (pv 1) pa_nil)))))
      (pss_cons (ps_set (i := 5) sc_law_shape.nd rfl (Or.inl rfl) (pe_op op_add (pe_int) (pe_call (Fx.frame0 (ok_law_draw T)) (hr.mono (by decide)) rfl T.law_draw.g T.law_draw.f.kp T.law_draw.b .nil pass0 (pa_cons (pv 0) (pa_cons (pv 1) pa_nil)))))
      (pss_cons (ps_set (i := 6) sc_law_shape.nd rfl (Or.inl rfl) (pe_op op_add (pe_int) (pe_call (Fx.frame0 (ok_law_draw T)) (hr.mono (by decide)) rfl T.law_draw.g T.law_draw.f.kp T.law_draw.b .nil pass0 (pa_cons (pv 0) (pa_cons (pv 2) pa_nil)))))
      (pss_cons (ps_set (i := 7) sc_law_shape.nd rfl (Or.inl rfl) (pe_op op_add (pe_int) (pe_op op_mul (pe_int) (pe_callTy Gx.c_int rfl T.n_int (by decide +kernel) (pa_cons (pe_cmpR op_eq (pe_call (Fx.frame0 (ok_law_draw T)) (hr.mono (by decide)) rfl T.law_draw.g T.law_draw.f.kp T.law_draw.b .nil pass0 (pa_cons (pv 0) (pa_cons (pe_int) pa_nil))) (pe_int) (nomark _)) pa_nil)))))
      (pss_one (ps_ret (pe_lst (pa_cons (pv 4) (pa_cons (pv 5) (pa_cons (pv 6) (pa_cons (pv 7) (pa_cons (pe_op op_add (pe_int) (pe_call (Fx.frame0 (ok_law_draw T)) (hr.mono (by decide)) rfl T.law_draw.g T.law_draw.f.kp T.law_draw.b .nil pass0 (pa_cons (pv 0) (pa_cons (pv 3) pa_nil)))) pa_nil))))))))))), ?_⟩)
  · obtain ⟨R, b, p, xs, m, n, k, rfl, _⟩ := h
    rfl
  · skip
    obtain ⟨R, b, p, xs, m, n, k, rfl, hm, hn, hk, B, q⟩ := h
    walk_at "run"
    refine drB B (by omega) fun w H1 hw B => ?_
    walk_at "run"
    refine drB B (by omega) fun h H2 hh B => ?_
    walk_at "run"
    refine drB B (by omega) fun d H3 hd B => ?_
    walk_at "run"
    refine drB B (by omega) fun c H4 hc B => ?_
    walk_at "run"
    refine drB B (by omega) fun t H5 ht B => ?_
    walk_at "run"
    refine Nx.lstB (by show 5 ≤ sizeLine; decide) B fun l R' H' hl B s e => ?_
    refine q (1 + w) (1 + h) (1 + d) (if c = 0 then 3 else 1) (1 + t) l R' H' (by omega) (by omega) (by omega) (by omega) (by omega) (by omega) (by split <;> simp) (by omega) (by omega) hl B s ?_
    rw [e]
    have e1 : (1 : Int) + (w : Int) = ((1 + w : Nat) : Int) := by omega
    have e2 : (1 : Int) + (h : Int) = ((1 + h : Nat) : Int) := by omega
    have e3 : (1 : Int) + (d : Int) = ((1 + d : Nat) : Int) := by omega
    have e4 : (1 : Int) + 2 * (if decide ((c : Int) = 0) = true then 1 else 0) = ((if c = 0 then 3 else 1 : Nat) : Int) := by
      by_cases z : c = 0
      · subst z; rfl
      · rw [if_neg z, decide_eq_false (by omega)]; rfl
    have e5 : (1 : Int) + (t : Int) = ((1 + t : Nat) : Int) := by omega
    rw [e1, e2, e3, e4, e5]

theorem cp_law_shape {R H : Hp} {b p : Addr} {xs : List Int} {m n k : Int} {Q : VK} {E : XK} (B : Nx.Bo R H b p xs) (hm : 0 < m) (hn : 0 < n) (hk : 0 < k)
    (q : ∀ (w h d c t : Nat) (l : Addr) (R' H' : Hp), 1 ≤ w → (w : Int) ≤ m → 1 ≤ h → (h : Int) ≤ m → 1 ≤ d → (d : Int) ≤ n → (c = 1 ∨ c = 3) → 1 ≤ t → (t : Int) ≤ k → R l = none → Nx.Bo R' H' b p xs → Same R R' → R' l = some (.lst [.int (w : Int), .int (h : Int), .int (d : Int), .int (c : Int), .int (t : Int)]) → Q (.ref l) H') :
    Gx.CP (Fx.fr sp_law_shape) [.ref b, .int m, .int n, .int k] [] H Q E :=
  Nx.whole ⟨R, b, p, xs, m.toNat, n.toNat, k.toNat, by rw [List.append_nil, Int.toNat_of_nonneg (by omega), Int.toNat_of_nonneg (by omega), Int.toNat_of_nonneg (by omega)], by omega, by omega, by omega, B, fun w h d c t l R' H' a1 a2 a3 a4 a5 a6 a7 a8 a9 => q w h d c t l R' H' a1 (by omega) a3 (by omega) a5 (by omega) a7 a8 (by omega)⟩

def sp_number_of : Sp := fun vs H Q _ => ∃ (bs : List Bool), vs = [.str (Bs.S bs)] ∧ bs.length ≤ 600 ∧ Q (.int (I2.val bs : Nat)) H

theorem sc_number_of : FnScope ["digits"] ["digits"] (defScope s_number_of) := ⟨rfl, rfl, rfl, by decide +kernel, rfl, by decide +kernel, by decide +kernel⟩
theorem ok_number_of (T : Tx P K mg) : FnOk P w K mg base CX0 1 T.number_of.a T.number_of.d ["digits"] (sp_number_of) := by
  refine T.number_of.f.ok sc_number_of (fun vs H Q E h => ?_) (fun cdv A outer s H vs Q E hr h => ⟨_, pss_one (ps_ret (pe_callTy I2.c_int2 rfl T.n_int (by decide +kernel) (pa_cons (pe_op Gx.o_addS (pe_str) (pv 0)) (pa_cons (pe_int) pa_nil)))), ?_⟩)
  · obtain ⟨bs, rfl, _⟩ := h
    rfl
  · skip
    obtain ⟨bs, rfl, hb, q⟩ := h
    walk_at "go"
    rw [Bs.lit0]
    refine Gx.addS (by rw [Bs.len, Bs.len, sizeLine_eq]; show 1 + _ ≤ _; omega) ?_
    rw [Bs.cat]
    walk_at "go"
    refine Fb.int2 (by intro h; cases h) (by rw [List.length_append]; show 1 + _ ≤ _; omega) ?_
    exact q

theorem cp_number_of {bs : List Bool} {H : Hp} {Q : VK} {E : XK} (hb : bs.length ≤ 600) (q : Q (.int (I2.val bs : Nat)) H) : Gx.CP sp_number_of [.str (Bs.S bs)] [] H Q E := ⟨bs, rfl, hb, q⟩

def sp_bytes_for : Sp := fun vs H Q _ => ∃ n : Nat, vs = [.int (n : Int)] ∧ Q (.int (((n + 7) / 8 : Nat) : Int)) H

theorem sc_bytes_for : FnScope ["count"] ["count"] (defScope s_bytes_for) := ⟨rfl, rfl, rfl, by decide +kernel, rfl, by decide +kernel, by decide +kernel⟩
theorem ok_bytes_for (T : Tx P K mg) : FnOk P w K mg base CX0 1 T.bytes_for.a T.bytes_for.d ["count"] (sp_bytes_for) := by
  refine T.bytes_for.f.ok sc_bytes_for (fun vs H Q E h => ?_) (fun cdv A outer s H vs Q E hr h => ⟨_, pss_one (ps_ret (pe_op op_fdiv (pe_op op_add (pv 0) (pe_int)) (pe_int))), ?_⟩)
  · obtain ⟨n, rfl, _⟩ := h
    rfl
  · skip
    obtain ⟨n, rfl, q⟩ := h
    walk_at "go"
    refine Gx.ic ⟨by decide, by decide⟩ ?_
    rw [show ((n : Int) + 7) / 8 = (((n + 7) / 8 : Nat) : Int) by omega]
    exact q

theorem cp_bytes_for {n : Nat} {H : Hp} {Q : VK} {E : XK} (q : Q (.int (((n + 7) / 8 : Nat) : Int)) H) : Gx.CP sp_bytes_for [.int (n : Int)] [] H Q E := ⟨n, rfl, q⟩

def sp_pack : Sp := fun vs H Q _ => ∃ bs : List Bool, vs = [.str (Bs.S bs)] ∧ bs.length ≤ 100000 ∧ ∀ p H', H p = none → Same H H' → H' p = some (.lst ((Pk.pk bs).map V.int)) → Q (.ref p) H'

theorem sc_pack : FnScope ["bits", "filled", "at"] ["bits"] (defScope s_pack) := ⟨rfl, rfl, rfl, by decide +kernel, rfl, by decide +kernel, by decide +kernel⟩
theorem ok_pack (T : Tx P K mg) : FnOk P w K mg base CX0 2 T.pack.a T.pack.d ["bits"] (sp_pack) := by
  refine T.pack.f.ok sc_pack (fun vs H Q E h => ?_) (fun cdv A outer s H vs Q E hr h => ⟨_, pss_cons (ps_set (i := 1) sc_pack.nd rfl (Or.inr rfl) (pe_op Gx.o_addS (pv 0) (pe_op Mu.o_mulS (pe_str) (pe_op op_sub (pe_op op_mul (pe_int) (pe_call (ok_bytes_for T) (hr.mono (by decide)) rfl T.bytes_for.g T.bytes_for.f.kp T.bytes_for.b .nil pass0 (pa_cons (pe_callB (Gx.c_lenK (K := K) rfl) rfl T.n_len (by decide +kernel) (pa_cons (pv 0) pa_nil)) pa_nil))) (pe_callB (Gx.c_lenK (K := K) rfl) rfl T.n_len (by decide +kernel) (pa_cons (pv 0) pa_nil))))))
      (pss_one (ps_ret (pe_lc (own := [("at", 2)]) (g := gName 2) (tt := tYes) rfl sc_pack.nd (pi_range3 rfl T.n_range (pa_cons (pe_int) (pa_cons (pe_callB (Gx.c_lenK (K := K) rfl) rfl T.n_len (by decide +kernel) (pa_cons (pv 1) pa_nil)) (pa_cons (pe_int) pa_nil)))) (blkOk_by (own := [("at", 2)]) (N := ["bits", "filled", "at"]) (sc := defScope s_pack) (by decide +kernel)) (fun _ _ _ _ _ => pg_name (i := 2) sc_pack.nd rfl (Or.inl rfl)) (fun _ _ _ _ _ => pts_nil) (fun _ _ _ _ _ => pe_call (ok_number_of T) (hr.mono (by decide)) rfl T.number_of.g T.number_of.f.kp T.number_of.b .nil pass0 (pa_cons (pe_slice sl_str (pv 1) (po_some (pv 2)) (po_some (pe_op op_add (pv 2) (pe_int)))) pa_nil))))), ?_⟩)
  · obtain ⟨bs, rfl, _⟩ := h
    rfl
  · skip
    obtain ⟨bs, rfl, hb, q⟩ := h
    walk_at "go"
    refine Bs.lenB (by omega) ?_
    walk_at "go"
    refine cp_bytes_for ?_
    walk_at "go"
    refine Gx.ic (.inl (by decide)) ?_
    walk_at "go"
    refine Bs.lenB (by omega) ?_
    walk_at "go"
    rw [show 8 * (((bs.length + 7) / 8 : Nat) : Int) - (bs.length : Int) = ((8 * Pk.nb bs.length - bs.length : Nat) : Int) by unfold Pk.nb; omega, Bs.lit0]
    have hf := Pk.fill_len bs
    have hnb : 8 * Pk.nb bs.length ≤ bs.length + 7 := by unfold Pk.nb; omega
    refine Mu.mulB (by decide) (by omega) ?_
    refine Gx.addS (by rw [Bs.len, Bs.len, Mu.flat1, List.length_replicate, sizeLine_eq]; omega) ?_
    rw [Bs.cat, Mu.flat1, show bs ++ List.replicate (8 * Pk.nb bs.length - bs.length) false = Pk.fill bs from rfl]
    walk_at "go"
    refine Bs.lenB (by omega) ?_
    rw [hf]
    walk_at "go"
    refine Gx.r3 (Pk.rg8 (by omega)) ?_
    rw [show Pk.nb (8 * Pk.nb bs.length) = Pk.nb bs.length by unfold Pk.nb; omega]
    refine Gx.lcMap walk_rangeC (by omega) (fun i => V.int ((I2.val (Pk.ei (Pk.fill bs) i) : Nat) : Int)) (fun _ _ => trivial) Gx.sameFn ?_ ?_
    · rintro i x H3 H3' R R0 hi s3 ⟨rfl, hx⟩ hr
      have hx2 : x = .int ((8 * i : Nat) : Int) := hx.trans (congrArg V.int (by omega))
      subst hx2
      walk_at "go"
      refine Gx.slS (by rw [Bs.len, sizeLine_eq]; omega) ?_
      rw [show (((8 * i : Nat) : Int) + 8) = ((8 * i + 8 : Nat) : Int) by omega, Pk.cut_both, show ((Pk.fill bs).drop (8 * i)).take 8 = Pk.ei (Pk.fill bs) i from rfl]
      refine cp_number_of (by have := Pk.ei_len hf hi; omega) ?_
      exact hr _ (Same.refl _)
    intro p H3 hp s3 hL
    exact q p H3 hp s3 (by rw [hL]; unfold Pk.pk; rw [List.map_map]; rfl)

theorem cp_pack {bs : List Bool} {H : Hp} {Q : VK} {E : XK} (hb : bs.length ≤ 100000) (q : ∀ p H', H p = none → Same H H' → H' p = some (.lst ((Pk.pk bs).map V.int)) → Q (.ref p) H') : Gx.CP sp_pack [.str (Bs.S bs)] [] H Q E := ⟨bs, rfl, hb, q⟩

def sp_two_bytes : Sp := fun vs H Q _ => ∃ n : Nat, vs = [.int (n : Int)] ∧ ∀ p, H p = none → Q (.ref p) (upd H p (.lst (Rd.W [n / 256, n % 256])))

theorem sc_two_bytes : FnScope ["number"] ["number"] (defScope s_two_bytes) := ⟨rfl, rfl, rfl, by decide +kernel, rfl, by decide +kernel, by decide +kernel⟩
theorem ok_two_bytes (T : Tx P K mg) : FnOk P w K mg base CX0 1 T.two_bytes.a T.two_bytes.d ["number"] (sp_two_bytes) := by
  refine T.two_bytes.f.ok sc_two_bytes (fun vs H Q E h => ?_) (fun cdv A outer s H vs Q E hr h => ⟨_, pss_one (ps_ret (pe_lst (pa_cons (pe_op op_fdiv (pv 0) (pe_int)) (pa_cons (pe_op op_mod (pv 0) (pe_int)) pa_nil)))), ?_⟩)
  · obtain ⟨n, rfl, _⟩ := h
    rfl
  · skip
    obtain ⟨n, rfl, q⟩ := h
    walk_at "go"
    refine Gx.ic ⟨by decide, by decide⟩ ?_
    walk_at "go"
    refine Gx.ic (by decide) ?_
    walk_at "go"
    refine Gx.lstP (by show 2 ≤ sizeLine; decide) fun p hp => ?_
    exact q p hp

theorem cp_two_bytes {n : Nat} {H : Hp} {Q : VK} {E : XK} (q : ∀ p, H p = none → Q (.ref p) (upd H p (.lst (Rd.W [n / 256, n % 256])))) : Gx.CP sp_two_bytes [.int (n : Int)] [] H Q E := ⟨n, rfl, q⟩

def sp_encode_record : Sp := fun vs H Q _ => ∃ (n s : Nat) (bs : List Bool), vs = [.int (n : Int), .int (s : Int), .str (Bs.S bs)] ∧ bs.length ≤ 160 ∧ ∀ p H', H p = none → Same H H' → H' p = some (.lst (Rd.W (Rd.recN n s bs))) → Q (.ref p) H'

theorem sc_encode_record : FnScope ["number", "start", "digits", "empty_bytes", "row"] ["number", "start", "digits"] (defScope s_encode_record) := ⟨rfl, rfl, rfl, by decide +kernel, rfl, by decide +kernel, by decide +kernel⟩
theorem ok_encode_record (T : Tx P K mg) : FnOk P w K mg base CX0 3 T.encode_record.a T.encode_record.d ["number", "start", "digits"] (sp_encode_record) := by
  refine T.encode_record.f.ok sc_encode_record (fun vs H Q E h => ?_) (fun cdv A outer s H vs Q E hr h => ⟨_, pss_cons (ps_set (i := 3) sc_encode_record.nd rfl (Or.inl rfl) (pe_op op_sub (pe_call (ok_bytes_for T) (hr.mono (by decide)) rfl T.bytes_for.g T.bytes_for.f.kp T.bytes_for.b .nil pass0 (pa_cons (pe_glob (v := .int 160) rfl T.c_RECORD_MOST ⟨_, rfl⟩) pa_nil)) (pe_call (ok_bytes_for T) (hr.mono (by decide)) rfl T.bytes_for.g T.bytes_for.f.kp T.bytes_for.b .nil pass0 (pa_cons (pe_callB (Gx.c_lenK (K := K) rfl) rfl T.n_len (by decide +kernel) (pa_cons (pv 2) pa_nil)) pa_nil))))
      (pss_cons (ps_set (i := 4) sc_encode_record.nd rfl (Or.inl rfl) (pe_op op_cat (pe_op op_cat (pe_call (ok_two_bytes T) (hr.mono (by decide)) rfl T.two_bytes.g T.two_bytes.f.kp T.two_bytes.b .nil pass0 (pa_cons (pv 0) pa_nil)) (pe_call (ok_two_bytes T) (hr.mono (by decide)) rfl T.two_bytes.g T.two_bytes.f.kp T.two_bytes.b .nil pass0 (pa_cons (pv 1) pa_nil))) (pe_lst (pa_cons (pe_callB (Gx.c_lenK (K := K) rfl) rfl T.n_len (by decide +kernel) (pa_cons (pv 2) pa_nil)) pa_nil))))
      (pss_one (ps_ret (pe_op op_cat (pe_op op_cat (pe_op op_cat (pe_op op_cat (pe_lst (pa_cons (pe_glob (v := .int 75) rfl T.c_RECORD_MARK ⟨_, rfl⟩) pa_nil)) (pv 4)) (pe_call (ok_pack T) (hr.mono (by decide)) rfl T.pack.g T.pack.f.kp T.pack.b .nil pass0 (pa_cons (pv 2) pa_nil))) (pe_op Gx.o_rep (pe_lst (pa_cons (pe_int) pa_nil)) (pe_op op_add (pv 3) (pe_glob (v := .int 5) rfl T.c_RECORD_FILL ⟨_, rfl⟩)))) (pe_lst (pa_cons (pe_glob (v := .int 75) rfl T.c_RECORD_MARK ⟨_, rfl⟩) pa_nil)))))), ?_⟩)
  · obtain ⟨n, s, bs, rfl, _⟩ := h
    rfl
  · skip
    obtain ⟨n, s, bs, rfl, hb, q⟩ := h
    have hnb : Pk.nb bs.length ≤ 20 := by unfold Pk.nb; omega
    have hpl : (Pk.pk bs).length = Pk.nb bs.length := by unfold Pk.pk; rw [List.length_map, List.length_range]
    walk_at "go"
    refine cp_bytes_for (n := 160) ?_
    walk_at "go"
    refine Bs.lenB (by omega) ?_
    walk_at "go"
    refine cp_bytes_for ?_
    walk_at "go"
    rw [show ((((160 + 7) / 8 : Nat) : Int)) - (((bs.length + 7) / 8 : Nat) : Int) = ((20 - Pk.nb bs.length : Nat) : Int) by unfold Pk.nb; omega]
    refine cp_two_bytes fun p1 h1 => ?_
    have m1 := Gx.same_new (o := .lst (Rd.W [n / 256, n % 256])) h1
    walk_at "go"
    refine cp_two_bytes fun p2 h2 => ?_
    have m2 := Gx.same_new (o := .lst (Rd.W [s / 256, s % 256])) h2
    refine Gx.cat (m2 _ _ upd_same) upd_same (by show 4 ≤ sizeLine; decide) fun p3 h3 => ?_
    have m3 := Gx.same_new (o := .lst (Rd.W [n / 256, n % 256] ++ Rd.W [s / 256, s % 256])) h3
    walk_at "go"
    refine Bs.lenB (by omega) ?_
    walk_at "go"
    refine Gx.lstP (by show 1 ≤ sizeLine; decide) fun p4 h4 => ?_
    have m4 := Gx.same_new (o := .lst [.int (bs.length : Int)]) h4
    refine Gx.cat (m4 _ _ upd_same) upd_same (by show 5 ≤ sizeLine; decide) fun p5 h5 => ?_
    have m5 := Gx.same_new (o := .lst (Rd.W [n / 256, n % 256] ++ Rd.W [s / 256, s % 256] ++ [.int (bs.length : Int)])) h5
    walk_at "go"
    refine Gx.lstP (by show 1 ≤ sizeLine; decide) fun p6 h6 => ?_
    have m6 := Gx.same_new (o := .lst [.int 75]) h6
    walk_at "go"
    refine Gx.cat upd_same (m6 _ _ upd_same) (by show 6 ≤ sizeLine; decide) fun p7 h7 => ?_
    rw [show [V.int 75] ++ (Rd.W [n / 256, n % 256] ++ Rd.W [s / 256, s % 256] ++ [V.int (bs.length : Int)]) = Rd.W (Rd.head n s bs.length) from rfl]
    have m7 := Gx.same_new (o := .lst (Rd.W (Rd.head n s bs.length))) h7
    have hm := m1.trans (m2.trans (m3.trans (m4.trans (m5.trans (m6.trans m7)))))
    generalize hG : upd _ p7 (.lst (Rd.W (Rd.head n s bs.length))) = G at m7 hm ⊢
    have e7 : G p7 = some (.lst (Rd.W (Rd.head n s bs.length))) := by rw [← hG, upd_same]
    clear hG m1 m2 m3 m4 m5 m6 m7
    walk_at "go"
    refine cp_pack (by omega) fun p8 G2 h8 m8 e8 => ?_
    refine Gx.cat (m8 _ _ e7) e8 (by rw [List.length_map, hpl, Rd.W_len, sizeLine_eq]; show 6 + _ ≤ _; omega) fun p9 h9 => ?_
    have m9 := Gx.same_new (o := .lst (Rd.W (Rd.head n s bs.length) ++ (Pk.pk bs).map V.int)) h9
    walk_at "go"
    refine Gx.lstP (by show 1 ≤ sizeLine; decide) fun pa ha => ?_
    have ma := Gx.same_new (o := .lst [.int 0]) ha
    walk_at "go"
    rw [show ((20 - Pk.nb bs.length : Nat) : Int) + 5 = ((20 - Pk.nb bs.length + 5 : Nat) : Int) by omega]
    refine Gx.repN upd_same (by omega) fun pb hb2 => ?_
    have mb := Gx.same_new (o := .lst (List.replicate (20 - Pk.nb bs.length + 5) (V.int 0))) hb2
    refine Gx.cat (mb _ _ (ma _ _ upd_same)) upd_same (by rw [List.length_append, List.length_map, hpl, Rd.W_len, List.length_replicate, sizeLine_eq]; show 6 + _ + _ ≤ _; omega) fun pc hc => ?_
    have mc := Gx.same_new (o := .lst (Rd.W (Rd.head n s bs.length) ++ (Pk.pk bs).map V.int ++ List.replicate (20 - Pk.nb bs.length + 5) (V.int 0))) hc
    walk_at "go"
    refine Gx.lstP (by show 1 ≤ sizeLine; decide) fun pd hd => ?_
    have md := Gx.same_new (o := .lst [.int 75]) hd
    walk_at "go"
    refine Gx.cat (md _ _ upd_same) upd_same (by rw [List.length_append, List.length_append, List.length_map, hpl, Rd.W_len, List.length_replicate, sizeLine_eq]; show 6 + _ + _ + 1 ≤ _; omega) fun pe he => ?_
    rw [Rd.rec_made hb]
    have me := Gx.same_new (o := .lst (Rd.W (Rd.recN n s bs))) he
    have hall := hm.trans (m8.trans (m9.trans (ma.trans (mb.trans (mc.trans (md.trans me))))))
    exact q pe _ ((hm.trans (m8.trans (m9.trans (ma.trans (mb.trans (mc.trans md)))))).free he) hall upd_same

theorem cp_encode_record {n s : Nat} {bs : List Bool} {H : Hp} {Q : VK} {E : XK} (hb : bs.length ≤ 160) (q : ∀ p H', H p = none → Same H H' → H' p = some (.lst (Rd.W (Rd.recN n s bs))) → Q (.ref p) H') : Gx.CP sp_encode_record [.int (n : Int), .int (s : Int), .str (Bs.S bs)] [] H Q E := ⟨n, s, bs, rfl, hb, q⟩

/-- some bits, so many -/
def sp_law_bits : Sp := fun vs H Q _ => ∃ (H0 : Hp) (b p : Addr) (xs : List Int) (m : Nat), vs = [.ref b, .int (m : Int)] ∧ m ≤ 100000 ∧ Bx.Box H0 H b p xs ∧ ∀ (bs : List Bool) (H' : Hp), bs.length = m → Bx.Box H0 H' b p xs → (∀ c, c ≠ b → H' c = H c) → Q (.str (Bs.S bs)) H'

theorem sc_law_bits : FnScope ["box", "many", "text", "kind", "k"] ["box", "many"] (defScope s_law_bits) := ⟨rfl, rfl, rfl, by decide +kernel, rfl, by decide +kernel, by decide +kernel⟩
theorem ok_law_bits (T : Tx P K mg) : FnOk P w K mg base CX0 2 T.law_bits.a T.law_bits.d ["box", "many"] (sp_law_bits) := by
  refine T.law_bits.f.ok sc_law_bits (fun vs H Q E h => ?_) (fun cdv A outer s H vs Q E hr h => ⟨_, pss_cons (ps_set (i := 2) sc_law_bits.nd rfl (Or.inl rfl) (pe_str))
      (pss_cons (ps_set (i := 3) sc_law_bits.nd rfl (Or.inl rfl) (pe_call (ok_law_draw T) (hr.mono (by decide)) rfl T.law_draw.g T.law_draw.f.kp T.law_draw.b .nil pass0 (pa_cons (pv 0) (pa_cons (pe_int) pa_nil))))
      (pss_cons (ps_for PassesOwn.never rfl (pi_range1 rfl T.n_range (pa_cons (pv 1) pa_nil)) (pg_name (i := 4) sc_law_bits.nd rfl (Or.inl rfl))
      (pss_one (ps_if (pt_cmpR op_eq (pv 3) (pe_int) (nomark _)) (pss_one (ps_set (i := 2) sc_law_bits.nd rfl (Or.inl rfl) (pe_op Gx.o_addS (pv 2) (pe_str)))) (pss_one (ps_if (pt_cmpR op_eq (pv 3) (pe_int) (nomark _)) (pss_one (ps_set (i := 2) sc_law_bits.nd rfl (Or.inl rfl) (pe_op Gx.o_addS (pv 2) (pe_str)))) (pss_one (ps_if (PW.pt (pw_and (pt_cmpR op_eq (pv 3) (pe_int) (nomark _)) (pw_and (pt_cmpR op_gt (pv 4) (pe_int) (nomark _)) (pw_and1 (pt_cmpR op_gt (pe_call (ok_law_draw T) (hr.mono (by decide)) rfl T.law_draw.g T.law_draw.f.kp T.law_draw.b .nil pass0 (pa_cons (pv 0) (pa_cons (pe_int) pa_nil))) (pe_int) (nomark _)))))) (pss_one (ps_set (i := 2) sc_law_bits.nd rfl (Or.inl rfl) (pe_op Gx.o_addS (pv 2) (pe_ix (Gx.ix_seqK (K := K) rfl) (pv 2) (pe_op op_sub (pv 4) (pe_int)) (fun _ _ => rfl))))) (pss_one (ps_set (i := 2) sc_law_bits.nd rfl (Or.inl rfl) (pe_op Gx.o_addS (pv 2) (pe_callTy Gx.c_strI rfl T.n_str (by decide +kernel) (pa_cons (pe_call (ok_law_draw T) (hr.mono (by decide)) rfl T.law_draw.g T.law_draw.f.kp T.law_draw.b .nil pass0 (pa_cons (pv 0) (pa_cons (pe_int) pa_nil))) pa_nil))))))))))))
      (pss_one (ps_ret (pv 2))))), ?_⟩)
  · obtain ⟨H0, b, p, xs, m, rfl, _⟩ := h
    rfl
  · skip
    obtain ⟨H0, b, p, xs, m, rfl, hm, B, q⟩ := h
    walk_at "go"
    rw [Bs.lit_]
    refine cp_law_draw B (by decide) fun kd H1 hk0 hk1 B1 kp1 => ?_
    walk_at "go"
    refine Gx.r1 (by omega) (by omega) ?_
    refine Gx.fw walk_range (fun i σ' H' => ∃ (bs : List Bool) (kv : Option V), bs.length = i ∧ Bx.Box H0 H' b p xs ∧ (∀ c, c ≠ b → H' c = H c) ∧
      σ' = [some (.ref b), some (.int (m : Int)), some (.str (Bs.S bs)), some (.int kd), kv]) ⟨[], none, rfl, B1, kp1, rfl⟩ (fun _ _ _ _ _ => trivial) ?_ ?_
    · rintro i x σ' H2 H2' hi ⟨bs, kv, hl, B2, kp, rfl⟩ ⟨rfl, hx⟩
      have hx2 : x = .int (i : Int) := hx.trans (congrArg V.int (by omega))
      subst hx2
      have fin : ∀ (c : Bool) (H' : Hp), Bx.Box H0 H' b p xs → (∀ c, c ≠ b → H' c = H c) → ∃ (bs' : List Bool) (kv : Option V), bs'.length = i + 1 ∧ Bx.Box H0 H' b p xs ∧ (∀ c, c ≠ b → H' c = H c) ∧
          [some (V.ref b), some (.int (m : Int)), some (.str (Bs.S bs ++ Bs.S [c])), some (.int kd), some (.int (i : Int))] = [some (.ref b), some (.int (m : Int)), some (.str (Bs.S bs')), some (.int kd), kv] :=
        fun c H' B' k' => ⟨bs ++ [c], _, by rw [List.length_append, hl]; rfl, B', k', by rw [Bs.cat]⟩
      have hsz : ∀ c : Bool, (Bs.S bs).length + (Bs.S [c]).length ≤ sizeLine := fun c => by rw [Bs.len, Bs.len, sizeLine_eq]; show bs.length + 1 ≤ _; omega
      walk_at "go"
      refine Gx.if_d (fun _ => ?_) (fun _ => ?_)
      · walk_at "go"
        rw [Bs.lit0]
        refine Gx.addS (hsz _) ?_
        walk_at "go"
        exact fin _ _ B2 kp
      walk_at "go"
      refine Gx.if_d (fun _ => ?_) (fun _ => ?_)
      · walk_at "go"
        rw [Bs.lit1]
        refine Gx.addS (hsz _) ?_
        walk_at "go"
        exact fin _ _ B2 kp
      walk_at "go"
      refine Gx.if_b (fun _ => ?_) (fun _ => ?_)
      · walk_at "go"
        refine Gx.if_d (fun hi0 => ?_) (fun _ => ?_)
        · walk_at "go"
          refine cp_law_draw B2 (by decide) fun r H' _ _ B' k' => ?_
          have k2 : ∀ c, c ≠ b → H' c = H c := fun c hc => (k' c hc).trans (kp c hc)
          walk_at "go"
          refine Gx.if_b (fun _ => ?_) (fun _ => ?_)
          · walk_at "go"
            refine Bs.ix (by omega) (by omega) (by omega) ?_
            refine Gx.addS (hsz _) ?_
            walk_at "go"
            exact fin _ _ B' k2
          · walk_at "go"
            refine cp_law_draw B' (by decide) fun r H' h0 h1 B' k' => ?_
            have k2 : ∀ c, c ≠ b → H' c = H c := fun c hc => (k' c hc).trans (k2 c hc)
            walk_at "go"
            refine Bs.strbit (by omega) fun c _ => ?_
            refine Gx.addS (hsz _) ?_
            walk_at "go"
            exact fin _ _ B' k2
        · walk_at "go"
          refine cp_law_draw B2 (by decide) fun r H' h0 h1 B' k' => ?_
          have k2 : ∀ c, c ≠ b → H' c = H c := fun c hc => (k' c hc).trans (kp c hc)
          walk_at "go"
          refine Bs.strbit (by omega) fun c _ => ?_
          refine Gx.addS (hsz _) ?_
          walk_at "go"
          exact fin _ _ B' k2
      · walk_at "go"
        refine cp_law_draw B2 (by decide) fun r H' h0 h1 B' k' => ?_
        have k2 : ∀ c, c ≠ b → H' c = H c := fun c hc => (k' c hc).trans (kp c hc)
        walk_at "go"
        refine Bs.strbit (by omega) fun c _ => ?_
        refine Gx.addS (hsz _) ?_
        walk_at "go"
        exact fin _ _ B' k2
    · rintro σ' H' ⟨bs, kv, hl, B2, kp, rfl⟩
      walk_at "go"
      exact q bs H' (by omega) B2 kp

theorem cp_law_bits {H0 H : Hp} {b p : Addr} {xs : List Int} {m : Int} {Q : VK} {E : XK} (B : Bx.Box H0 H b p xs) (h0 : 0 ≤ m) (hm : m ≤ 100000) (q : ∀ (bs : List Bool) (H' : Hp), bs.length = m.toNat → Bx.Box H0 H' b p xs → (∀ c, c ≠ b → H' c = H c) → Q (.str (Bs.S bs)) H') :
    Gx.CP sp_law_bits [.ref b, .int m] [] H Q E := ⟨H0, b, p, xs, m.toNat, by rw [List.append_nil, Int.toNat_of_nonneg h0], by omega, B, q⟩
theorem bitsB {R H : Hp} {b p : Addr} {xs : List Int} {m : Int} {Q : VK} {E : XK} (B : Nx.Bo R H b p xs) (h0 : 0 ≤ m) (hm : m ≤ 100000) (q : ∀ (bs : List Bool) (H' : Hp), bs.length = m.toNat → Nx.Bo R H' b p xs → Q (.str (Bs.S bs)) H') :
    Gx.CP (Fx.fr sp_law_bits) [.ref b, .int m] [] H Q E := Nx.whole (cp_law_bits B.old h0 hm fun bs H' hl B' kp => q bs H' hl (B.again B' kp))

/-- a cell of the script, 0 beyond its end -/
def sp_law_cell (K : PySem.W.Frag) : Sp := fun vs H Q _ => ∃ (a : Addr) (ns : List Int) (k : Nat), vs = [.ref a, .int (k : Int)] ∧ SqL K H a (ns.map V.int) ∧ k < 100000 ∧ Q (.int (ns.getD k 0)) H

theorem sc_law_cell : FnScope ["script", "k"] ["script", "k"] (defScope s_law_cell) := ⟨rfl, rfl, rfl, by decide +kernel, rfl, by decide +kernel, by decide +kernel⟩
theorem ok_law_cell (T : Tx P K mg) : FnOk P w K mg base CX0 1 T.law_cell.a T.law_cell.d ["script", "k"] (sp_law_cell K) := by
  refine T.law_cell.f.ok sc_law_cell (fun vs H Q E h => ?_) (fun cdv A outer s H vs Q E hr h => ⟨_, pss_cons (ps_if (pt_cmpR op_lt (pv 1) (pe_callB (Gx.c_lenK (K := K) rfl) rfl T.n_len (by decide +kernel) (pa_cons (pv 0) pa_nil)) (nomark _)) (pss_one (ps_ret (pe_ix (Gx.ix_seqK (K := K) rfl) (pv 0) (pv 1) (fun _ _ => rfl)))) (pss_nil))
      (pss_one (ps_ret (pe_int))), ?_⟩)
  · obtain ⟨a, ns, k, rfl, _⟩ := h
    rfl
  · skip
    obtain ⟨a, ns, k, rfl, hs, hk, q⟩ := h
    walk_at "go"
    refine Gx.lenL hs ?_
    walk_at "go"
    refine Gx.if_d (fun hlt => ?_) (fun hge => ?_)
    · rw [List.length_map] at hlt
      walk_at "go"
      exact Gx.ixL hs (Gx.at_map (by omega)) q
    · rw [List.length_map] at hge
      walk_at "go"
      have e : ns.getD k 0 = 0 := by
        rw [List.getD_eq_getElem?_getD, List.getElem?_eq_none (by omega)]; rfl
      rw [e] at q
      exact q

theorem cp_law_cell {K : PySem.W.Frag} {a : Addr} {ns : List Int} {k : Int} {H : Hp} {Q : VK} {E : XK} (hs : SqL K H a (ns.map V.int)) (h0 : 0 ≤ k) (h1 : k < 100000) (q : ∀ z : Int, (z ∈ ns ∨ z = 0) → Q (.int z) H) : Gx.CP (sp_law_cell K) [.ref a, .int k] [] H Q E := by
  refine ⟨a, ns, k.toNat, by rw [List.append_nil, Int.toNat_of_nonneg h0], hs, by omega, q _ ?_⟩
  rw [List.getD_eq_getElem?_getD]
  by_cases h : k.toNat < ns.length
  · rw [List.getElem?_eq_getElem h]; exact .inl (List.getElem_mem h)
  · rw [List.getElem?_eq_none (by omega)]; exact .inr rfl

/-- a new list of ints, as the script has them -/
def sp_law_digits (K : PySem.W.Frag) : Sp := fun vs H Q _ => ∃ (a : Addr) (ns : List Int) (f l : Nat), vs = [.ref a, .int (f : Int), .int (l : Int)] ∧ SqL K H a (ns.map V.int) ∧ f ≤ l ∧ l ≤ 1000 ∧
  ∀ (xs : List Int) (p : Addr) (H' : Hp), H p = none → Same H H' → H' p = some (.lst (xs.map V.int)) → Q (.ref p) H'

theorem sc_law_digits : FnScope ["script", "first", "last", "digits", "k", "cell", "turn", "seed"] ["script", "first", "last"] (defScope s_law_digits) := ⟨rfl, rfl, rfl, by decide +kernel, rfl, by decide +kernel, by decide +kernel⟩
theorem ok_law_digits (T : Tx P K mg) : FnOk P w K mg base CX0 2 T.law_digits.a T.law_digits.d ["script", "first", "last"] (sp_law_digits K) := by
  refine T.law_digits.f.ok sc_law_digits (fun vs H Q E h => ?_) (fun cdv A outer s H vs Q E hr h => ⟨_, pss_cons (ps_set (i := 3) sc_law_digits.nd rfl (Or.inl rfl) (pe_lst pa_nil))
      (pss_cons (ps_for PassesOwn.never rfl (pi_range2 rfl T.n_range (pa_cons (pv 1) (pa_cons (pv 2) pa_nil))) (pg_name (i := 4) sc_law_digits.nd rfl (Or.inl rfl))
      (pss_cons (ps_set (i := 5) sc_law_digits.nd rfl (Or.inl rfl) (pe_call (ok_law_cell T) (hr.mono (by decide)) rfl T.law_cell.g T.law_cell.f.kp T.law_cell.b .nil pass0 (pa_cons (pv 0) (pa_cons (pv 4) pa_nil))))
      (C8.pss_cut (ps_if (pt_cmpR op_lt (pv 5) (pe_int) (nomark _)) (pss_one (ps_set (i := 5) sc_law_digits.nd rfl (Or.inl rfl) (pe_op op_sub (pe_int) (pe_op op_mul (pe_int) (pv 5))))) (pss_nil))
      (pss_one (ps_if (pt_cmpR op_ge (pv 5) (pe_int) (nomark _)) (pss_one (ps_for PassesOwn.never rfl (pi_range1 rfl T.n_range (pa_cons (pe_int) pa_nil)) (pg_name (i := 6) sc_law_digits.nd rfl (Or.inl rfl))
      (pss_one (ps_if (pt_cmpR op_gt (pv 5) (pe_int) (nomark _)) (pss_cons (ps_expr (pe_bm PySem.F.plainAttrs_list PySem.F.slot_list_append PySem.F.type_list_append mt_append (pv 3) (pa_cons (pe_op op_mod (pe_callTy Gx.c_int rfl T.n_int (by decide +kernel) (pa_cons (pv 5) pa_nil)) (pe_int)) pa_nil)))
      (pss_one (ps_set (i := 5) sc_law_digits.nd rfl (Or.inl rfl) (pe_op op_fdiv (pv 5) (pe_int))))) (pss_nil))))) (pss_cons (ps_set (i := 7) sc_law_digits.nd rfl (Or.inl rfl) (pe_op op_mod (pe_callTy Gx.c_int rfl T.n_int (by decide +kernel) (pa_cons (pe_op op_add (pe_op op_add (pe_op op_mul (pv 5) (pe_int)) (pe_op op_mul (pv 4) (pe_int))) (pe_int)) pa_nil)) (pe_int)))
      (pss_one (ps_for PassesOwn.never rfl (pi_range1 rfl T.n_range (pa_cons (pe_int) pa_nil)) (pg_name (i := 6) sc_law_digits.nd rfl (Or.inl rfl))
      (pss_cons (ps_set (i := 7) sc_law_digits.nd rfl (Or.inl rfl) (pe_op op_mod (pe_callTy Gx.c_int rfl T.n_int (by decide +kernel) (pa_cons (pe_op op_add (pe_op op_add (pe_op op_mul (pv 7) (pe_int)) (pe_op op_mul (pe_int) (pv 6))) (pe_int)) pa_nil)) (pe_int)))
      (pss_one (ps_expr (pe_bm PySem.F.plainAttrs_list PySem.F.slot_list_append PySem.F.type_list_append mt_append (pv 3) (pa_cons (pe_op op_mod (pe_callTy Gx.c_int rfl T.n_int (by decide +kernel) (pa_cons (pe_op op_fdiv (pv 7) (pe_int)) pa_nil)) (pe_int)) pa_nil)))))))))))))
      (pss_one (ps_ret (pv 3)))), ?_⟩)
  · obtain ⟨a, ns, f, l, rfl, _⟩ := h
    rfl
  · skip
    obtain ⟨a, ns, f, l, rfl, hs, hfl, hl, q⟩ := h
    walk_at "go"
    refine Gx.lstP (Nat.zero_le _) fun p hp => ?_
    walk_at "go"
    refine Gx.r2 (by omega) ?_
    refine Gx.fw walk_range (fun i σ' H' => ∃ (xs : List Int) (k c t sd : Option V), xs.length ≤ 60 * i ∧ Same H H' ∧ H' p = some (.lst (xs.map V.int)) ∧
      σ' = [some (.ref a), some (.int (f : Int)), some (.int (l : Int)), some (.ref p), k, c, t, sd]) ?_ (fun _ _ _ _ _ => trivial) ?_ ?_
    · exact ⟨[], none, none, none, none, Nat.zero_le _, Gx.same_new hp, upd_same, rfl⟩
    · rintro i x σ' H1 H1' hi ⟨xs, k, c, t, sd, hx, s1, hL, rfl⟩ ⟨rfl, hxi⟩
      have hxi2 : x = .int ((f + i : Nat) : Int) := hxi.trans (congrArg V.int (by omega))
      subst hxi2
      have hz : ∀ ys : List Int, ys.length ≤ 60 * i + 60 → (ys.map V.int).length < sizeLine := fun ys h => by rw [List.length_map, sizeLine_eq]; omega
      walk_at "go"
      refine cp_law_cell (s1.seq hs) (by omega) (by omega) fun c0 _ => ?_
      walk_at "go"
      refine Gx.cut (fun σ' H' => H' = H1' ∧ ∃ c1 : Int, σ' = [some (.ref a), some (.int (f : Int)), some (.int (l : Int)), some (.ref p), some (.int ((f + i : Nat) : Int)), some (.int c1), t, sd]) ?_ ?_
      · walk_at "go"
        refine Gx.if_d (fun _ => ?_) (fun _ => ?_)
        · walk_at "go"
          refine Gx.ic (.inl (by decide)) ?_
          walk_at "go"
          exact ⟨rfl, _, rfl⟩
        · walk_at "go"
          exact ⟨rfl, _, rfl⟩
      · rintro σ' H' ⟨rfl, c1, rfl⟩
        walk_at "go"
        refine Gx.if_b (fun _ => ?_) (fun _ => ?_)
        · walk_at "go"
          refine Gx.r1 (by decide) (by decide) ?_
          refine Gx.fw walk_range (fun j σ' H' => ∃ (ys : List Int) (c t : Option V) (cc : Int), ys.length ≤ 60 * i + j ∧ Same H H' ∧ H' p = some (.lst (ys.map V.int)) ∧
            σ' = [some (.ref a), some (.int (f : Int)), some (.int (l : Int)), some (.ref p), some (.int ((f + i : Nat) : Int)), some (.int cc), t, sd]) ⟨xs, none, t, c1, by omega, s1, hL, rfl⟩ (fun _ _ _ _ _ => trivial) ?_ ?_
          · rintro j x σ' H2 H2' hj ⟨ys, _, t, cc, hy, s2, hL2, rfl⟩ ⟨rfl, hxj⟩
            walk_at "go"
            refine Gx.if_b (fun _ => ?_) (fun _ => ?_)
            · walk_at "go"
              refine Gx.bmS (Gx.tyL (SqL.of hL2)) ?_
              walk_at "go"
              refine Gx.ic (by decide) ?_
              walk_at "go"
              refine Gx.app hL2 (hz ys (by omega)) ?_
              walk_at "go"
              refine Gx.ic ⟨by decide, by decide⟩ ?_
              walk_at "go"
              exact ⟨ys ++ [cc % 1000], none, some x, _, by rw [List.length_append, List.length_singleton]; omega, Gx.same_up hp s2, Gx.snoc, rfl⟩
            · walk_at "go"
              exact ⟨ys, none, some x, cc, by omega, s2, hL2, rfl⟩
          · rintro σ' H' ⟨ys, _, t, cc, hy, s2, hL2, rfl⟩
            walk_at "go"
            exact ⟨ys, _, _, _, _, by omega, s2, hL2, rfl⟩
        · walk_at "go"
          refine Gx.ic (.inr (by decide)) ?_
          walk_at "go"
          refine Gx.ic (.inr (by decide)) ?_
          walk_at "go"
          refine Gx.ic (by decide) ?_
          walk_at "go"
          refine Gx.r1 (by decide) (by decide) ?_
          refine Gx.fw walk_range (fun j σ' H' => ∃ (ys : List Int) (t : Option V) (s0 : Int), ys.length ≤ 60 * i + j ∧ Same H H' ∧ H' p = some (.lst (ys.map V.int)) ∧ 
            σ' = [some (.ref a), some (.int (f : Int)), some (.int (l : Int)), some (.ref p), some (.int ((f + i : Nat) : Int)), some (.int c1), t, some (.int s0)]) ⟨xs, t, _, by omega, s1, hL, rfl⟩ (fun _ _ _ _ _ => trivial) ?_ ?_
          · rintro j x σ' H2 H2' hj ⟨ys, t, s0, hy, s2, hL2, rfl⟩ ⟨rfl, hxj⟩
            subst hxj
            walk_at "go"
            refine Gx.ic (.inr (by decide)) ?_
            walk_at "go"
            refine Gx.ic (.inl (by decide)) ?_
            walk_at "go"
            refine Gx.ic (by decide) ?_
            walk_at "go"
            refine Gx.bmS (Gx.tyL (SqL.of hL2)) ?_
            walk_at "go"
            refine Gx.ic ⟨by decide, by decide⟩ ?_
            walk_at "go"
            refine Gx.ic (by decide) ?_
            walk_at "go"
            refine Gx.app hL2 (hz ys (by omega)) ?_
            exact ⟨ys ++ [_], _, _, by rw [List.length_append, List.length_singleton]; omega, Gx.same_up hp s2, Gx.snoc, rfl⟩
          · rintro σ' H' ⟨ys, t, s0, hy, s2, hL2, rfl⟩
            walk_at "go"
            exact ⟨ys, _, _, _, _, by omega, s2, hL2, rfl⟩
    · rintro σ' H' ⟨xs, k, c, t, sd, hx, s1, hL, rfl⟩
      walk_at "go"
      exact q xs p H' hp s1 hL

theorem cp_law_digits {K : PySem.W.Frag} {a : Addr} {ns : List Int} {f l : Int} {H : Hp} {Q : VK} {E : XK} (hs : SqL K H a (ns.map V.int)) (h0 : 0 ≤ f) (h1 : f ≤ l) (h2 : l ≤ 1000)
    (q : ∀ (xs : List Int) (p : Addr) (H' : Hp), H p = none → Same H H' → H' p = some (.lst (xs.map V.int)) → Q (.ref p) H') : Gx.CP (sp_law_digits K) [.ref a, .int f, .int l] [] H Q E :=
  ⟨a, ns, f.toNat, l.toNat, by rw [List.append_nil, Int.toNat_of_nonneg h0, Int.toNat_of_nonneg (Int.le_trans h0 h1)], hs, by omega, by omega, q⟩


theorem sc_law : FnScope ["script", "box", "number", "start", "digits", "block", "zeros", "shape", "generation", "older", "newer", "many", "due"] ["script"] (defScope s_law) := ⟨rfl, rfl, rfl, by decide +kernel, rfl, by decide +kernel, by decide +kernel⟩
theorem ok_law (T : Tx P K mg) : FnOk P w K mg base CX0 10 T.law.a T.law.d ["script"] (spLaw K) := by
  refine T.law.f.ok sc_law (fun vs H Q E h => ?_) (fun cdv A outer s H vs Q E hr h => ⟨_, pss_cons (ps_set (i := 1) sc_law.nd rfl (Or.inl rfl) (pe_lst (pa_cons (pe_call (Fx.frame0 (ok_law_digits T)) (hr.mono (by decide)) rfl T.law_digits.g T.law_digits.f.kp T.law_digits.b .nil pass0 (pa_cons (pv 0) (pa_cons (pe_int) (pa_cons (pe_int) pa_nil)))) (pa_cons (pe_int) pa_nil))))
      (pss_cons (ps_set (i := 2) sc_law.nd rfl (Or.inl rfl) (pe_call (Fx.frame0 (ok_law_draw T)) (hr.mono (by decide)) rfl T.law_draw.g T.law_draw.f.kp T.law_draw.b .nil pass0 (pa_cons (pv 1) (pa_cons (pe_int) pa_nil))))
      (pss_cons (ps_set (i := 3) sc_law.nd rfl (Or.inl rfl) (pe_call (Fx.frame0 (ok_law_draw T)) (hr.mono (by decide)) rfl T.law_draw.g T.law_draw.f.kp T.law_draw.b .nil pass0 (pa_cons (pv 1) (pa_cons (pe_int) pa_nil))))
      (pss_cons (ps_set (i := 4) sc_law.nd rfl (Or.inl rfl) (pe_call (Fx.frame0 (ok_law_bits T)) (hr.mono (by decide)) rfl T.law_bits.g T.law_bits.f.kp T.law_bits.b .nil pass0 (pa_cons (pv 1) (pa_cons (pe_op op_add (pe_int) (pe_call (Fx.frame0 (ok_law_draw T)) (hr.mono (by decide)) rfl T.law_draw.g T.law_draw.f.kp T.law_draw.b .nil pass0 (pa_cons (pv 1) (pa_cons (pe_int) pa_nil)))) pa_nil))))
      (pss_cons (ps_set (i := 5) sc_law.nd rfl (Or.inl rfl) (pe_call (Fx.frame0 (ok_encode_record T)) (hr.mono (by decide)) rfl T.encode_record.g T.encode_record.f.kp T.encode_record.b .nil pass0 (pa_cons (pv 2) (pa_cons (pv 3) (pa_cons (pv 4) pa_nil)))))
      (pss_cons (ps_set (i := 6) sc_law.nd rfl (Or.inl rfl) (pe_op Gx.o_rep (pe_lst (pa_cons (pe_int) pa_nil)) (pe_int)))
      (pss_cons (ps_set (i := 7) sc_law.nd rfl (Or.inl rfl) (pe_call (Fx.frame0 (ok_law_shape T)) (hr.mono (by decide)) rfl T.law_shape.g T.law_shape.f.kp T.law_shape.b .nil pass0 (pa_cons (pv 1) (pa_cons (pe_int) (pa_cons (pe_int) (pa_cons (pe_int) pa_nil))))))
      (pss_cons (ps_set (i := 8) sc_law.nd rfl (Or.inl rfl) (pe_op op_mod (pe_callTy Gx.c_int rfl T.n_int (by decide +kernel) (pa_cons (pe_call (Fx.frame0 (ok_law_draw T)) (hr.mono (by decide)) rfl T.law_draw.g T.law_draw.f.kp T.law_draw.b .nil pass0 (pa_cons (pv 1) (pa_cons (pe_int) pa_nil))) pa_nil)) (pe_int)))
      (pss_cons (ps_set (i := 9) sc_law.nd rfl (Or.inl rfl) (pe_call (Fx.frame0 (ok_encode_header T)) (hr.mono (by decide)) rfl T.encode_header.g T.encode_header.f.kp T.encode_header.b .nil pass0 (pa_cons (pv 8) (pa_cons (pe_call (Fx.frame0 (ok_law_frame T)) (hr.mono (by decide)) rfl T.law_frame.g T.law_frame.f.kp T.law_frame.b .nil pass0 (pa_cons (pv 7) pa_nil)) pa_nil))))
      (pss_cons (ps_set (i := 10) sc_law.nd rfl (Or.inl rfl) (pe_call (Fx.frame0 (ok_encode_header T)) (hr.mono (by decide)) rfl T.encode_header.g T.encode_header.f.kp T.encode_header.b .nil pass0 (pa_cons (pe_op op_mod (pe_callTy Gx.c_int rfl T.n_int (by decide +kernel) (pa_cons (pe_op op_add (pv 8) (pe_int)) pa_nil)) (pe_int)) (pa_cons (pe_call (Fx.frame0 (ok_law_frame T)) (hr.mono (by decide)) rfl T.law_frame.g T.law_frame.f.kp T.law_frame.b .nil pass0 (pa_cons (pv 7) pa_nil)) pa_nil))))
      (pss_cons (ps_for PassesOwn.never rfl (pi_range1 rfl T.n_range (pa_cons (pe_int) pa_nil)) (pg_name (i := 11) sc_law.nd rfl (Or.inl rfl))
      (pss_cons (ps_if (pt_cmpR op_ne (pe_cmpR op_isN (pe_call (Fx.frame0 (ok_decode_record T)) (hr.mono (by decide)) rfl T.decode_record.g T.decode_record.f.kp T.decode_record.b .nil pass0 (pa_cons (pe_op op_cat (pe_slice (Gx.sl_listK (K := K) rfl) (pv 5) po_none (po_some (pv 11))) (pe_slice (Gx.sl_listK (K := K) rfl) (pv 6) (po_some (pv 11)) po_none)) pa_nil)) (pe_non) (nomark _)) (pe_cmpR op_lt (pv 11) (pe_int) (nomark _)) (nomark _)) (pss_one (ps_ret (pe_bl))) (pss_nil))
      (pss_cons (ps_if (pt_cmpR op_ne (pe_cmpR op_isN (pe_call (Fx.frame0 (ok_decode_record T)) (hr.mono (by decide)) rfl T.decode_record.g T.decode_record.f.kp T.decode_record.b .nil pass0 (pa_cons (pe_op op_cat (pe_slice (Gx.sl_listK (K := K) rfl) (pv 6) po_none (po_some (pv 11))) (pe_slice (Gx.sl_listK (K := K) rfl) (pv 5) (po_some (pv 11)) po_none)) pa_nil)) (pe_non) (nomark _)) (pe_cmpR op_gt (pv 11) (pe_int) (nomark _)) (nomark _)) (pss_one (ps_ret (pe_bl))) (pss_nil))
      (pss_cons (ps_set (i := 12) sc_law.nd rfl (Or.inl rfl) (pv 8))
      (C8.pss_cut (ps_if (pt_cmpR op_gt (pv 11) (pe_int) (nomark _)) (pss_one (ps_set (i := 12) sc_law.nd rfl (Or.inl rfl) (pe_op op_mod (pe_callTy Gx.c_int rfl T.n_int (by decide +kernel) (pa_cons (pe_op op_add (pv 8) (pe_int)) pa_nil)) (pe_int)))) (pss_nil))
      (pss_one (ps_if (pt_not (pt_val (pe_call (Fx.frame0 (ok_law_header T)) (hr.mono (by decide)) rfl T.law_header.g T.law_header.f.kp T.law_header.b .nil pass0 (pa_cons (pe_op op_cat (pe_slice (Gx.sl_listK (K := K) rfl) (pv 10) po_none (po_some (pv 11))) (pe_slice (Gx.sl_listK (K := K) rfl) (pv 9) (po_some (pv 11)) po_none)) (pa_cons (pv 12) (pa_cons (pv 7) pa_nil)))))) (pss_one (ps_ret (pe_bl))) (pss_nil))))))))
      (pss_one (ps_ret (pe_and (pe_cmpR op_isN (pe_call (Fx.frame0 (ok_decode_header T)) (hr.mono (by decide)) rfl T.decode_header.g T.decode_header.f.kp T.decode_header.b .nil pass0 (pa_cons (pv 6) pa_nil)) (pe_non) (nomark _)) (pe_and (pe_cmpR op_isN (pe_call (Fx.frame0 (ok_decode_record T)) (hr.mono (by decide)) rfl T.decode_record.g T.decode_record.f.kp T.decode_record.b .nil pass0 (pa_cons (pv 9) pa_nil)) (pe_non) (nomark _)) (pe_one (pe_cmpR op_isN (pe_call (Fx.frame0 (ok_decode_header T)) (hr.mono (by decide)) rfl T.decode_header.g T.decode_header.f.kp T.decode_header.b .nil pass0 (pa_cons (pv 5) pa_nil)) (pe_non) (nomark _))))))))))))))))), ?_⟩)
  · obtain ⟨a, ns, rfl, _⟩ := h
    rfl
  · skip
    obtain ⟨a, ns, rfl, hs, hlen, hbits, q⟩ := h
    walk_at "run"
    refine Nx.whole (cp_law_digits hs (by decide) (by decide) (by decide) fun xs p H1 hp s1 hd => ?_)
    walk_at "run"
    refine Gx.lstP (by show 2 ≤ sizeLine; decide) fun b hb => ?_
    have B : Nx.Bo H1 (upd H1 b (.lst [.ref p, .int 0])) b p xs := Nx.Bo.start hb hd
    generalize upd H1 b (.lst [.ref p, .int 0]) = H2 at B
    walk_at "run"
    refine drB B (by decide) fun n H3 hn B => ?_
    walk_at "run"
    refine drB B (by decide) fun s' H4 hs' B => ?_
    walk_at "run"
    refine drB B (by decide) fun m H5 hm B => ?_
    walk_at "run"
    refine bitsB B (by omega) (by omega) fun bs H6 hbs B => ?_
    walk_at "run"
    obtain ⟨S, O, up⟩ := B.step
    refine Nx.inF O (cp_encode_record (by omega) fun blk R7 nb s7 hb H7 O7 => ?_)
    have B := up _ _ O7 s7
    walk_at "run"
    refine Nx.lstB (by show 1 ≤ sizeLine; decide) B fun z0 R8 H8 n8 B s8 h8 => ?_
    walk_at "run"
    refine Nx.repNB (n := 32) (by walk_at "fact") (by decide) B fun zr R9 H9 n9 B s9 h9 => ?_
    walk_at "run"
    refine cp_law_shape B (by decide) (by decide) (by decide) fun w h d c t l RA HA hw1 hw2 hh1 hh2 hd1 hd2 hc ht1 ht2 nl B sA hl => ?_
    have hwhc : w * h * c ≤ 20 * 20 * 3 := Nat.mul_le_mul (Nat.mul_le_mul (by omega) (by omega)) (by omega)
    have ok : Sx.frameBad w h d c t = none := Sx.frameBad_none.mpr ⟨by omega, by omega, by omega, by omega, by omega, by rw [← Int.natCast_mul, ← Int.natCast_mul]; omega⟩
    walk_at "run"
    refine drB B (by decide) fun g HB hg B => ?_
    walk_at "run"
    rw [show (g : Int) % 256 = ((g % 256 : Nat) : Int) by omega]
    generalize g % 256 = g
    obtain ⟨S, O, up⟩ := B.step
    refine Nx.inF O (cp_law_frame (w := w) (h := h) (d := d) (c := c) (t := t) (by walk_at "fact") (by omega) (by omega) (by omega) (by omega) (by omega) (by omega) fun x RC nx sC fr HC OC => ?_)
    have B := up _ _ OC sC
    walk_at "run"
    obtain ⟨S, O, up⟩ := B.step
    refine Nx.inF O (cp_encode_header fr fun old RD nd sD hold HD OD => ?_)
    have B := up _ _ OD sD
    walk_at "run"
    rw [show ((g : Int) + 1) % 256 = (((g + 1) % 256 : Nat) : Int) by omega]
    generalize hg' : (g + 1) % 256 = g'
    obtain ⟨S, O, up⟩ := B.step
    refine Nx.inF O (cp_law_frame (w := w) (h := h) (d := d) (c := c) (t := t) (by walk_at "fact") (by omega) (by omega) (by omega) (by omega) (by omega) (by omega) fun x2 RE nx2 sE fr2 HE OE => ?_)
    have B := up _ _ OE sE
    walk_at "run"
    obtain ⟨S, O, up⟩ := B.step
    refine Nx.inF O (cp_encode_header fr2 fun new RF nf sF hnew HF OF => ?_)
    have B := up _ _ OF sF
    walk_at "run"
    have hb2 : HF blk = some (.lst (Rd.W (Rd.recN n s' bs))) := by walk_at "fact"
    have hz2 : HF zr = some (.lst (Rd.W (List.replicate 32 0))) := by walk_at "fact"
    have hl2 : HF l = some (.lst [.int (w : Int), .int (h : Int), .int (d : Int), .int (c : Int), .int (t : Int)]) := by walk_at "fact"
    have ho2 : HF old = some (.lst (Rd.W (Hd.hdN g w h d c t))) := by walk_at "fact"
    have hn2 : HF new = some (.lst (Rd.W (Hd.hdN g' w h d c t))) := by walk_at "fact"
    have hrl := Rd.rec_len n s' bs
    have hdr := Rd.dec_rec (n := n) (s := s') (bs := bs) (by omega) (by omega)
    refine Gx.r1 (by decide) (by decide) ?_
    refine Gx.fw walk_range (fun i σ' H' => Same HF H' ∧ ∃ v1 v2 : Option V, σ' = [some (.ref a), some (.ref b), some (.int (n : Int)), some (.int (s' : Int)), some (.str (Bs.S bs)), some (.ref blk), some (.ref zr), some (.ref l), some (.int (g : Int)), some (.ref old), some (.ref new), v1, v2]) ⟨Same.refl _, none, none, rfl⟩ (fun _ _ _ _ _ => trivial) ?_ ?_
    · rintro i y σ' Ha Ha' hi ⟨sH, v1, v2, rfl⟩ ⟨rfl, hy⟩
      have hi32 : i < 33 := hi
      have hy2 : y = .int (i : Int) := hy.trans (congrArg V.int (by omega))
      subst hy2
      walk_at "run"
      refine Nx.slL0 (by walk_at "fact") fun p1 H1 n1 s1 h1 => ?_
      rw [show cutV (Rd.W (Rd.recN n s' bs)) none (some (i : Int)) = Rd.W ((Rd.recN n s' bs).take i) from Nx.cutV_nat _ _ i (by omega)] at h1
      walk_at "run"
      refine Nx.slL0 (by walk_at "fact") fun p2 H2 n2 s2 h2 => ?_
      rw [show cutV (Rd.W (List.replicate 32 0)) (some (i : Int)) none = Rd.W ((List.replicate 32 0).drop i) from Nx.cutV_from _ _ i (by rw [List.length_replicate]; omega)] at h2
      refine Nx.cat0 (by walk_at "fact") h2 (by simp [Rd.W_len, sizeLine_eq]; omega) fun p3 H3 n3 s3 h3 => ?_
      rw [← Rd.W_app] at h3
      walk_at "run"
      refine Nx.whole (cp_decode_record (SqL.of h3) (by simp; omega) fun v3 H4 s4 hv3 => ?_)
      walk_at "run"
      have e3 : decide (v3 = V.non) = decide ((i : Int) < 32) := by
        by_cases c : i < 32
        · rw [Hd.dec_mixA hrl c] at hv3
          have hv3 : v3 = .non := hv3
          rw [decide_eq_true hv3, decide_eq_true (by omega)]
        · have c : i = 32 := by omega
          subst c
          rw [List.take_of_length_le (by omega), List.drop_of_length_le (by rw [List.length_replicate]; omega), List.append_nil, hdr] at hv3
          obtain ⟨t', rfl, _⟩ := hv3
          rw [decide_eq_false (by simp), decide_eq_false (by omega)]
      rw [e3, decide_eq_true rfl]
      walk_at "run"
      refine Nx.slL0 (by walk_at "fact") fun p5 H5 n5 s5 h5 => ?_
      rw [show cutV (Rd.W (List.replicate 32 0)) none (some (i : Int)) = Rd.W ((List.replicate 32 0).take i) from Nx.cutV_nat _ _ i (by rw [List.length_replicate]; omega)] at h5
      walk_at "run"
      refine Nx.slL0 (by walk_at "fact") fun p6 H6 n6 s6 h6 => ?_
      rw [show cutV (Rd.W (Rd.recN n s' bs)) (some (i : Int)) none = Rd.W ((Rd.recN n s' bs).drop i) from Nx.cutV_from _ _ i (by omega)] at h6
      refine Nx.cat0 (by walk_at "fact") h6 (by simp [Rd.W_len, sizeLine_eq]; omega) fun p7 H7 n7 s7 h7 => ?_
      rw [← Rd.W_app] at h7
      walk_at "run"
      refine Nx.whole (cp_decode_record (SqL.of h7) (by simp; omega) fun v7 H8 s8 hv7 => ?_)
      walk_at "run"
      have e7 : decide (v7 = V.non) = decide ((i : Int) > 0) := by
        by_cases c : 0 < i
        · rw [Hd.dec_mixB c] at hv7
          have hv7 : v7 = .non := hv7
          rw [decide_eq_true hv7, decide_eq_true (by omega)]
        · have c : i = 0 := by omega
          subst c
          rw [List.take_zero, List.drop_zero, List.nil_append, hdr] at hv7
          obtain ⟨t', rfl, _⟩ := hv7
          rw [decide_eq_false (by simp), decide_eq_false (by omega)]
      rw [e7, decide_eq_true rfl]
      walk_at "run"
      refine Gx.cut (fun σ' H' => H' = H8 ∧ σ' = [some (.ref a), some (.ref b), some (.int (n : Int)), some (.int (s' : Int)), some (.str (Bs.S bs)), some (.ref blk), some (.ref zr), some (.ref l), some (.int (g : Int)), some (.ref old), some (.ref new), some (.int (i : Int)), some (.int ((if 1 < i then g' else g : Nat) : Int))]) ?_ ?_
      · walk_at "run"
        refine Gx.if_d (fun c => ?_) (fun c => ?_)
        · walk_at "run"
          rw [show ((g : Int) + 1) % 256 = (((g + 1) % 256 : Nat) : Int) by omega, hg']
          rw [if_pos (by omega)]
          exact ⟨rfl, rfl⟩
        · walk_at "run"
          rw [if_neg (by omega)]
          exact ⟨rfl, rfl⟩
      rintro σ' HZ ⟨rfl, rfl⟩
      walk_at "run"
      refine Nx.slL0 (by walk_at "fact") fun p9 H9 n9 s9 h9 => ?_
      rw [show cutV (Rd.W (Hd.hdN g' w h d c t)) none (some (i : Int)) = Rd.W ((Hd.hdN g' w h d c t).take i) from Nx.cutV_nat _ _ i (by rw [Hd.hd_len]; omega)] at h9
      walk_at "run"
      refine Nx.slL0 (by walk_at "fact") fun pa HA na sA hA => ?_
      rw [show cutV (Rd.W (Hd.hdN g w h d c t)) (some (i : Int)) none = Rd.W ((Hd.hdN g w h d c t).drop i) from Nx.cutV_from _ _ i (by rw [Hd.hd_len]; omega)] at hA
      refine Nx.cat0 (by walk_at "fact") hA (by simp [Rd.W_len, sizeLine_eq, Hd.hd_len]; omega) fun pb HB nb sB hB => ?_
      rw [← Rd.W_app, Hd.mix_hd] at hB
      walk_at "run"
      refine Nx.whole (cp_law_header (SqL.of hB) ok (by walk_at "fact") fun HC sC => ?_)
      walk_at "run"
      exact ⟨by walk_at "xsame", _, _, rfl⟩
    rintro σ' Ha ⟨sH, v1, v2, rfl⟩
    walk_at "run"
    refine Nx.whole (cp_decode_header (by walk_at "fact") rfl fun v1 H1 s1 hv1 => ?_)
    have e1 : v1 = .non := hv1
    subst e1
    walk_at "run"
    refine Nx.whole (cp_decode_record (xs := Hd.hdN g w h d c t) (by walk_at "fact") rfl fun v2 H2 s2 hv2 => ?_)
    have e2 : v2 = .non := hv2
    subst e2
    walk_at "run"
    refine Nx.whole (cp_decode_header (xs := Rd.recN n s' bs) (by walk_at "fact") hrl fun v3 H3 s3 hv3 => ?_)
    have e3 : v3 = .non := by
      rw [Hd.dec_bad (.inl (by show (75 : Nat) ≠ 72; decide))] at hv3
      exact hv3
    subst e3
    walk_at "run"
    rw [decide_eq_true rfl]
    exact q _


end
theorem all_mk {l : PySem.W.OpenLaw} {w : World} {K : PySem.W.Frag} {h : Heap} {mg : Str → Option Value} {fa : Addr} (X : K.In h) (G : h.Ns mainGlobals mg) (hfa : mg "law" = some (.ref fa))
    {C_Frame : Addr}
    {C_OutOfRange f_OutOfRange cda_OutOfRange cc_OutOfRange N_OutOfRange : Addr} {nm_OutOfRange q_OutOfRange fi_OutOfRange : Str} {bs_OutOfRange bm_OutOfRange sub_OutOfRange : List Value} {sn_OutOfRange : List Str} {ab_OutOfRange : Bool} {col_OutOfRange : Option Bool} {dd_OutOfRange od_OutOfRange an_OutOfRange cdd_OutOfRange cld_OutOfRange : Option Addr} {k0_OutOfRange k1_OutOfRange k2_OutOfRange k3_OutOfRange k5_OutOfRange : Option Value} {oc_OutOfRange kV_OutOfRange dc_OutOfRange pm_OutOfRange ct_OutOfRange ccl_OutOfRange cl_OutOfRange : Value} {sl_OutOfRange ccs_OutOfRange csl_OutOfRange : Array (Option Value)} {vs_OutOfRange : Array Value} {tf_OutOfRange : Tok}
    {f_is_marked : Addr} {od_is_marked an_is_marked : Option Addr} {sl_is_marked : Array (Option Value)} {oc_is_marked kV_is_marked dc_is_marked pm_is_marked cd_is_marked ct_is_marked : Value}
    {f_check_size : Addr} {od_check_size an_check_size : Option Addr} {sl_check_size : Array (Option Value)} {oc_check_size kV_check_size dc_check_size pm_check_size cd_check_size ct_check_size : Value}
    {f_check_range : Addr} {od_check_range an_check_range : Option Addr} {sl_check_range : Array (Option Value)} {oc_check_range kV_check_range dc_check_range pm_check_range cd_check_range ct_check_range : Value}
    {f_check_kind : Addr} {od_check_kind an_check_kind : Option Addr} {sl_check_kind : Array (Option Value)} {oc_check_kind kV_check_kind dc_check_kind pm_check_kind cd_check_kind ct_check_kind : Value}
    {f_Frame___init__ : Addr} {od_Frame___init__ an_Frame___init__ : Option Addr} {sl_Frame___init__ : Array (Option Value)} {oc_Frame___init__ kV_Frame___init__ dc_Frame___init__ pm_Frame___init__ cd_Frame___init__ ct_Frame___init__ : Value}
    {f_frame_of : Addr} {od_frame_of an_frame_of : Option Addr} {sl_frame_of : Array (Option Value)} {oc_frame_of kV_frame_of dc_frame_of pm_frame_of cd_frame_of ct_frame_of : Value}
    {f_decode_header : Addr} {od_decode_header an_decode_header : Option Addr} {sl_decode_header : Array (Option Value)} {oc_decode_header kV_decode_header dc_decode_header pm_decode_header cd_decode_header ct_decode_header : Value}
    {f_digits_of : Addr} {od_digits_of an_digits_of : Option Addr} {sl_digits_of : Array (Option Value)} {oc_digits_of kV_digits_of dc_digits_of pm_digits_of cd_digits_of ct_digits_of : Value}
    {f_unpack : Addr} {od_unpack an_unpack : Option Addr} {sl_unpack : Array (Option Value)} {oc_unpack kV_unpack dc_unpack pm_unpack cd_unpack ct_unpack : Value}
    {f_number_at : Addr} {od_number_at an_number_at : Option Addr} {sl_number_at : Array (Option Value)} {oc_number_at kV_number_at dc_number_at pm_number_at cd_number_at ct_number_at : Value}
    {f_decode_record : Addr} {od_decode_record an_decode_record : Option Addr} {sl_decode_record : Array (Option Value)} {oc_decode_record kV_decode_record dc_decode_record pm_decode_record cd_decode_record ct_decode_record : Value}
    {f_law_header : Addr} {od_law_header an_law_header : Option Addr} {sl_law_header : Array (Option Value)} {oc_law_header kV_law_header dc_law_header pm_law_header cd_law_header ct_law_header : Value}
    {f_encode_header : Addr} {od_encode_header an_encode_header : Option Addr} {sl_encode_header : Array (Option Value)} {oc_encode_header kV_encode_header dc_encode_header pm_encode_header cd_encode_header ct_encode_header : Value}
    {f_law_frame : Addr} {od_law_frame an_law_frame : Option Addr} {sl_law_frame : Array (Option Value)} {oc_law_frame kV_law_frame dc_law_frame pm_law_frame cd_law_frame ct_law_frame : Value}
    {f_law_draw : Addr} {od_law_draw an_law_draw : Option Addr} {sl_law_draw : Array (Option Value)} {oc_law_draw kV_law_draw dc_law_draw pm_law_draw cd_law_draw ct_law_draw : Value}
    {f_law_shape : Addr} {od_law_shape an_law_shape : Option Addr} {sl_law_shape : Array (Option Value)} {oc_law_shape kV_law_shape dc_law_shape pm_law_shape cd_law_shape ct_law_shape : Value}
    {f_number_of : Addr} {od_number_of an_number_of : Option Addr} {sl_number_of : Array (Option Value)} {oc_number_of kV_number_of dc_number_of pm_number_of cd_number_of ct_number_of : Value}
    {f_bytes_for : Addr} {od_bytes_for an_bytes_for : Option Addr} {sl_bytes_for : Array (Option Value)} {oc_bytes_for kV_bytes_for dc_bytes_for pm_bytes_for cd_bytes_for ct_bytes_for : Value}
    {f_pack : Addr} {od_pack an_pack : Option Addr} {sl_pack : Array (Option Value)} {oc_pack kV_pack dc_pack pm_pack cd_pack ct_pack : Value}
    {f_two_bytes : Addr} {od_two_bytes an_two_bytes : Option Addr} {sl_two_bytes : Array (Option Value)} {oc_two_bytes kV_two_bytes dc_two_bytes pm_two_bytes cd_two_bytes ct_two_bytes : Value}
    {f_encode_record : Addr} {od_encode_record an_encode_record : Option Addr} {sl_encode_record : Array (Option Value)} {oc_encode_record kV_encode_record dc_encode_record pm_encode_record cd_encode_record ct_encode_record : Value}
    {f_law_bits : Addr} {od_law_bits an_law_bits : Option Addr} {sl_law_bits : Array (Option Value)} {oc_law_bits kV_law_bits dc_law_bits pm_law_bits cd_law_bits ct_law_bits : Value}
    {f_law_cell : Addr} {od_law_cell an_law_cell : Option Addr} {sl_law_cell : Array (Option Value)} {oc_law_cell kV_law_cell dc_law_cell pm_law_cell cd_law_cell ct_law_cell : Value}
    {f_law_digits : Addr} {od_law_digits an_law_digits : Option Addr} {sl_law_digits : Array (Option Value)} {oc_law_digits kV_law_digits dc_law_digits pm_law_digits cd_law_digits ct_law_digits : Value}
    {f_law : Addr} {od_law an_law : Option Addr} {sl_law : Array (Option Value)} {oc_law kV_law dc_law pm_law cd_law ct_law : Value}
    {t_COUNT_AT : Tok}
    {t_DEPTH_MOST : Tok}
    {t_DIGITS_AT : Tok}
    {t_HEADER_FILL : Tok}
    {t_HEADER_MARK : Tok}
    {t_NUMBERS_AT : Tok}
    {t_NUMBERS_END : Tok}
    {t_RECORD_FILL : Tok}
    {t_RECORD_MARK : Tok}
    {t_RECORD_MOST : Tok}
    {t_SIDE_MOST : Tok}
    {t_TILE_MOST : Tok}
    {t_VALUES_MOST : Tok}
    (g_Frame : PySem.W.nsIn K mainGlobals "Frame" = some (some (.ref C_Frame)))
    (pg_Frame : PySem.W.plainGet K C_Frame Str.empty = true)
    (hd_Frame : PySem.W.hasDictIn K C_Frame = true)
    (po_Frame : PySem.W.plainOver K C_Frame = true)
    (sa_Frame : PySem.W.findIn K (.ref C_Frame) "__setattr__" = some (some (.builtin "object.__setattr__")))
    (mk_Frame : PySem.W.makesIn K C_Frame = true)
    (kc_Frame : PySem.W.keepIn K (.ref C_Frame) = true)
    (na_Frame_width : PySem.W.findIn K (.ref C_Frame) "width" = some none)
    (na_Frame_height : PySem.W.findIn K (.ref C_Frame) "height" = some none)
    (na_Frame_depth : PySem.W.findIn K (.ref C_Frame) "depth" = some none)
    (na_Frame_channels : PySem.W.findIn K (.ref C_Frame) "channels" = some none)
    (na_Frame_tile : PySem.W.findIn K (.ref C_Frame) "tile" = some none)
    (topS : (l.prog.main.scope.names.lookup ("super" : Str)).isSome = false)
    (nsS : PySem.W.nsIn K mainGlobals "super" = some none)
    (opS : PySem.W.nsIn K cStatics "thirdparty.any" = some none)
    (spS : PySem.W.specialIn K (.builtin "object.__class__") "__get__" = some (some (.builtin "getset_descriptor.__get__")))
    (tkS : PySem.W.takesIn K (.builtin "object.__class__") = some true)
    (g_OutOfRange : PySem.W.nsIn K mainGlobals "OutOfRange" = some (some (.ref C_OutOfRange)))
    (lC_OutOfRange : K.lookup C_OutOfRange = some (excClassObj nm_OutOfRange q_OutOfRange C_OutOfRange N_OutOfRange bs_OutOfRange bm_OutOfRange true sn_OutOfRange sub_OutOfRange ab_OutOfRange col_OutOfRange dd_OutOfRange k0_OutOfRange k1_OutOfRange k2_OutOfRange k3_OutOfRange k5_OutOfRange "ValueError.__new__"))
    (rv_OutOfRange : PySem.HandSPX.refsVE bm_OutOfRange = true)
    (sa_OutOfRange : PySem.W.findIn K (.ref C_OutOfRange) "__setattr__" = some (some (.builtin "object.__setattr__")))
    (bb_OutOfRange : PySem.W.subIn K (.ref C_OutOfRange) (.type "BaseException") = some true)
    (ty_OutOfRange : PySem.W.typeIn K (.ref C_OutOfRange) = some (.type "type"))
    (kC_OutOfRange : PySem.W.keepIn K (.ref C_OutOfRange) = true)
    (iC_OutOfRange : PySem.W.findIn K (.ref C_OutOfRange) "__init__" = some (some (.ref f_OutOfRange)))
    (tI_OutOfRange : PySem.W.typeIn K (.ref f_OutOfRange) = some (.type "function"))
    (lf_OutOfRange : K.lookup f_OutOfRange = some ⟨oc_OutOfRange, od_OutOfRange, .func (PySem.W.ksFn "__init__" "OutOfRange.__init__" (defArgs s_OutOfRange___init__) (defBody s_OutOfRange___init__) (defScope s_OutOfRange___init__) .none kV_OutOfRange dc_OutOfRange pm_OutOfRange an_OutOfRange (.ref cda_OutOfRange) ct_OutOfRange cc_OutOfRange), sl_OutOfRange⟩)
    (cf_OutOfRange : PySem.W.codeIn K (.ref cda_OutOfRange) "OutOfRange.__init__" = true)
    (lcd_OutOfRange : K.lookup cda_OutOfRange = some ⟨ccl_OutOfRange, cdd_OutOfRange, .fields vs_OutOfRange, ccs_OutOfRange⟩)
    (vs2_OutOfRange : vs_OutOfRange[2]? = some (.str fi_OutOfRange tf_OutOfRange))
    (fil_OutOfRange : ((l.prog.main.file : Str) == fi_OutOfRange) = true)
    (lcc_OutOfRange : K.lookup cc_OutOfRange = some ⟨cl_OutOfRange, cld_OutOfRange, .cell (some (.ref C_OutOfRange)), csl_OutOfRange⟩)
    (su_OutOfRange : PySem.W.mroIn K C_OutOfRange (.ref C_OutOfRange) = some true)
    (sup_OutOfRange : PySem.W.ks_superIn K C_OutOfRange C_OutOfRange "__init__" = some (some (.builtin "ValueError.__init__")))
    (isV_OutOfRange : PySem.W.subIn K (.ref C_OutOfRange) (.type "ValueError") = some true)
    (ga_OutOfRange : PySem.W.findIn K (.ref C_OutOfRange) "__getattribute__" = some (some (.builtin "BaseException.__getattribute__")))
    (gg_OutOfRange : PySem.W.findIn K (.ref C_OutOfRange) "__getattr__" = some none)
    (ca_OutOfRange : PySem.W.findIn K (.ref C_OutOfRange) "__class__" = some (some (.builtin "object.__class__")))
    (ob_OutOfRange : PySem.W.mroIn K C_OutOfRange (.type "object") = some true)
    (hd_OutOfRange : PySem.W.hasDictIn K C_OutOfRange = true)
    (ss_OutOfRange : PySem.W.subIn K (.ref C_OutOfRange) (.ref C_OutOfRange) = some true)
    (nf_OutOfRange_name : PySem.W.findIn K (.ref C_OutOfRange) "name" = some none)
    (a_is_marked : PySem.W.nsIn K mainGlobals "is_marked" = some (some (.ref f_is_marked)))
    (l_is_marked : K.lookup f_is_marked = some ⟨oc_is_marked, od_is_marked, .func (PySem.W.fnOf "is_marked" "is_marked" (defArgs s_is_marked) (defBody s_is_marked) (defScope s_is_marked) .none kV_is_marked dc_is_marked pm_is_marked an_is_marked cd_is_marked ct_is_marked), sl_is_marked⟩)
    (c_is_marked : PySem.W.codeIn K cd_is_marked "is_marked" = true)
    (k_is_marked : PySem.W.keepIn K (.ref f_is_marked) = true)
    (a_check_size : PySem.W.nsIn K mainGlobals "check_size" = some (some (.ref f_check_size)))
    (l_check_size : K.lookup f_check_size = some ⟨oc_check_size, od_check_size, .func (PySem.W.fnOf "check_size" "check_size" (defArgs s_check_size) (defBody s_check_size) (defScope s_check_size) .none kV_check_size dc_check_size pm_check_size an_check_size cd_check_size ct_check_size), sl_check_size⟩)
    (c_check_size : PySem.W.codeIn K cd_check_size "check_size" = true)
    (k_check_size : PySem.W.keepIn K (.ref f_check_size) = true)
    (a_check_range : PySem.W.nsIn K mainGlobals "check_range" = some (some (.ref f_check_range)))
    (l_check_range : K.lookup f_check_range = some ⟨oc_check_range, od_check_range, .func (PySem.W.fnOf "check_range" "check_range" (defArgs s_check_range) (defBody s_check_range) (defScope s_check_range) .none kV_check_range dc_check_range pm_check_range an_check_range cd_check_range ct_check_range), sl_check_range⟩)
    (c_check_range : PySem.W.codeIn K cd_check_range "check_range" = true)
    (k_check_range : PySem.W.keepIn K (.ref f_check_range) = true)
    (a_check_kind : PySem.W.nsIn K mainGlobals "check_kind" = some (some (.ref f_check_kind)))
    (l_check_kind : K.lookup f_check_kind = some ⟨oc_check_kind, od_check_kind, .func (PySem.W.fnOf "check_kind" "check_kind" (defArgs s_check_kind) (defBody s_check_kind) (defScope s_check_kind) .none kV_check_kind dc_check_kind pm_check_kind an_check_kind cd_check_kind ct_check_kind), sl_check_kind⟩)
    (c_check_kind : PySem.W.codeIn K cd_check_kind "check_kind" = true)
    (k_check_kind : PySem.W.keepIn K (.ref f_check_kind) = true)
    (a_Frame___init__ : PySem.W.findIn K (.ref C_Frame) "__init__" = some (some (.ref f_Frame___init__)))
    (i_Frame___init__ : PySem.W.isFn K (.ref f_Frame___init__) = true)
    (l_Frame___init__ : K.lookup f_Frame___init__ = some ⟨oc_Frame___init__, od_Frame___init__, .func (PySem.W.fnOf "__init__" "Frame.__init__" (defArgs s_Frame___init__) (defBody s_Frame___init__) (defScope s_Frame___init__) .none kV_Frame___init__ dc_Frame___init__ pm_Frame___init__ an_Frame___init__ cd_Frame___init__ ct_Frame___init__), sl_Frame___init__⟩)
    (c_Frame___init__ : PySem.W.codeIn K cd_Frame___init__ "Frame.__init__" = true)
    (k_Frame___init__ : PySem.W.keepIn K (.ref f_Frame___init__) = true)
    (a_frame_of : PySem.W.nsIn K mainGlobals "frame_of" = some (some (.ref f_frame_of)))
    (l_frame_of : K.lookup f_frame_of = some ⟨oc_frame_of, od_frame_of, .func (PySem.W.fnOf "frame_of" "frame_of" (defArgs s_frame_of) (defBody s_frame_of) (defScope s_frame_of) .none kV_frame_of dc_frame_of pm_frame_of an_frame_of cd_frame_of ct_frame_of), sl_frame_of⟩)
    (c_frame_of : PySem.W.codeIn K cd_frame_of "frame_of" = true)
    (k_frame_of : PySem.W.keepIn K (.ref f_frame_of) = true)
    (a_decode_header : PySem.W.nsIn K mainGlobals "decode_header" = some (some (.ref f_decode_header)))
    (l_decode_header : K.lookup f_decode_header = some ⟨oc_decode_header, od_decode_header, .func (PySem.W.fnOf "decode_header" "decode_header" (defArgs s_decode_header) (defBody s_decode_header) (defScope s_decode_header) .none kV_decode_header dc_decode_header pm_decode_header an_decode_header cd_decode_header ct_decode_header), sl_decode_header⟩)
    (c_decode_header : PySem.W.codeIn K cd_decode_header "decode_header" = true)
    (k_decode_header : PySem.W.keepIn K (.ref f_decode_header) = true)
    (a_digits_of : PySem.W.nsIn K mainGlobals "digits_of" = some (some (.ref f_digits_of)))
    (l_digits_of : K.lookup f_digits_of = some ⟨oc_digits_of, od_digits_of, .func (PySem.W.fnOf "digits_of" "digits_of" (defArgs s_digits_of) (defBody s_digits_of) (defScope s_digits_of) .none kV_digits_of dc_digits_of pm_digits_of an_digits_of cd_digits_of ct_digits_of), sl_digits_of⟩)
    (c_digits_of : PySem.W.codeIn K cd_digits_of "digits_of" = true)
    (k_digits_of : PySem.W.keepIn K (.ref f_digits_of) = true)
    (a_unpack : PySem.W.nsIn K mainGlobals "unpack" = some (some (.ref f_unpack)))
    (l_unpack : K.lookup f_unpack = some ⟨oc_unpack, od_unpack, .func (PySem.W.fnOf "unpack" "unpack" (defArgs s_unpack) (defBody s_unpack) (defScope s_unpack) .none kV_unpack dc_unpack pm_unpack an_unpack cd_unpack ct_unpack), sl_unpack⟩)
    (c_unpack : PySem.W.codeIn K cd_unpack "unpack" = true)
    (k_unpack : PySem.W.keepIn K (.ref f_unpack) = true)
    (a_number_at : PySem.W.nsIn K mainGlobals "number_at" = some (some (.ref f_number_at)))
    (l_number_at : K.lookup f_number_at = some ⟨oc_number_at, od_number_at, .func (PySem.W.fnOf "number_at" "number_at" (defArgs s_number_at) (defBody s_number_at) (defScope s_number_at) .none kV_number_at dc_number_at pm_number_at an_number_at cd_number_at ct_number_at), sl_number_at⟩)
    (c_number_at : PySem.W.codeIn K cd_number_at "number_at" = true)
    (k_number_at : PySem.W.keepIn K (.ref f_number_at) = true)
    (a_decode_record : PySem.W.nsIn K mainGlobals "decode_record" = some (some (.ref f_decode_record)))
    (l_decode_record : K.lookup f_decode_record = some ⟨oc_decode_record, od_decode_record, .func (PySem.W.fnOf "decode_record" "decode_record" (defArgs s_decode_record) (defBody s_decode_record) (defScope s_decode_record) .none kV_decode_record dc_decode_record pm_decode_record an_decode_record cd_decode_record ct_decode_record), sl_decode_record⟩)
    (c_decode_record : PySem.W.codeIn K cd_decode_record "decode_record" = true)
    (k_decode_record : PySem.W.keepIn K (.ref f_decode_record) = true)
    (a_law_header : PySem.W.nsIn K mainGlobals "_law_header" = some (some (.ref f_law_header)))
    (l_law_header : K.lookup f_law_header = some ⟨oc_law_header, od_law_header, .func (PySem.W.fnOf "_law_header" "_law_header" (defArgs s_law_header) (defBody s_law_header) (defScope s_law_header) .none kV_law_header dc_law_header pm_law_header an_law_header cd_law_header ct_law_header), sl_law_header⟩)
    (c_law_header : PySem.W.codeIn K cd_law_header "_law_header" = true)
    (k_law_header : PySem.W.keepIn K (.ref f_law_header) = true)
    (a_encode_header : PySem.W.nsIn K mainGlobals "encode_header" = some (some (.ref f_encode_header)))
    (l_encode_header : K.lookup f_encode_header = some ⟨oc_encode_header, od_encode_header, .func (PySem.W.fnOf "encode_header" "encode_header" (defArgs s_encode_header) (defBody s_encode_header) (defScope s_encode_header) .none kV_encode_header dc_encode_header pm_encode_header an_encode_header cd_encode_header ct_encode_header), sl_encode_header⟩)
    (c_encode_header : PySem.W.codeIn K cd_encode_header "encode_header" = true)
    (k_encode_header : PySem.W.keepIn K (.ref f_encode_header) = true)
    (a_law_frame : PySem.W.nsIn K mainGlobals "_law_frame" = some (some (.ref f_law_frame)))
    (l_law_frame : K.lookup f_law_frame = some ⟨oc_law_frame, od_law_frame, .func (PySem.W.fnOf "_law_frame" "_law_frame" (defArgs s_law_frame) (defBody s_law_frame) (defScope s_law_frame) .none kV_law_frame dc_law_frame pm_law_frame an_law_frame cd_law_frame ct_law_frame), sl_law_frame⟩)
    (c_law_frame : PySem.W.codeIn K cd_law_frame "_law_frame" = true)
    (k_law_frame : PySem.W.keepIn K (.ref f_law_frame) = true)
    (a_law_draw : PySem.W.nsIn K mainGlobals "_law_draw" = some (some (.ref f_law_draw)))
    (l_law_draw : K.lookup f_law_draw = some ⟨oc_law_draw, od_law_draw, .func (PySem.W.fnOf "_law_draw" "_law_draw" (defArgs s_law_draw) (defBody s_law_draw) (defScope s_law_draw) .none kV_law_draw dc_law_draw pm_law_draw an_law_draw cd_law_draw ct_law_draw), sl_law_draw⟩)
    (c_law_draw : PySem.W.codeIn K cd_law_draw "_law_draw" = true)
    (k_law_draw : PySem.W.keepIn K (.ref f_law_draw) = true)
    (a_law_shape : PySem.W.nsIn K mainGlobals "_law_shape" = some (some (.ref f_law_shape)))
    (l_law_shape : K.lookup f_law_shape = some ⟨oc_law_shape, od_law_shape, .func (PySem.W.fnOf "_law_shape" "_law_shape" (defArgs s_law_shape) (defBody s_law_shape) (defScope s_law_shape) .none kV_law_shape dc_law_shape pm_law_shape an_law_shape cd_law_shape ct_law_shape), sl_law_shape⟩)
    (c_law_shape : PySem.W.codeIn K cd_law_shape "_law_shape" = true)
    (k_law_shape : PySem.W.keepIn K (.ref f_law_shape) = true)
    (a_number_of : PySem.W.nsIn K mainGlobals "number_of" = some (some (.ref f_number_of)))
    (l_number_of : K.lookup f_number_of = some ⟨oc_number_of, od_number_of, .func (PySem.W.fnOf "number_of" "number_of" (defArgs s_number_of) (defBody s_number_of) (defScope s_number_of) .none kV_number_of dc_number_of pm_number_of an_number_of cd_number_of ct_number_of), sl_number_of⟩)
    (c_number_of : PySem.W.codeIn K cd_number_of "number_of" = true)
    (k_number_of : PySem.W.keepIn K (.ref f_number_of) = true)
    (a_bytes_for : PySem.W.nsIn K mainGlobals "bytes_for" = some (some (.ref f_bytes_for)))
    (l_bytes_for : K.lookup f_bytes_for = some ⟨oc_bytes_for, od_bytes_for, .func (PySem.W.fnOf "bytes_for" "bytes_for" (defArgs s_bytes_for) (defBody s_bytes_for) (defScope s_bytes_for) .none kV_bytes_for dc_bytes_for pm_bytes_for an_bytes_for cd_bytes_for ct_bytes_for), sl_bytes_for⟩)
    (c_bytes_for : PySem.W.codeIn K cd_bytes_for "bytes_for" = true)
    (k_bytes_for : PySem.W.keepIn K (.ref f_bytes_for) = true)
    (a_pack : PySem.W.nsIn K mainGlobals "pack" = some (some (.ref f_pack)))
    (l_pack : K.lookup f_pack = some ⟨oc_pack, od_pack, .func (PySem.W.fnOf "pack" "pack" (defArgs s_pack) (defBody s_pack) (defScope s_pack) .none kV_pack dc_pack pm_pack an_pack cd_pack ct_pack), sl_pack⟩)
    (c_pack : PySem.W.codeIn K cd_pack "pack" = true)
    (k_pack : PySem.W.keepIn K (.ref f_pack) = true)
    (a_two_bytes : PySem.W.nsIn K mainGlobals "two_bytes" = some (some (.ref f_two_bytes)))
    (l_two_bytes : K.lookup f_two_bytes = some ⟨oc_two_bytes, od_two_bytes, .func (PySem.W.fnOf "two_bytes" "two_bytes" (defArgs s_two_bytes) (defBody s_two_bytes) (defScope s_two_bytes) .none kV_two_bytes dc_two_bytes pm_two_bytes an_two_bytes cd_two_bytes ct_two_bytes), sl_two_bytes⟩)
    (c_two_bytes : PySem.W.codeIn K cd_two_bytes "two_bytes" = true)
    (k_two_bytes : PySem.W.keepIn K (.ref f_two_bytes) = true)
    (a_encode_record : PySem.W.nsIn K mainGlobals "encode_record" = some (some (.ref f_encode_record)))
    (l_encode_record : K.lookup f_encode_record = some ⟨oc_encode_record, od_encode_record, .func (PySem.W.fnOf "encode_record" "encode_record" (defArgs s_encode_record) (defBody s_encode_record) (defScope s_encode_record) .none kV_encode_record dc_encode_record pm_encode_record an_encode_record cd_encode_record ct_encode_record), sl_encode_record⟩)
    (c_encode_record : PySem.W.codeIn K cd_encode_record "encode_record" = true)
    (k_encode_record : PySem.W.keepIn K (.ref f_encode_record) = true)
    (a_law_bits : PySem.W.nsIn K mainGlobals "_law_bits" = some (some (.ref f_law_bits)))
    (l_law_bits : K.lookup f_law_bits = some ⟨oc_law_bits, od_law_bits, .func (PySem.W.fnOf "_law_bits" "_law_bits" (defArgs s_law_bits) (defBody s_law_bits) (defScope s_law_bits) .none kV_law_bits dc_law_bits pm_law_bits an_law_bits cd_law_bits ct_law_bits), sl_law_bits⟩)
    (c_law_bits : PySem.W.codeIn K cd_law_bits "_law_bits" = true)
    (k_law_bits : PySem.W.keepIn K (.ref f_law_bits) = true)
    (a_law_cell : PySem.W.nsIn K mainGlobals "_law_cell" = some (some (.ref f_law_cell)))
    (l_law_cell : K.lookup f_law_cell = some ⟨oc_law_cell, od_law_cell, .func (PySem.W.fnOf "_law_cell" "_law_cell" (defArgs s_law_cell) (defBody s_law_cell) (defScope s_law_cell) .none kV_law_cell dc_law_cell pm_law_cell an_law_cell cd_law_cell ct_law_cell), sl_law_cell⟩)
    (c_law_cell : PySem.W.codeIn K cd_law_cell "_law_cell" = true)
    (k_law_cell : PySem.W.keepIn K (.ref f_law_cell) = true)
    (a_law_digits : PySem.W.nsIn K mainGlobals "_law_digits" = some (some (.ref f_law_digits)))
    (l_law_digits : K.lookup f_law_digits = some ⟨oc_law_digits, od_law_digits, .func (PySem.W.fnOf "_law_digits" "_law_digits" (defArgs s_law_digits) (defBody s_law_digits) (defScope s_law_digits) .none kV_law_digits dc_law_digits pm_law_digits an_law_digits cd_law_digits ct_law_digits), sl_law_digits⟩)
    (c_law_digits : PySem.W.codeIn K cd_law_digits "_law_digits" = true)
    (k_law_digits : PySem.W.keepIn K (.ref f_law_digits) = true)
    (a_law : PySem.W.nsIn K mainGlobals "law" = some (some (.ref f_law)))
    (l_law : K.lookup f_law = some ⟨oc_law, od_law, .func (PySem.W.fnOf "law" "law" (defArgs s_law) (defBody s_law) (defScope s_law) .none kV_law dc_law pm_law an_law cd_law ct_law), sl_law⟩)
    (c_law : PySem.W.codeIn K cd_law "law" = true)
    (k_law : PySem.W.keepIn K (.ref f_law) = true)
    (n_int : PySem.W.nsIn K mainGlobals "int" = some none)
    (n_len : PySem.W.nsIn K mainGlobals "len" = some none)
    (n_range : PySem.W.nsIn K mainGlobals "range" = some none)
    (n_str : PySem.W.nsIn K mainGlobals "str" = some none)
    (c_COUNT_AT : PySem.W.nsIn K mainGlobals "COUNT_AT" = some (some (.int 5 t_COUNT_AT)))
    (c_DEPTH_MOST : PySem.W.nsIn K mainGlobals "DEPTH_MOST" = some (some (.int 8 t_DEPTH_MOST)))
    (c_DIGITS_AT : PySem.W.nsIn K mainGlobals "DIGITS_AT" = some (some (.int 6 t_DIGITS_AT)))
    (c_HEADER_FILL : PySem.W.nsIn K mainGlobals "HEADER_FILL" = some (some (.int 24 t_HEADER_FILL)))
    (c_HEADER_MARK : PySem.W.nsIn K mainGlobals "HEADER_MARK" = some (some (.int 72 t_HEADER_MARK)))
    (c_NUMBERS_AT : PySem.W.nsIn K mainGlobals "NUMBERS_AT" = some (some (.int 2 t_NUMBERS_AT)))
    (c_NUMBERS_END : PySem.W.nsIn K mainGlobals "NUMBERS_END" = some (some (.int 7 t_NUMBERS_END)))
    (c_RECORD_FILL : PySem.W.nsIn K mainGlobals "RECORD_FILL" = some (some (.int 5 t_RECORD_FILL)))
    (c_RECORD_MARK : PySem.W.nsIn K mainGlobals "RECORD_MARK" = some (some (.int 75 t_RECORD_MARK)))
    (c_RECORD_MOST : PySem.W.nsIn K mainGlobals "RECORD_MOST" = some (some (.int 160 t_RECORD_MOST)))
    (c_SIDE_MOST : PySem.W.nsIn K mainGlobals "SIDE_MOST" = some (some (.int 64 t_SIDE_MOST)))
    (c_TILE_MOST : PySem.W.nsIn K mainGlobals "TILE_MOST" = some (some (.int 16 t_TILE_MOST)))
    (c_VALUES_MOST : PySem.W.nsIn K mainGlobals "VALUES_MOST" = some (some (.int 3072 t_VALUES_MOST))) :
    ∃ fd : FuncData, (∀ (s : Shared) (v : Value), BindsTo s fd ⟨[v], []⟩ [("script", v)]) ∧ ∀ base : Heap, K.In base → base.Ns mainGlobals mg → FnOk l.prog w K mg base CX0 10 fa fd ["script"] (spLaw K) := by
  have e := hfa.symm.trans (PySem.W.mg_of X G a_law)
  cases e
  have F_is_marked := fun_mk (st := s_is_marked) l_is_marked c_is_marked k_is_marked
  have F_check_size := fun_mk (st := s_check_size) l_check_size c_check_size k_check_size
  have F_check_range := fun_mk (st := s_check_range) l_check_range c_check_range k_check_range
  have F_check_kind := fun_mk (st := s_check_kind) l_check_kind c_check_kind k_check_kind
  have F_Frame___init__ := fun_mk (st := s_Frame___init__) l_Frame___init__ c_Frame___init__ k_Frame___init__
  have F_frame_of := fun_mk (st := s_frame_of) l_frame_of c_frame_of k_frame_of
  have F_decode_header := fun_mk (st := s_decode_header) l_decode_header c_decode_header k_decode_header
  have F_digits_of := fun_mk (st := s_digits_of) l_digits_of c_digits_of k_digits_of
  have F_unpack := fun_mk (st := s_unpack) l_unpack c_unpack k_unpack
  have F_number_at := fun_mk (st := s_number_at) l_number_at c_number_at k_number_at
  have F_decode_record := fun_mk (st := s_decode_record) l_decode_record c_decode_record k_decode_record
  have F_law_header := fun_mk (st := s_law_header) l_law_header c_law_header k_law_header
  have F_encode_header := fun_mk (st := s_encode_header) l_encode_header c_encode_header k_encode_header
  have F_law_frame := fun_mk (st := s_law_frame) l_law_frame c_law_frame k_law_frame
  have F_law_draw := fun_mk (st := s_law_draw) l_law_draw c_law_draw k_law_draw
  have F_law_shape := fun_mk (st := s_law_shape) l_law_shape c_law_shape k_law_shape
  have F_number_of := fun_mk (st := s_number_of) l_number_of c_number_of k_number_of
  have F_bytes_for := fun_mk (st := s_bytes_for) l_bytes_for c_bytes_for k_bytes_for
  have F_pack := fun_mk (st := s_pack) l_pack c_pack k_pack
  have F_two_bytes := fun_mk (st := s_two_bytes) l_two_bytes c_two_bytes k_two_bytes
  have F_encode_record := fun_mk (st := s_encode_record) l_encode_record c_encode_record k_encode_record
  have F_law_bits := fun_mk (st := s_law_bits) l_law_bits c_law_bits k_law_bits
  have F_law_cell := fun_mk (st := s_law_cell) l_law_cell c_law_cell k_law_cell
  have F_law_digits := fun_mk (st := s_law_digits) l_law_digits c_law_digits k_law_digits
  have F_law := fun_mk (st := s_law) l_law c_law k_law
  exact ⟨PySem.W.fnOf "law" "law" (defArgs s_law) (defBody s_law) (defScope s_law) .none kV_law dc_law pm_law an_law cd_law ct_law, fun s v => .of_eq rfl, fun base _ _ => ok_law (mg := mg) {
    a_Frame := C_Frame,
    cl_Frame := ⟨pg_Frame, hd_Frame, po_Frame, sa_Frame⟩,
    g_Frame := PySem.W.mg_of X G g_Frame,
    mk_Frame := mk_Frame,
    kp_Frame := kc_Frame,
    na_Frame_width := na_Frame_width,
    na_Frame_height := na_Frame_height,
    na_Frame_depth := na_Frame_depth,
    na_Frame_channels := na_Frame_channels,
    na_Frame_tile := na_Frame_tile,
    x_OutOfRange := ⟨C_OutOfRange, f_OutOfRange, _, PySem.W.mg_of X G g_OutOfRange, ⟨⟨nm_OutOfRange, q_OutOfRange, N_OutOfRange, bs_OutOfRange, bm_OutOfRange, sn_OutOfRange, sub_OutOfRange, ab_OutOfRange, col_OutOfRange, dd_OutOfRange, k0_OutOfRange, k1_OutOfRange, k2_OutOfRange, k3_OutOfRange, k5_OutOfRange, lC_OutOfRange, rv_OutOfRange⟩, sa_OutOfRange, bb_OutOfRange, ty_OutOfRange, kC_OutOfRange⟩,
      ⟨⟨_, _, _, _, _, _, _, _, _, _, rfl, lf_OutOfRange, cf_OutOfRange, ⟨_, _, _, _, _, _, lcd_OutOfRange, vs2_OutOfRange, fil_OutOfRange⟩, _, _, _, lcc_OutOfRange⟩, topS, PySem.W.mg_none_of X G nsS, su_OutOfRange, opS, sup_OutOfRange, isV_OutOfRange⟩, iC_OutOfRange, tI_OutOfRange, Binds.all fun us hl => (match us, hl with | [_, _], _ => rfl),
      ⟨ga_OutOfRange, gg_OutOfRange, bb_OutOfRange, hd_OutOfRange⟩, ⟨by unfold PySem.W.clsIn; rw [lC_OutOfRange] <;> rfl, ga_OutOfRange, gg_OutOfRange, bb_OutOfRange, ca_OutOfRange, spS, tkS, ob_OutOfRange⟩, PySem.W.exm_ref bb_OutOfRange hd_OutOfRange ty_OutOfRange ss_OutOfRange⟩,
    nf_OutOfRange_name := nf_OutOfRange_name,
    is_marked := ⟨_, _, F_is_marked, PySem.W.mg_of X G a_is_marked, F_is_marked.binds fun _ _ _ _ _ _ us hl => match us, hl with | [_, _], _ => rfl⟩,
    check_size := ⟨_, _, F_check_size, PySem.W.mg_of X G a_check_size, F_check_size.binds fun _ _ _ _ _ _ us hl => match us, hl with | [_, _, _], _ => rfl⟩,
    check_range := ⟨_, _, F_check_range, PySem.W.mg_of X G a_check_range, F_check_range.binds fun _ _ _ _ _ _ us hl => match us, hl with | [_, _, _, _], _ => rfl⟩,
    check_kind := ⟨_, _, F_check_kind, PySem.W.mg_of X G a_check_kind, F_check_kind.binds fun _ _ _ _ _ _ us hl => match us, hl with | [_, _, _, _], _ => rfl⟩,
    Frame___init__ := ⟨_, _, F_Frame___init__, F_Frame___init__.binds fun _ _ _ _ _ _ us hl => match us, hl with | [_, _, _, _, _, _], _ => rfl, ⟨a_Frame___init__, i_Frame___init__, k_Frame___init__⟩⟩,
    frame_of := ⟨_, _, F_frame_of, PySem.W.mg_of X G a_frame_of, F_frame_of.binds fun _ _ _ _ _ _ us hl => match us, hl with | [_], _ => rfl⟩,
    decode_header := ⟨_, _, F_decode_header, PySem.W.mg_of X G a_decode_header, F_decode_header.binds fun _ _ _ _ _ _ us hl => match us, hl with | [_], _ => rfl⟩,
    digits_of := ⟨_, _, F_digits_of, PySem.W.mg_of X G a_digits_of, F_digits_of.binds fun _ _ _ _ _ _ us hl => match us, hl with | [_, _], _ => rfl⟩,
    unpack := ⟨_, _, F_unpack, PySem.W.mg_of X G a_unpack, F_unpack.binds fun _ _ _ _ _ _ us hl => match us, hl with | [_, _], _ => rfl⟩,
    number_at := ⟨_, _, F_number_at, PySem.W.mg_of X G a_number_at, F_number_at.binds fun _ _ _ _ _ _ us hl => match us, hl with | [_, _], _ => rfl⟩,
    decode_record := ⟨_, _, F_decode_record, PySem.W.mg_of X G a_decode_record, F_decode_record.binds fun _ _ _ _ _ _ us hl => match us, hl with | [_], _ => rfl⟩,
    law_header := ⟨_, _, F_law_header, PySem.W.mg_of X G a_law_header, F_law_header.binds fun _ _ _ _ _ _ us hl => match us, hl with | [_, _, _], _ => rfl⟩,
    encode_header := ⟨_, _, F_encode_header, PySem.W.mg_of X G a_encode_header, F_encode_header.binds fun _ _ _ _ _ _ us hl => match us, hl with | [_, _], _ => rfl⟩,
    law_frame := ⟨_, _, F_law_frame, PySem.W.mg_of X G a_law_frame, F_law_frame.binds fun _ _ _ _ _ _ us hl => match us, hl with | [_], _ => rfl⟩,
    law_draw := ⟨_, _, F_law_draw, PySem.W.mg_of X G a_law_draw, F_law_draw.binds fun _ _ _ _ _ _ us hl => match us, hl with | [_, _], _ => rfl⟩,
    law_shape := ⟨_, _, F_law_shape, PySem.W.mg_of X G a_law_shape, F_law_shape.binds fun _ _ _ _ _ _ us hl => match us, hl with | [_, _, _, _], _ => rfl⟩,
    number_of := ⟨_, _, F_number_of, PySem.W.mg_of X G a_number_of, F_number_of.binds fun _ _ _ _ _ _ us hl => match us, hl with | [_], _ => rfl⟩,
    bytes_for := ⟨_, _, F_bytes_for, PySem.W.mg_of X G a_bytes_for, F_bytes_for.binds fun _ _ _ _ _ _ us hl => match us, hl with | [_], _ => rfl⟩,
    pack := ⟨_, _, F_pack, PySem.W.mg_of X G a_pack, F_pack.binds fun _ _ _ _ _ _ us hl => match us, hl with | [_], _ => rfl⟩,
    two_bytes := ⟨_, _, F_two_bytes, PySem.W.mg_of X G a_two_bytes, F_two_bytes.binds fun _ _ _ _ _ _ us hl => match us, hl with | [_], _ => rfl⟩,
    encode_record := ⟨_, _, F_encode_record, PySem.W.mg_of X G a_encode_record, F_encode_record.binds fun _ _ _ _ _ _ us hl => match us, hl with | [_, _, _], _ => rfl⟩,
    law_bits := ⟨_, _, F_law_bits, PySem.W.mg_of X G a_law_bits, F_law_bits.binds fun _ _ _ _ _ _ us hl => match us, hl with | [_, _], _ => rfl⟩,
    law_cell := ⟨_, _, F_law_cell, PySem.W.mg_of X G a_law_cell, F_law_cell.binds fun _ _ _ _ _ _ us hl => match us, hl with | [_, _], _ => rfl⟩,
    law_digits := ⟨_, _, F_law_digits, PySem.W.mg_of X G a_law_digits, F_law_digits.binds fun _ _ _ _ _ _ us hl => match us, hl with | [_, _, _], _ => rfl⟩,
    law := ⟨_, _, F_law, PySem.W.mg_of X G a_law, F_law.binds fun _ _ _ _ _ _ us hl => match us, hl with | [_], _ => rfl⟩,
    n_int := PySem.W.mg_none_of X G n_int,
    n_len := PySem.W.mg_none_of X G n_len,
    n_range := PySem.W.mg_none_of X G n_range,
    n_str := PySem.W.mg_none_of X G n_str,
    t_COUNT_AT := t_COUNT_AT,
    c_COUNT_AT := PySem.W.mg_of X G c_COUNT_AT,
    t_DEPTH_MOST := t_DEPTH_MOST,
    c_DEPTH_MOST := PySem.W.mg_of X G c_DEPTH_MOST,
    t_DIGITS_AT := t_DIGITS_AT,
    c_DIGITS_AT := PySem.W.mg_of X G c_DIGITS_AT,
    t_HEADER_FILL := t_HEADER_FILL,
    c_HEADER_FILL := PySem.W.mg_of X G c_HEADER_FILL,
    t_HEADER_MARK := t_HEADER_MARK,
    c_HEADER_MARK := PySem.W.mg_of X G c_HEADER_MARK,
    t_NUMBERS_AT := t_NUMBERS_AT,
    c_NUMBERS_AT := PySem.W.mg_of X G c_NUMBERS_AT,
    t_NUMBERS_END := t_NUMBERS_END,
    c_NUMBERS_END := PySem.W.mg_of X G c_NUMBERS_END,
    t_RECORD_FILL := t_RECORD_FILL,
    c_RECORD_FILL := PySem.W.mg_of X G c_RECORD_FILL,
    t_RECORD_MARK := t_RECORD_MARK,
    c_RECORD_MARK := PySem.W.mg_of X G c_RECORD_MARK,
    t_RECORD_MOST := t_RECORD_MOST,
    c_RECORD_MOST := PySem.W.mg_of X G c_RECORD_MOST,
    t_SIDE_MOST := t_SIDE_MOST,
    c_SIDE_MOST := PySem.W.mg_of X G c_SIDE_MOST,
    t_TILE_MOST := t_TILE_MOST,
    c_TILE_MOST := PySem.W.mg_of X G c_TILE_MOST,
    t_VALUES_MOST := t_VALUES_MOST,
    c_VALUES_MOST := PySem.W.mg_of X G c_VALUES_MOST }⟩
theorem walk {l : PySem.W.OpenLaw} {q : Program} {loose : List Str} {XP : (Str → Option Value) → Heap → Prop} {YP : World → Heap → Prop} {d : DefRec} {K : Params → PySem.W.Frag} (hn : l.most = some 63) (hdf : d.params.defaults = [])
    (hY : ∀ (w : World) (h : Heap), YP w h → (K w.params).In h)
    (F : ∀ (w : World) (mg : Str → Option Value) (fa : Addr) (h : Heap), (K w.params).In h → h.Ns mainGlobals mg → mg d.name = some (.ref fa) →
      ∃ fd : FuncData, (∀ (s : Shared) (u : Value), BindsTo s fd ⟨[u], []⟩ [("script", u)]) ∧ ∀ base : Heap, (K w.params).In base → base.Ns mainGlobals mg → FnOk l.prog w (K w.params) mg base CX0 10 fa fd ["script"] (spLaw (K w.params))) :
    PySem.W.WalkO q loose XP YP l.row.toRowW d [] (fun f vs => PySem.call f vs) :=
  L2.walk_ofB (n := 63) (k := 10) (x := "script") (CX := fun _ => CX0) (sp := fun w => spLaw (K w.params)) hn (by decide) hdf ⟨rfl, by decide, by decide⟩ hY F (fun _ _ a ns hl hb _ hS => ⟨a, ns, rfl, hS, hl, hb, fun _ => rfl⟩) fun _ _ _ _ _ z => z
end My
open PySem PySem.W PyProof.Rows
set_option maxRecDepth 100000 in
set_option maxHeartbeats 0 in
theorem PySem.Challenge.cw_packetpicture_k77_torn_blocks_are_told_holds : PySem.Challenge.rw_packetpicture_k77_torn_blocks_are_told.Holds := by
  w_on; o_law; k_head; (case hw => w_witness2)
  k_fill
  refine My.walk (l := PySem.Challenge.rw_packetpicture_k77_torn_blocks_are_told) rfl rfl (fun w h Y => PySem.W.kIn_of Y) ?F
  case F =>
    intro w mg fa h KX G hmg
    refine' My.all_mk KX G hmg ?g_Frame ?pg_Frame ?hd_Frame ?po_Frame ?sa_Frame ?mk_Frame ?kc_Frame ?na_Frame_width ?na_Frame_height ?na_Frame_depth ?na_Frame_channels ?na_Frame_tile ?topS ?nsS ?opS ?spS ?tkS ?g_OutOfRange ?lC_OutOfRange ?rv_OutOfRange ?sa_OutOfRange ?bb_OutOfRange ?ty_OutOfRange ?kC_OutOfRange ?iC_OutOfRange ?tI_OutOfRange ?lf_OutOfRange ?cf_OutOfRange ?lcd_OutOfRange ?vs2_OutOfRange ?fil_OutOfRange ?lcc_OutOfRange ?su_OutOfRange ?sup_OutOfRange ?isV_OutOfRange ?ga_OutOfRange ?gg_OutOfRange ?ca_OutOfRange ?ob_OutOfRange ?hd_OutOfRange ?ss_OutOfRange ?nf_OutOfRange_name ?a_is_marked ?l_is_marked ?c_is_marked ?k_is_marked ?a_check_size ?l_check_size ?c_check_size ?k_check_size ?a_check_range ?l_check_range ?c_check_range ?k_check_range ?a_check_kind ?l_check_kind ?c_check_kind ?k_check_kind ?a_Frame___init__ ?i_Frame___init__ ?l_Frame___init__ ?c_Frame___init__ ?k_Frame___init__ ?a_frame_of ?l_frame_of ?c_frame_of ?k_frame_of ?a_decode_header ?l_decode_header ?c_decode_header ?k_decode_header ?a_digits_of ?l_digits_of ?c_digits_of ?k_digits_of ?a_unpack ?l_unpack ?c_unpack ?k_unpack ?a_number_at ?l_number_at ?c_number_at ?k_number_at ?a_decode_record ?l_decode_record ?c_decode_record ?k_decode_record ?a_law_header ?l_law_header ?c_law_header ?k_law_header ?a_encode_header ?l_encode_header ?c_encode_header ?k_encode_header ?a_law_frame ?l_law_frame ?c_law_frame ?k_law_frame ?a_law_draw ?l_law_draw ?c_law_draw ?k_law_draw ?a_law_shape ?l_law_shape ?c_law_shape ?k_law_shape ?a_number_of ?l_number_of ?c_number_of ?k_number_of ?a_bytes_for ?l_bytes_for ?c_bytes_for ?k_bytes_for ?a_pack ?l_pack ?c_pack ?k_pack ?a_two_bytes ?l_two_bytes ?c_two_bytes ?k_two_bytes ?a_encode_record ?l_encode_record ?c_encode_record ?k_encode_record ?a_law_bits ?l_law_bits ?c_law_bits ?k_law_bits ?a_law_cell ?l_law_cell ?c_law_cell ?k_law_cell ?a_law_digits ?l_law_digits ?c_law_digits ?k_law_digits ?a_law ?l_law ?c_law ?k_law ?n_int ?n_len ?n_range ?n_str ?c_COUNT_AT ?c_DEPTH_MOST ?c_DIGITS_AT ?c_HEADER_FILL ?c_HEADER_MARK ?c_NUMBERS_AT ?c_NUMBERS_END ?c_RECORD_FILL ?c_RECORD_MARK ?c_RECORD_MOST ?c_SIDE_MOST ?c_TILE_MOST ?c_VALUES_MOST
    (case g_Frame => k_is)
    (case pg_Frame => k_is)
    (case hd_Frame => k_is)
    (case po_Frame => k_is)
    (case sa_Frame => k_is)
    (case mk_Frame => k_is)
    (case kc_Frame => k_is)
    (case na_Frame_width => k_is)
    (case na_Frame_height => k_is)
    (case na_Frame_depth => k_is)
    (case na_Frame_channels => k_is)
    (case na_Frame_tile => k_is)
    (case topS => first | rfl | decide +kernel)
    (case nsS => k_is)
    (case opS => k_is)
    (case spS => k_is)
    (case tkS => k_is)
    (case g_OutOfRange => k_is)
    (case lC_OutOfRange => k_is)
    (case rv_OutOfRange => first | rfl | decide +kernel)
    (case sa_OutOfRange => k_is)
    (case bb_OutOfRange => k_is)
    (case ty_OutOfRange => k_is)
    (case kC_OutOfRange => k_is)
    (case iC_OutOfRange => k_is)
    (case tI_OutOfRange => k_is)
    (case lf_OutOfRange => k_is)
    (case cf_OutOfRange => k_is)
    (case lcd_OutOfRange => k_is)
    (case vs2_OutOfRange => first | rfl | decide +kernel)
    (case fil_OutOfRange => first | rfl | decide +kernel)
    (case lcc_OutOfRange => k_is)
    (case su_OutOfRange => k_is)
    (case sup_OutOfRange => ks_is)
    (case isV_OutOfRange => k_is)
    (case ga_OutOfRange => k_is)
    (case gg_OutOfRange => k_is)
    (case ca_OutOfRange => k_is)
    (case ob_OutOfRange => k_is)
    (case hd_OutOfRange => k_is)
    (case ss_OutOfRange => first | rfl | k_is)
    (case nf_OutOfRange_name => k_is)
    (case a_is_marked => k_is)
    (case l_is_marked => k_is)
    (case c_is_marked => k_is)
    (case k_is_marked => k_is)
    (case a_check_size => k_is)
    (case l_check_size => k_is)
    (case c_check_size => k_is)
    (case k_check_size => k_is)
    (case a_check_range => k_is)
    (case l_check_range => k_is)
    (case c_check_range => k_is)
    (case k_check_range => k_is)
    (case a_check_kind => k_is)
    (case l_check_kind => k_is)
    (case c_check_kind => k_is)
    (case k_check_kind => k_is)
    (case a_Frame___init__ => k_is)
    (case i_Frame___init__ => k_is)
    (case l_Frame___init__ => k_is)
    (case c_Frame___init__ => k_is)
    (case k_Frame___init__ => k_is)
    (case a_frame_of => k_is)
    (case l_frame_of => k_is)
    (case c_frame_of => k_is)
    (case k_frame_of => k_is)
    (case a_decode_header => k_is)
    (case l_decode_header => k_is)
    (case c_decode_header => k_is)
    (case k_decode_header => k_is)
    (case a_digits_of => k_is)
    (case l_digits_of => k_is)
    (case c_digits_of => k_is)
    (case k_digits_of => k_is)
    (case a_unpack => k_is)
    (case l_unpack => k_is)
    (case c_unpack => k_is)
    (case k_unpack => k_is)
    (case a_number_at => k_is)
    (case l_number_at => k_is)
    (case c_number_at => k_is)
    (case k_number_at => k_is)
    (case a_decode_record => k_is)
    (case l_decode_record => k_is)
    (case c_decode_record => k_is)
    (case k_decode_record => k_is)
    (case a_law_header => k_is)
    (case l_law_header => k_is)
    (case c_law_header => k_is)
    (case k_law_header => k_is)
    (case a_encode_header => k_is)
    (case l_encode_header => k_is)
    (case c_encode_header => k_is)
    (case k_encode_header => k_is)
    (case a_law_frame => k_is)
    (case l_law_frame => k_is)
    (case c_law_frame => k_is)
    (case k_law_frame => k_is)
    (case a_law_draw => k_is)
    (case l_law_draw => k_is)
    (case c_law_draw => k_is)
    (case k_law_draw => k_is)
    (case a_law_shape => k_is)
    (case l_law_shape => k_is)
    (case c_law_shape => k_is)
    (case k_law_shape => k_is)
    (case a_number_of => k_is)
    (case l_number_of => k_is)
    (case c_number_of => k_is)
    (case k_number_of => k_is)
    (case a_bytes_for => k_is)
    (case l_bytes_for => k_is)
    (case c_bytes_for => k_is)
    (case k_bytes_for => k_is)
    (case a_pack => k_is)
    (case l_pack => k_is)
    (case c_pack => k_is)
    (case k_pack => k_is)
    (case a_two_bytes => k_is)
    (case l_two_bytes => k_is)
    (case c_two_bytes => k_is)
    (case k_two_bytes => k_is)
    (case a_encode_record => k_is)
    (case l_encode_record => k_is)
    (case c_encode_record => k_is)
    (case k_encode_record => k_is)
    (case a_law_bits => k_is)
    (case l_law_bits => k_is)
    (case c_law_bits => k_is)
    (case k_law_bits => k_is)
    (case a_law_cell => k_is)
    (case l_law_cell => k_is)
    (case c_law_cell => k_is)
    (case k_law_cell => k_is)
    (case a_law_digits => k_is)
    (case l_law_digits => k_is)
    (case c_law_digits => k_is)
    (case k_law_digits => k_is)
    (case a_law => k_is)
    (case l_law => k_is)
    (case c_law => k_is)
    (case k_law => k_is)
    (case n_int => k_is)
    (case n_len => k_is)
    (case n_range => k_is)
    (case n_str => k_is)
    (case c_COUNT_AT => k_is)
    (case c_DEPTH_MOST => k_is)
    (case c_DIGITS_AT => k_is)
    (case c_HEADER_FILL => k_is)
    (case c_HEADER_MARK => k_is)
    (case c_NUMBERS_AT => k_is)
    (case c_NUMBERS_END => k_is)
    (case c_RECORD_FILL => k_is)
    (case c_RECORD_MARK => k_is)
    (case c_RECORD_MOST => k_is)
    (case c_SIDE_MOST => k_is)
    (case c_TILE_MOST => k_is)
    (case c_VALUES_MOST => k_is)
