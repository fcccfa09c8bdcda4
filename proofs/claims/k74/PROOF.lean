import PyProof.Rows.All
import Wide.All
import OpenK.AllK
import Wide.FinOn
import HandS.ForMost
import HandS.EndBits
import HandS.IsInst
import HandS.Conv
import HandS.RevRange
import HandS.Walk
import HandS.Wide
import HandS.Codes
import HandS.ForExc
import HandS.ExcInit
import HandS.ExcSuper
import KE.KSuper
import KE.RegKSuper
import KE.KExcSuper
import KE.KExcIs
import HandS.ExcField
import HandS.ExcIs
import HandS.FStr
import KE.RegKIsAll
import HandS.ForExc
import HandS.NoneIn
import HandS.TryMany
import HandS.TryOnly
import PySem.Challenge.RW_packetpicture_k74_disk_reads_and_flushes
set_option Elab.async false
set_option linter.all false
set_option maxRecDepth 100000
set_option maxHeartbeats 4000000
set_option exponentiation.threshold 4000
/-! Steps of a reading, one lemma a construct; `walk_at "go"` tries them one after another. -/
namespace Gx
open PySem L2
section
variable {K : PySem.W.Frag} {σ : L2.St} {H : Hp} {Q : VK} {D : Ends} {ta tb te to ti tv : TE} {t u : TT} {tr : TA} {tu tw : TS} {x y z v : V} {i j : Int} {B : Bool → Hp → Prop} {A1 A2 : Prop} {b : Bool}
/-- a test's answer; a branch -/
def TB (x : V) (H : Hp) (Q : Bool → Hp → Prop) : Prop := ∃ k, x = .bl k ∧ Q k H
def IfP (c : Bool) (A B : Prop) : Prop := if c = true then A else B
theorem tB_ (q : TB (.bl b) H B ) : TB (.bl b) H B := q
theorem tb_go (q : B b H) : TB (.bl b) H B := ⟨b, rfl, q⟩
theorem if_t (q : A1) : IfP true A1 A2 := by unfold IfP; rw [if_pos rfl]; exact q
theorem if_f (q : A2) : IfP false A1 A2 := by unfold IfP; rw [if_neg Bool.false_ne_true]; exact q
theorem if_nt (q : A2) : IfP (!true) A1 A2 := if_f q
theorem if_nf (q : A1) : IfP (!false) A1 A2 := if_t q
theorem if_y {c : Bool} (h : c = true) (q : A1) : IfP c A1 A2 := by subst h; exact if_t q
theorem if_n {c : Bool} (h : c = false) (q : A2) : IfP c A1 A2 := by subst h; exact if_f q
theorem if_b {c : Bool} (q1 : c = true → A1) (q2 : c = false → A2) : IfP c A1 A2 := by
  cases c with
  | true => exact if_t (q1 rfl)
  | false => exact if_f (q2 rfl)
theorem if_d {p : Prop} [Decidable p] (q1 : p → A1) (q2 : ¬ p → A2) : IfP (decide p) A1 A2 := if_b (fun h => q1 (of_decide_eq_true h)) (fun h => q2 (of_decide_eq_false h))
theorem if_dn {p : Prop} [Decidable p] (q1 : ¬ p → A1) (q2 : p → A2) : IfP (!decide p) A1 A2 := by
  by_cases h : p
  · rw [decide_eq_true h]; exact if_f (q2 h)
  · rw [decide_eq_false h]; exact if_t (q1 h)
theorem if_andc {c d : Bool} {X : Prop} {B : Bool → Hp → Prop} {H : Hp} (h : B d H → X) (q : B (c && d) H) : IfP c X (B false H) := by
  cases c with
  | true => exact if_t (h q)
  | false => exact if_f q
theorem if_andf {c : Bool} (h : c = true → A2 → A1) (q : A2) : IfP c A1 A2 := by
  cases c with
  | true => exact if_t (h rfl q)
  | false => exact if_f q
theorem if_orc {c d : Bool} {X : Prop} {B : Bool → Hp → Prop} {H : Hp} (h : B d H → X) (q : B (c || d) H) : IfP c (B true H) X := by
  cases c with
  | true => exact if_t q
  | false => exact if_f (h q)
theorem if_dy {p : Prop} [Decidable p] (h : p) (q : A1) : IfP (decide p) A1 A2 := if_y (decide_eq_true h) q
theorem if_dno {p : Prop} [Decidable p] (h : ¬ p) (q : A2) : IfP (decide p) A1 A2 := if_n (decide_eq_false h) q
theorem if_two {c : Bool} {x y : Int} {σ : L2.St} {H : Hp} {Q' : VK} (q : ∀ n, (n = x ∨ n = y) → Q' (.int n) H) : IfP c (tC (.int x) σ H Q') (tC (.int y) σ H Q') := if_b (fun _ => q x (.inl rfl)) (fun _ => q y (.inr rfl))
/-- names, constants -/
theorem var {i : Nat} (h : σ[i]? = some (some v)) (q : Q v H) : tVar i σ H Q := ⟨v, h, q⟩
theorem cst (q : Q v H) : tC v σ H Q := q
/-- operators -/
theorem op {r : R2} (q : ta σ H fun x H1 => tb σ H1 fun y H2 => r x y H2 Q) : tOp r ta tb σ H Q := q
theorem un {r : V → Hp → VK → Prop} (q : ta σ H fun x H1 => r x H1 Q) : tUn r ta σ H Q := q
theorem i0 {g : Int → Int → V} (q : Q (g i j) H) : rI0 g (.int i) (.int j) H Q := ⟨i, j, rfl, rfl, q⟩
theorem ic {C : Int → Int → Prop} {g : Int → Int → V} (c : C i j) (q : Q (g i j) H) : rI C g (.int i) (.int j) H Q := ⟨i, j, rfl, rfl, c, q⟩
theorem uu {g : Int → V} (q : Q (g i) H) : rU g (.int i) H Q := ⟨i, rfl, q⟩
theorem eqv (q : Q (.bl (decide (x = y))) H) (h : scal x y = true := by rfl) : rEq x y H Q := ⟨h, q⟩
theorem nev (q : Q (.bl (!decide (x = y))) H) (h : scal x y = true := by rfl) : rNe x y H Q := ⟨h, q⟩
theorem eqI {p : Int} {q' : Int} : decide (V.int p = V.int q') = decide (p = q') := by simp
theorem eqS {p q' : Str} : decide (V.str p = V.str q') = decide (p = q') := by simp
theorem eqvI (q : Q (.bl (decide (i = j))) H) : rEq (.int i) (.int j) H Q := eqv (by rw [eqI]; exact q)
theorem nevI (q : Q (.bl (!decide (i = j))) H) : rNe (.int i) (.int j) H Q := nev (by rw [eqI]; exact q)
theorem eqvS {a b : Str} (q : Q (.bl (decide (a = b))) H) : rEq (.str a) (.str b) H Q := eqv (by rw [eqS]; exact q)
theorem nevS {a b : Str} (q : Q (.bl (!decide (a = b))) H) : rNe (.str a) (.str b) H Q := nev (by rw [eqS]; exact q)
/-- tests -/
theorem test (q : te σ H fun x H1 => TB x H1 B) : tTest te σ H B := q
theorem tB (q : te σ H fun x H1 => TB x H1 B) : L2.tB te σ H B := q
theorem and_ (q : t σ H fun c H1 => IfP c (u σ H1 B) (B false H1)) : tAnd t u σ H B := q
theorem or_ (q : t σ H fun c H1 => IfP c (B true H1) (u σ H1 B)) : tOr t u σ H B := q
theorem not_ (q : t σ H fun c H1 => B (!c) H1) : tNot t σ H B := q
theorem ifx (q : t σ H fun c H1 => IfP c (ta σ H1 Q) (tb σ H1 Q)) : tIf t ta tb σ H Q := q
/-- and, or, not as values -/
def BV (x : V) (H : Hp) (Q : Bool → Hp → Prop) : Prop := ∃ c, x = .bl c ∧ Q c H
theorem bv_go (q : B b H) : BV (.bl b) H B := ⟨b, rfl, q⟩
theorem andV (q : ta σ H fun x H1 => BV x H1 fun c H1 => IfP c (tb σ H1 Q) (Q (.bl false) H1)) : tAndV ta tb σ H Q := q
theorem orV (q : ta σ H fun x H1 => BV x H1 fun c H1 => IfP c (Q (.bl true) H1) (tb σ H1 Q)) : tOrV ta tb σ H Q := q
theorem notV (q : ta σ H fun x H1 => BV x H1 fun c H1 => Q (.bl (!c)) H1) : tNotV ta σ H Q := q
/-- or, and as values, both sides looked at without a change: one answer for what follows -/
def tOrW (ta tb : TE) : TE := tOrV ta tb
def tAndW (ta tb : TE) : TE := tAndV ta tb
theorem pe_orW {X : Cx} {e : Expr} (h : PE X e (tOrV ta tb)) : PE X e (tOrW ta tb) := h
theorem pe_andW {X : Cx} {e : Expr} (h : PE X e (tAndV ta tb)) : PE X e (tAndW ta tb) := h
def OrP (c : Bool) (tb : TE) (σ : L2.St) (H : Hp) (Q : VK) : Prop := if c = true then Q (.bl true) H else tb σ H Q
def AndP (c : Bool) (tb : TE) (σ : L2.St) (H : Hp) (Q : VK) : Prop := if c = true then tb σ H Q else Q (.bl false) H
theorem orW (q : ta σ H fun x H1 => BV x H1 fun c H1 => OrP c tb σ H1 Q) : tOrW ta tb σ H Q := q
theorem andW (q : ta σ H fun x H1 => BV x H1 fun c H1 => AndP c tb σ H1 Q) : tAndW ta tb σ H Q := q
theorem orp {c d : Bool} (h : ∀ R : VK, R (.bl d) H → tb σ H R) (q : Q (.bl (c || d)) H) : OrP c tb σ H Q := by
  cases c with
  | true => exact q
  | false => exact h _ q
theorem andp {c d : Bool} (h : ∀ R : VK, R (.bl d) H → tb σ H R) (q : Q (.bl (c && d)) H) : AndP c tb σ H Q := by
  cases c with
  | true => exact h _ q
  | false => exact q
/-- methods of texts -/
def M1P (te : TE) (r : V → List V → Hp → VK → Prop) (σ : L2.St) (x : V) (H : Hp) (Q : VK) : Prop := (∃ a, x = .str a) ∧ te σ H fun y H2 => r x [y] H2 Q
theorem m1 {r : V → List V → Hp → VK → Prop} (q : ta σ H fun x H1 => M1P te r σ x H1 Q) : tM1 r ta te σ H Q := q
theorem m1s {r : V → List V → Hp → VK → Prop} {z : Str} (q : te σ H fun y H2 => r (.str z) [y] H2 Q) : M1P te r σ (.str z) H Q := ⟨⟨z, rfl⟩, q⟩
/-- argument lists, displays -/
theorem nil {R : List V → Hp → Prop} (q : R [] H) : tNil σ H R := q
theorem cons {R : List V → Hp → Prop} (q : ta σ H fun x H1 => tr σ H1 fun xs H2 => R (x :: xs) H2) : tCons ta tr σ H R := q
/-- a new object -/
def NewP (H : Hp) (o : HO) (Q : VK) : Prop := ∀ p, H p = none → Q (.ref p) (upd H p o)
def LstP (xs : List V) (H : Hp) (Q : VK) : Prop := xs.length ≤ sizeLine ∧ NewP H (.lst xs) Q
def TupP (xs : List V) (H : Hp) (Q : VK) : Prop := xs.length ≤ sizeLine ∧ NewP H (.tup xs) Q
theorem lst (q : tr σ H fun xs H1 => LstP xs H1 Q) : tLst tr σ H Q := q
theorem tup (q : tr σ H fun xs H1 => TupP xs H1 Q) : tTup tr σ H Q := q
theorem lstP {xs : List V} (h : xs.length ≤ sizeLine) (q : ∀ p, H p = none → Q (.ref p) (upd H p (.lst xs))) : LstP xs H Q := ⟨h, q⟩
theorem tupP {xs : List V} (h : xs.length ≤ sizeLine) (q : ∀ p, H p = none → Q (.ref p) (upd H p (.tup xs))) : TupP xs H Q := ⟨h, q⟩
/-- calls -/
def CP (sp : Sp) (vs dvs : List V) (H : Hp) (Q : VK) (E : XK) : Prop := sp (vs ++ dvs) H Q E
theorem call {sp : Sp} {dvs : List V} {E : XK} (q : tr σ H fun vs H1 => CP sp vs dvs H1 Q E) : tCall sp dvs E tr σ H Q := q
theorem cb {r : List V → Hp → VK → Prop} (q : tr σ H fun vs H1 => r vs H1 Q) : tCB r tr σ H Q := q
/-- statements -/
theorem seq (q : tu { D with nx := tw D } σ H) : tSeq tu tw D σ H := q
theorem next (q : D.nx σ H) : tNext D σ H := q
theorem ret (q : te σ H D.rt) : tRet te D σ H := q
theorem retN (q : D.rt .non H) : tRetN D σ H := q
theorem drop (q : te σ H fun _ H1 => D.nx σ H1) : tDrop te D σ H := q
theorem asg {g : TG} (q : te σ H fun x H1 => g x σ H1 D.nx) : tAsg te g D σ H := q
theorem name {i : Nat} {R : L2.St → Hp → Prop} (q : R (σ.set i (some v)) H) : gName i v σ H R := q
theorem ifs {c : TT} (q : c σ H fun b H1 => IfP b (tu D σ H1) (tw D σ H1)) : tIfS c tu tw D σ H := q
theorem brk (q : D.bk σ H) : tBreak D σ H := q
theorem cnt (q : D.ct σ H) : tCont D σ H := q
def AugP (i : Nat) (x y : V) (ip : TIp) (D : Ends) (σ : L2.St) (H : Hp) : Prop := ip x y H fun z H2 => D.nx (σ.set i (some z)) H2
theorem aug {i : Nat} {tip : TIp} (h : σ[i]? = some (some x)) (q : te σ H fun y H1 => AugP i x y tip D σ H1) : tAug i te tip D σ H := ⟨x, h, q⟩
theorem augI {n : Nat} {f : Int → Int → Int} (q : D.nx (σ.set n (some (.int (f i j)))) H) : AugP n (.int i) (.int j) (ipI f) D σ H := ⟨i, j, rfl, rfl, q⟩
/-- loops: what walks (FW), for a range -/
def FW (J : It) (g : TG) (tb : TS) (D : Ends) (σ : L2.St) (H : Hp) : Prop := ∃ W : Nat → Nat → L2.St → Hp → Prop, (∃ m, W 0 m σ H) ∧ ∀ i m σ H, W i m σ H →
  (J.stop i H ∧ D.nx σ H) ∨ (J.go i H ∧ ∃ N : L2.St → Hp → Prop, (∀ σ' H', N σ' H' → ∃ m', m' < m ∧ W (i + 1) m' σ' H') ∧ ∀ x H', J.yld i H x H' → g x σ H' fun σ2 H2 => tb { D with nx := N, ct := N, bk := D.nx } σ2 H2)
theorem for_ {wi : TI} {g : TG} (q : wi σ H fun J H1 => FW J g tu D σ H1) : tFor wi g tu D σ H := q
def R1P (vs : List V) (H : Hp) (R : It → Hp → Prop) : Prop := ∃ j : Int, vs = [.int j] ∧ -(2 ^ 62) ≤ j ∧ j < 2 ^ 62 ∧ R (Itr 0 j.toNat) H
def R2P (vs : List V) (H : Hp) (R : It → Hp → Prop) : Prop := ∃ i j : Int, vs = [.int i, .int j] ∧ (-(2 ^ 62) ≤ i ∧ i < 2 ^ 62 ∧ -(2 ^ 62) ≤ j ∧ j < 2 ^ 62) ∧ R (Itr i (j - i).toNat) H
theorem rng1 {R : It → Hp → Prop} (q : tr σ H fun vs H1 => R1P vs H1 R) : iRng1 tr σ H R := q
theorem rng2 {R : It → Hp → Prop} (q : tr σ H fun vs H1 => R2P vs H1 R) : iRng2 tr σ H R := q
def R3P (vs : List V) (H : Hp) (R : It → Hp → Prop) : Prop := ∃ (i j c : Int) (n : Nat), vs = [.int i, .int j, .int c] ∧ RgC i j c n ∧ R (Itc i c n) H
theorem rng3 {R : It → Hp → Prop} (q : tr σ H fun vs H1 => R3P vs H1 R) : iRng3 tr σ H R := q
theorem r3 {R : It → Hp → Prop} {c : Int} {n : Nat} (h : RgC i j c n) (q : R (Itc i c n) H) : R3P [.int i, .int j, .int c] H R := ⟨i, j, c, n, rfl, h, q⟩
theorem r1 {R : It → Hp → Prop} (h1 : -(2 ^ 62) ≤ j) (h2 : j < 2 ^ 62) (q : R (Itr 0 j.toNat) H) : R1P [.int j] H R := ⟨j, rfl, h1, h2, q⟩
theorem r2 {R : It → Hp → Prop} (h1 : -(2 ^ 62) ≤ i ∧ i < 2 ^ 62 ∧ -(2 ^ 62) ≤ j ∧ j < 2 ^ 62) (q : R (Itr i (j - i).toNat) H) : R2P [.int i, .int j] H R := ⟨i, j, rfl, h1, q⟩
theorem fwR {lo : Int} {n : Nat} {g : TG} (Pv : Nat → L2.St → Hp → Prop) (h0 : Pv 0 σ H) (hs : ∀ i σ H, i < n → Pv i σ H → g (.int (lo + i)) σ H fun σ2 H2 => tu { D with nx := Pv (i + 1), ct := Pv (i + 1), bk := D.nx } σ2 H2) (hd : ∀ σ H, Pv n σ H → D.nx σ H) :
    FW (Itr lo n) g tu D σ H := for_range Pv h0 hs hd
def LP (K : PySem.W.Frag) (x : V) (H : Hp) (R : It → Hp → Prop) : Prop := ∃ a, x = .ref a ∧ (∃ xs, SqL K H a xs) ∧ R (Itl K a) H
theorem lwk {R : It → Hp → Prop} (q : te σ H fun x H1 => LP K x H1 R) : iList K te σ H R := q
theorem lp {a : Addr} {xs : List V} {R : It → Hp → Prop} (h : SqL K H a xs) (q : R (Itl K a) H) : LP K (.ref a) H R := ⟨a, rfl, ⟨xs, h⟩, q⟩
theorem fwL {a : Addr} {g : TG} (xs : List V) (Pv : Nat → L2.St → Hp → Prop) (h0 : Pv 0 σ H) (hl : ∀ i σ H, i ≤ xs.length → Pv i σ H → SqL K H a xs)
    (hs : ∀ i x σ H, xs[i]? = some x → Pv i σ H → g x σ H fun σ2 H2 => tu { D with nx := Pv (i + 1), ct := Pv (i + 1), bk := D.nx } σ2 H2) (hd : ∀ σ H, Pv xs.length σ H → D.nx σ H) : FW (Itl K a) g tu D σ H := for_list Pv h0 hl hs hd
/-- built-in functions, under names of their own -/
def rInt1 : List V → Hp → VK → Prop := fun xs H Q => (∃ i, xs = [.int i] ∧ Q (.int i) H) ∨ ∃ k, xs = [.bl k] ∧ Q (.int (if k then 1 else 0)) H
def rAbs : List V → Hp → VK → Prop := fun xs H Q => ∃ i, xs = [.int i] ∧ Q (.int (if i < 0 then -i else i)) H
def rStrI : List V → Hp → VK → Prop := fun xs H Q => ∃ i, xs = [.int i] ∧ i.natAbs.log2 < 1920 ∧ Q (.str (toString i)) H
def rLen (K : PySem.W.Frag) : List V → Hp → VK → Prop := fun xs H Q => ∃ x n, xs = [x] ∧ LenV K x H n ∧ Q (.int n) H
theorem int1 (q : Q (.int i) H) : rInt1 [.int i] H Q := .inl ⟨i, rfl, q⟩
theorem intB {k : Bool} (q : Q (.int (if k then 1 else 0)) H) : rInt1 [.bl k] H Q := .inr ⟨k, rfl, q⟩
theorem abs1 (q : Q (.int (if i < 0 then -i else i)) H) : rAbs [.int i] H Q := ⟨i, rfl, q⟩
theorem strI (h : i.natAbs.log2 < 1920) (q : Q (.str (toString i)) H) : rStrI [.int i] H Q := ⟨i, rfl, h, q⟩
theorem lenS {s : Str} (h : s.length ≤ sizeLine) (q : Q (.int (s.length : Nat)) H) : rLen K [.str s] H Q := ⟨_, _, rfl, ⟨h, rfl⟩, q⟩
theorem lenL {p : Addr} {xs : List V} (h : SqL K H p xs) (q : Q (.int (xs.length : Nat)) H) : rLen K [.ref p] H Q := ⟨_, _, rfl, .inl ⟨_, h, rfl⟩, q⟩
theorem lenT {p : Addr} {xs : List V} (h : SqT K H p xs) (q : Q (.int (xs.length : Nat)) H) : rLen K [.ref p] H Q := ⟨_, _, rfl, .inr ⟨_, h, rfl⟩, q⟩
/-- xs[i], s[i] -/
theorem ixL {p : Addr} {xs : List V} (h : SqL K H p xs) (ha : atI xs i = some v) (q : Q v H) : rIx K (.ref p) (.int i) H Q := .inl ⟨p, xs, i, v, rfl, rfl, h, ha, q⟩
theorem ixT {p : Addr} {xs : List V} (h : SqT K H p xs) (ha : atI xs i = some v) (q : Q v H) : rIx K (.ref p) (.int i) H Q := .inr (.inl ⟨p, xs, i, v, rfl, rfl, h, ha, q⟩)
theorem ixS {s : Str} {c : Nat} (h : s.length ≤ sizeLine) (ha : atI s.cps.toList i = some c) (q : Q (.str ⟨#[c]⟩) H) : rIx K (.str s) (.int i) H Q := .inr (.inr ⟨s, i, c, rfl, rfl, h, ha, q⟩)
/-- a, b = t -/
theorem gtup {n : Nat} {a : Addr} {xs : List V} {tg : TGs} {R : L2.St → Hp → Prop} (h : SqT K H a xs) (hl : xs.length = n) (q : tg xs σ H R) : gTup K n tg (.ref a) σ H R := ⟨a, xs, rfl, h, hl, q⟩
theorem gcons {g : TG} {tg : TGs} {xs : List V} {R : L2.St → Hp → Prop} (q : g v σ H fun σ' H' => tg xs σ' H' R) : gCons g tg (v :: xs) σ H R := ⟨v, xs, rfl, q⟩
theorem gnil {R : L2.St → Hp → Prop} (q : R σ H) : gNil [] σ H R := ⟨rfl, q⟩
/-- n.bit_length() -/
def BiP (x : V) (H : Hp) (Q : VK) : Prop := ∃ i, x = .int i ∧ Q (.int (Builtin.Int.intBits i : Nat)) H
/-- o.f, o.f = v, o.m(..), C(..) -/
def FP (K : PySem.W.Frag) (f : Str) (x : V) (H : Hp) (Q : VK) : Prop := ∃ a C dx fs v, x = .ref a ∧ H a = some (.ins C dx fs) ∧ Cls K C ∧ NoAttr K C f ∧ fs.lookup f = some v ∧ Q v H
theorem fld {f : Str} (q : ta σ H fun x H1 => FP K f x H1 Q) : tFld K ta f σ H Q := q
theorem fp {f : Str} {a C dx : Addr} {fs : List (Str × V)} (h : H a = some (.ins C dx fs)) (c : Cls K C) (n : NoAttr K C f) (l : fs.lookup f = some v) (q : Q v H) : FP K f (.ref a) H Q := ⟨a, C, dx, fs, v, rfl, h, c, n, l, q⟩
def SFP (K : PySem.W.Frag) (f : Str) (y x : V) (D : Ends) (σ : L2.St) (H : Hp) : Prop := ∃ a C dx fs, x = .ref a ∧ H a = some (.ins C dx fs) ∧ Cls K C ∧ NoAttr K C f ∧ fs.length < 1000 ∧ D.nx σ (upd H a (.ins C dx (putF f y fs)))
theorem sfld {f : Str} (q : tv σ H fun y H1 => ta σ H1 fun x H2 => SFP K f y x D σ H2) : sFld K ta tv f D σ H := q
theorem sfp {f : Str} {a C dx : Addr} {fs gs : List (Str × V)} (h : H a = some (.ins C dx fs)) (c : Cls K C) (n : NoAttr K C f) (l : fs.length < 1000) (e : putF f y fs = gs) (q : D.nx σ (upd H a (.ins C dx gs))) : SFP K f y (.ref a) D σ H := ⟨a, C, dx, fs, rfl, h, c, n, l, by rw [e]; exact q⟩
theorem few {f : Str} {v : V} : ∀ {fs : List (Str × V)} {k : Nat}, fs.length ≤ k → (putF f v fs).length ≤ k + 1
  | [], k, _ => Nat.succ_le_succ (Nat.zero_le k)
  | (g, u) :: r, k, h => by
    unfold putF
    split
    · exact Nat.le_succ_of_le h
    · cases k with
      | zero => cases h
      | succ k => exact Nat.succ_le_succ (few (Nat.le_of_succ_le_succ h))
def MP (C : Addr) (m : Str) (sp : Sp) (dvs : List V) (E : XK) (t : TA) (σ : L2.St) (x : V) (H : Hp) (Q : VK) : Prop := ∃ a dx fs, x = .ref a ∧ H a = some (.ins C dx fs) ∧ fs.lookup m = none ∧ t σ H fun vs H2 => sp (x :: (vs ++ dvs)) H2 Q E
theorem meth {C : Addr} {m : Str} {sp : Sp} {dvs : List V} {E : XK} (q : ta σ H fun x H1 => MP C m sp dvs E tr σ x H1 Q) : tMeth C m sp dvs E ta tr σ H Q := q
theorem mp {C a dx : Addr} {m : Str} {sp : Sp} {dvs : List V} {E : XK} {fs : List (Str × V)} (h : H a = some (.ins C dx fs)) (n : fs.lookup m = none) (q : tr σ H fun vs H2 => CP sp (.ref a :: vs) dvs H2 Q E) : MP C m sp dvs E tr σ (.ref a) H Q := ⟨a, dx, fs, rfl, h, n, q⟩
def MkP (C : Addr) (sp : Sp) (vs dvs : List V) (H : Hp) (Q : VK) (E : XK) : Prop := ∀ x dx, H x = none → H dx = none → dx ≠ x → CP sp (.ref x :: vs) dvs (upd (upd H dx (.own x)) x (.ins C dx [])) (fun v H2 => v = .non ∧ Q (.ref x) H2) E
theorem make {C : Addr} {sp : Sp} {dvs : List V} {E : XK} (q : tr σ H fun vs H1 => MkP C sp vs dvs H1 Q E) : tMake C sp dvs E tr σ H Q := q
/-- [v] * n -/
def rRepN : R2 := fun x y H Q => ∃ l k xs, x = .ref l ∧ y = .int k ∧ H l = some (.lst xs) ∧ -(2 ^ 63) ≤ k ∧ k < 2 ^ 63 ∧ xs.length * k.toNat ≤ sizeLine ∧ ∀ p, H p = none → Q (.ref p) (upd H p (.lst (List.replicate k.toNat xs).flatten))
theorem repN {l : Addr} {n : Nat} (h : H l = some (.lst [v])) (hn : n ≤ 100000) (q : ∀ p, H p = none → Q (.ref p) (upd H p (.lst (List.replicate n v)))) : rRepN (.ref l) (.int (n : Int)) H Q :=
  ⟨l, n, [v], rfl, rfl, h, by omega, by omega, by rw [Int.toNat_natCast, sizeLine_eq]; show 1 * n ≤ _; omega, fun p hp => by
    rw [Int.toNat_natCast, show (List.replicate n [v]).flatten = List.replicate n v by simp]; exact q p hp⟩
/-- xs[i] op= e -/
def rGetN (K : PySem.W.Frag) : V → V → Hp → VK → Prop := fun x y H Q => ∃ (p : Addr) (xs : List V) (i : Nat) (v : V), x = .ref p ∧ y = .int (i : Int) ∧ SqL K H p xs ∧ i < 1000000 ∧ xs[i]? = some v ∧ Q v H
def AgP (tip : TIp) (tset : TSet) (o i x y : V) (D : Ends) (σ : L2.St) (H : Hp) : Prop := tip x y H fun z H5 => tset o i z H5 fun H6 => D.nx σ H6
theorem augS {tget : V → V → Hp → VK → Prop} {tip : TIp} {tset : TSet} (q : to σ H fun o H1 => ti σ H1 fun i H2 => tget o i H2 fun x H3 => te σ H3 fun y H4 => AgP tip tset o i x y D σ H4) : tAugS to ti te tget tip tset D σ H := q
theorem getN {p : Addr} {xs : List V} {i : Nat} (h : SqL K H p xs) (hi : i < 1000000) (hx : xs[i]? = some v) (q : Q v H) : rGetN K (.ref p) (.int (i : Int)) H Q := ⟨p, xs, i, v, rfl, rfl, h, hi, hx, q⟩
theorem agL {l : Addr} {xs : List V} {k : Nat} {f : Int → Int → Int} (h : H l = some (.lst xs)) (hk : k < xs.length) (q : D.nx σ (upd H l (.lst (xs.set k (.int (f i j)))))) : AgP (ipI f) rSetL (.ref l) (.int (k : Int)) (.int i) (.int j) D σ H :=
  ⟨i, j, rfl, rfl, l, xs, k, k, rfl, rfl, h, by unfold ixN; rw [if_pos (by omega), if_pos (by omega)]; rfl, q⟩
/-- o[i] = v -/
def SbP (ti : TE) (t : TSet) (v : V) (σ : L2.St) (o : V) (H : Hp) (R : L2.St → Hp → Prop) : Prop := ti σ H fun i H2 => t o i v H2 fun H3 => R σ H3
theorem sub {ts : TSet} {R : L2.St → Hp → Prop} (q : to σ H fun o H1 => SbP ti ts v σ o H1 R) : gSub to ti ts v σ H R := q
theorem sbp {ts : TSet} {R : L2.St → Hp → Prop} (q : ti σ H fun i H2 => ts x i v H2 fun H3 => R σ H3) : SbP ti ts v σ x H R := q
theorem setL {l : Addr} {xs : List V} {k : Int} {j : Nat} {R : Hp → Prop} (h : H l = some (.lst xs)) (hk : ixN xs.length k = some j) (q : R (upd H l (.lst (xs.set j v)))) : rSetL (.ref l) (.int k) v H R := ⟨l, xs, k, j, rfl, rfl, h, hk, q⟩
/-- slices -/
def PtP (x : V) (H : Hp) (R : Option Int → Hp → Prop) : Prop := ∃ i, x = .int i ∧ R (some i) H
theorem slc {r : V → Option Int → Option Int → Hp → VK → Prop} {tl th : TO} (q : te σ H fun x H1 => tl σ H1 fun a H2 => th σ H2 fun b H3 => r x a b H3 Q) : tSl r te tl th σ H Q := q
theorem noP {R : Option Int → Hp → Prop} (q : R none H) : tNoPart σ H R := q
theorem part {R : Option Int → Hp → Prop} (q : te σ H fun x H1 => PtP x H1 R) : tPart te σ H R := q
theorem ptp {R : Option Int → Hp → Prop} (q : R (some i) H) : PtP (.int i) H R := ⟨i, rfl, q⟩
theorem slS {z : Str} {lo hi : Option Int} (h : z.length ≤ sizeLine) (q : Q (.str (cutS z lo hi)) H) : rSlS (.str z) lo hi H Q := ⟨z, rfl, h, q⟩
/-- texts put together -/
def rCatS : R2 := fun x y H Q => ∃ i j, x = .str i ∧ y = .str j ∧ i.length + j.length ≤ sizeLine ∧ Q (.str (i ++ j)) H
theorem addS {a b : Str} (h : a.length + b.length ≤ sizeLine) (q : Q (.str (a ++ b)) H) : rCatS (.str a) (.str b) H Q := ⟨a, b, rfl, rfl, h, q⟩
theorem at_map {ns : List Int} {k : Nat} (h : k < ns.length) : atI (ns.map V.int) (k : Int) = some (.int (ns.getD k 0)) := by
  refine atI_nat ?_
  rw [List.getElem?_map, List.getElem?_eq_getElem h]
  simp [List.getD_eq_getElem?_getD, List.getElem?_eq_getElem h]
/-- methods of built-in types -/
def BmP (K : PySem.W.Frag) (T : String) (r : V → List V → Hp → VK → Prop) (t : TA) (σ : L2.St) (x : V) (H : Hp) (Q : VK) : Prop := tyV K T x H ∧ t σ H fun xs H2 => r x xs H2 Q
theorem bm {T : String} {r : V → List V → Hp → VK → Prop} (q : to σ H fun x H1 => BmP K T r tr σ x H1 Q) : tBM K T r to tr σ H Q := q
theorem bmS {T : String} {r : V → List V → Hp → VK → Prop} (h : tyV K T x H) (q : tr σ H fun xs H2 => r x xs H2 Q) : BmP K T r tr σ x H Q := ⟨h, q⟩
theorem app {l : Addr} {xs : List V} (h : H l = some (.lst xs)) (hz : xs.length < sizeLine) (q : Q .non (upd H l (.lst (xs ++ [y])))) : rAppend (.ref l) [y] H Q := ⟨l, xs, y, rfl, rfl, h, hz, q⟩
theorem tyL {p : Addr} {xs : List V} (h : SqL K H p xs) : tyV K "list" (.ref p) H := .inl ⟨rfl, _, h⟩
/-- what follows is shown once, from the word between -/
theorem cut {tz : TS} (M : L2.St → Hp → Prop) (h : tu { D with nx := M } σ H) (k : ∀ σ' H', M σ' H' → tz D σ' H') : C8.tCut tu tz D σ H := ⟨M, h, k⟩
/-- while: a word that falls -/
def WhI (W : Nat → L2.St → Hp → Prop) (m : Nat) (tb : TS) (D : Ends) (σ : L2.St) (b : Bool) (H : Hp) : Prop :=
  if b = true then ∃ N : L2.St → Hp → Prop, (∀ σ' H', N σ' H' → ∃ m', m' < m ∧ W m' σ' H') ∧ tb { D with nx := N, ct := N, bk := D.nx } σ H else D.nx σ H
theorem whI_t {W : Nat → L2.St → Hp → Prop} {m : Nat} (q : tu { D with nx := fun σ' H' => ∃ m', m' < m ∧ W m' σ' H', ct := fun σ' H' => ∃ m', m' < m ∧ W m' σ' H', bk := D.nx } σ H) : WhI W m tu D σ true H := by
  unfold WhI; rw [if_pos rfl]; exact ⟨_, fun _ _ h => h, q⟩
theorem whI_f {W : Nat → L2.St → Hp → Prop} {m : Nat} (q : D.nx σ H) : WhI W m tu D σ false H := by
  unfold WhI; rw [if_neg Bool.false_ne_true]; exact q
theorem whI_d {W : Nat → L2.St → Hp → Prop} {m : Nat} {p : Prop} [Decidable p] (q1 : p → WhI W m tu D σ true H) (q2 : ¬ p → WhI W m tu D σ false H) : WhI W m tu D σ (decide p) H := by
  by_cases h : p
  · rw [decide_eq_true h]; exact q1 h
  · rw [decide_eq_false h]; exact q2 h
theorem whI_b {W : Nat → L2.St → Hp → Prop} {m : Nat} (q1 : b = true → WhI W m tu D σ true H) (q2 : b = false → WhI W m tu D σ false H) : WhI W m tu D σ b H := by
  cases b with
  | true => exact q1 rfl
  | false => exact q2 rfl
theorem whl (W : Nat → L2.St → Hp → Prop) (m0 : Nat) (h0 : W m0 σ H) (hs : ∀ m σ' H', W m σ' H' → t σ' H' fun b H1 => WhI W m tu D σ' b H1) : tWhile t tu D σ H := ⟨W, ⟨m0, h0⟩, hs⟩
/-- any walk -/
theorem fw {J : It} {n : Nat} {G : Hp → Prop} {Y : Nat → Hp → V → Hp → Prop} {g : TG} (w : Walk J n G Y) (Pv : Nat → L2.St → Hp → Prop) (h0 : Pv 0 σ H) (hG : ∀ i σ H, i ≤ n → Pv i σ H → G H)
    (hs : ∀ i x σ H H', i < n → Pv i σ H → Y i H x H' → g x σ H' fun σ2 H2 => tu { D with nx := Pv (i + 1), ct := Pv (i + 1), bk := D.nx } σ2 H2) (hd : ∀ σ H, Pv n σ H → D.nx σ H) : FW J g tu D σ H := for_it w Pv h0 hG hs hd
def StrP (x : V) (H : Hp) (R : It → Hp → Prop) : Prop := ∃ z, x = .str z ∧ R (Its z) H
theorem strw {R : It → Hp → Prop} (q : te σ H fun x H1 => StrP x H1 R) : iStr te σ H R := q
theorem strp {z : Str} {R : It → Hp → Prop} (q : R (Its z) H) : StrP (.str z) H R := ⟨z, rfl, q⟩
/-- comprehensions -/
def LcP (J : It) (g : TG) (tt : TT) (te : TE) (vs : List Nat) (σ : L2.St) (Q : VK) (H1 : Hp) : Prop := ∀ D, H1 D = none → ∃ W : Nat → Nat → Hp → Prop, (∃ m, W 0 m (upd H1 D (.lst []))) ∧ ∀ i m H, W i m H →
  (J.stop i H ∧ Q (.ref D) H) ∨ (J.go i H ∧ ∃ Nx : Hp → Prop, (∀ H', Nx H' → ∃ m', m' < m ∧ W (i + 1) m' H') ∧ ∀ x H', J.yld i H x H' → g x (wipe σ vs) H' fun σ2 H2 => wipe σ2 vs = wipe σ vs ∧ tt σ2 H2 fun b H3 =>
    if b = true then te σ2 H3 fun y H4 => ∃ acc, H4 D = some (.lst acc) ∧ acc.length < sizeLine ∧ Nx (upd H4 D (.lst (acc ++ [y]))) else Nx H3)
theorem lc {wi : TI} {g : TG} {vs : List Nat} (q : wi σ H fun J H1 => LcP J g t te vs σ Q H1) : tLc wi g t te vs σ H Q := q
def WP (A B : Prop) : Prop := A ∧ B
theorem wp (h : A1) (q : A2) : WP A1 A2 := ⟨h, q⟩
theorem yes (q : B true H) : tYes σ H B := q
theorem same_up {H H' : Hp} {p : Addr} {o : HO} (h : H p = none) (s : Same H H') : Same H (upd H' p o) := fun a u e => by rw [upd_ne (ne_of_none e h)]; exact s a u e
theorem same_new {H : Hp} {p : Addr} {o : HO} (h : H p = none) : Same H (upd H p o) := same_up h (Same.refl H)
theorem snoc {H : Hp} {p : Addr} {xs : List Int} {z : Int} : upd H p (.lst (xs.map V.int ++ [.int z])) p = some (.lst ((xs ++ [z]).map V.int)) := by rw [upd_same, List.map_append]; rfl
/-- a comprehension whose turns leave what stands: the list of the turns that are kept -/
theorem lcFil {J : It} {n : Nat} {G : Hp → Prop} {Y : Nat → Hp → V → Hp → Prop} {g : TG} {vs : List Nat} (w : Walk J n G Y) (hn : n < 16777216) (c : Nat → Bool) (f : Nat → V) (hG : ∀ H', Same H H' → G H') (hY : ∀ i H x H', Y i H x H' → Same H H')
    (hs : ∀ i x H1 H' (R : V → Hp → Prop) (R0 : Hp → Prop), i < n → Same H H1 → Y i H1 x H' → (c i = true → ∀ H4, Same H' H4 → R (f i) H4) → (c i = false → ∀ H4, Same H' H4 → R0 H4) →
      g x (wipe σ vs) H' fun σ2 H2 => WP (wipe σ2 vs = wipe σ vs) (t σ2 H2 fun b H3 => IfP b (te σ2 H3 R) (R0 H3)))
    (q : ∀ p H2, H p = none → Same H H2 → H2 p = some (.lst (((List.range n).filter c).map f)) → Q (.ref p) H2) : LcP J g t te vs σ Q H := fun p hp => by
  refine lc_it w (fun i H' => Same H H' ∧ H' p = some (.lst (((List.range i).filter c).map f))) ⟨same_new hp, upd_same⟩ (fun i H' _ h => hG H' h.1) (fun i x H1 H' hi h y => ?_) (fun H' h => q p H' hp h.1 h.2)
  obtain ⟨h1, h2⟩ := h
  have s1 := hY i H1 x H' y
  refine hs i x H1 H' _ _ hi h1 y (fun hc H4 s4 => ⟨_, s4 _ _ (s1 _ _ h2), ?_, same_up hp (h1.trans (s1.trans s4)), ?_⟩) (fun hc H4 s4 => ⟨h1.trans (s1.trans s4), ?_⟩)
  · rw [List.length_map]
    have := List.length_filter_le c (List.range i)
    rw [List.length_range] at this
    rw [sizeLine_eq]; omega
  · rw [upd_same, List.range_succ, List.filter_append, List.map_append, List.filter_cons, if_pos hc]; rfl
  · rw [List.range_succ, List.filter_append, List.map_append, List.filter_cons, if_neg (by rw [hc]; decide)]
    rw [s4 _ _ (s1 _ _ h2)]; simp
theorem lcMap {J : It} {n : Nat} {G : Hp → Prop} {Y : Nat → Hp → V → Hp → Prop} {g : TG} {vs : List Nat} (w : Walk J n G Y) (hn : n < 16777216) (f : Nat → V) (hG : ∀ H', Same H H' → G H') (hY : ∀ i H x H', Y i H x H' → Same H H')
    (hs : ∀ i x H1 H' (R : V → Hp → Prop) (R0 : Hp → Prop), i < n → Same H H1 → Y i H1 x H' → (∀ H4, Same H' H4 → R (f i) H4) →
      g x (wipe σ vs) H' fun σ2 H2 => WP (wipe σ2 vs = wipe σ vs) (t σ2 H2 fun b H3 => IfP b (te σ2 H3 R) (R0 H3)))
    (q : ∀ p H2, H p = none → Same H H2 → H2 p = some (.lst ((List.range n).map f)) → Q (.ref p) H2) : LcP J g t te vs σ Q H := by
  refine lcFil w hn (fun _ => true) f hG hY (fun i x H1 H' R R0 hi h1 y hr _ => hs i x H1 H' R R0 hi h1 y (hr rfl)) ?_
  rw [List.filter_eq_self.mpr (fun _ _ => rfl)]
  exact q
theorem sameFn {f : Nat → V} : ∀ i H x H', YFn f i H x H' → Same H H' := fun _ _ _ _ y => y.1 ▸ Same.refl _
theorem sameAt {xs : List V} : ∀ i H x H', YAt xs i H x H' → Same H H' := fun _ _ _ _ y => y.1 ▸ Same.refl _
/-- reversed ranges -/
def RrP (a b : Int) (H : Hp) (R : It → Hp → Prop) : Prop := -(2 ^ 62) ≤ a ∧ a < 2 ^ 62 ∧ -(2 ^ 62) ≤ b ∧ b < 2 ^ 62 ∧ R (Itc (a + (((b - a).toNat : Nat) : Int) - 1) (-1) (b - a).toNat) H
def Rg1P (x : V) (H : Hp) (R : Int → Int → Hp → Prop) : Prop := ∃ j, x = .int j ∧ R 0 j H
theorem rrv {tr : L2.St → Hp → (Int → Int → Hp → Prop) → Prop} {R : It → Hp → Prop} (q : tr σ H fun a b H1 => RrP a b H1 R) : iRevR tr σ H R := q
theorem rr {a b : Int} {R : It → Hp → Prop} (h : -(2 ^ 62) ≤ a ∧ a < 2 ^ 62 ∧ -(2 ^ 62) ≤ b ∧ b < 2 ^ 62) (q : R (Itc (a + (((b - a).toNat : Nat) : Int) - 1) (-1) (b - a).toNat) H) : RrP a b H R := ⟨h.1, h.2.1, h.2.2.1, h.2.2.2, q⟩
theorem rg1 {R : Int → Int → Hp → Prop} (q : ta σ H fun x H1 => Rg1P x H1 R) : tRg1 ta σ H R := q
theorem rg1p {R : Int → Int → Hp → Prop} (q : R 0 j H) : Rg1P (.int j) H R := ⟨j, rfl, q⟩
/-- isinstance with a built-in class -/
theorem isi {n : String} {tv : Value} (ty : TyX K H x tv) (q : Q (.bl b) H) (e : PySem.W.kitOne K tv (.type n) = some b) : rIsi K [x, .ty n] H Q := ⟨x, .ty n, tv, .type n, b, rfl, .ty n, ty, e, q⟩
theorem isiI {n : String} (q : Q (.bl b) H) (e : kitB "int" n = some b) : rIsi K [.int i, .ty n] H Q := isi (.base (.int i)) q (kit_ty e)
theorem isiS {n : String} {z : Str} (q : Q (.bl b) H) (e : kitB "str" n = some b) : rIsi K [.str z, .ty n] H Q := isi (.base (.str z)) q (kit_ty e)
theorem isiB {n : String} {k : Bool} (q : Q (.bl b) H) (e : kitB "bool" n = some b) : rIsi K [.bl k, .ty n] H Q := isi (.base (.bl k)) q (kit_ty e)
theorem isiN {n : String} (q : Q (.bl b) H) (e : kitB "NoneType" n = some b) : rIsi K [.non, .ty n] H Q := isi (.base .non) q (kit_ty e)
/-- int of a text, order of texts -/
def rIntS : List V → Hp → VK → Prop := fun xs H Q => ∃ a n, xs = [.str a] ∧ PySem.intText? a = some n ∧ a.length ≤ 640 ∧ Q (.int n) H
theorem intS {a : Str} {n : Int} (h : PySem.intText? a = some n) (hl : a.length ≤ 640) (q : Q (.int n) H) : rIntS [.str a] H Q := ⟨a, n, rfl, h, hl, q⟩
def rLtS : R2 := fun x y H Q => ∃ i j, x = .str i ∧ y = .str j ∧ Q (.bl (decide (i.cps.toList < j.cps.toList))) H
theorem ltS {a b : Str} (q : Q (.bl (decide (a.cps.toList < b.cps.toList))) H) : rLtS (.str a) (.str b) H Q := ⟨a, b, rfl, rfl, q⟩
theorem eqB {p q' : Bool} : decide (V.bl p = V.bl q') = decide (p = q') := by simp
theorem eqvB {a b : Bool} (q : Q (.bl (decide (a = b))) H) : rEq (.bl a) (.bl b) H Q := eqv (by rw [eqB]; exact q)
def rMin2 : List V → Hp → VK → Prop := fun xs H Q => ∃ i j, xs = [.int i, .int j] ∧ Q (.int (if j < i then j else i)) H
def rMax2 : List V → Hp → VK → Prop := fun xs H Q => ∃ i j, xs = [.int i, .int j] ∧ Q (.int (if j > i then j else i)) H
theorem min2 (q : Q (.int (if j < i then j else i)) H) : rMin2 [.int i, .int j] H Q := ⟨i, j, rfl, q⟩
theorem max2 (q : Q (.int (if j > i then j else i)) H) : rMax2 [.int i, .int j] H Q := ⟨i, j, rfl, q⟩
/-- x in (..), of ints -/
theorem inL {p : Addr} {xs : List V} {neg : Bool} (h : SqL K H p xs) (f : xs.all flatV = true) (q : Q (.bl (if neg then !inV (.int i) xs else inV (.int i) xs)) H) : rIn K neg (.int i) (.ref p) H Q := ⟨p, xs, rfl, .inl h, rfl, f, q⟩
theorem flat_ints : ∀ xs : List Int, (xs.map V.int).all flatV = true
  | [] => rfl
  | _ :: xs => by rw [List.map_cons, List.all_cons, flat_ints xs]; rfl
theorem notin_ints {z : Int} : ∀ xs : List Int, (∀ y ∈ xs, y ≠ z) → inV (.int z) (xs.map V.int) = false
  | [], _ => rfl
  | y :: xs, h => by
    have ih := notin_ints xs fun u hu => h u (List.mem_cons_of_mem _ hu)
    unfold inV at *
    rw [List.map_cons, List.any_cons, ih, Bool.or_false]
    show (y == z) = false
    exact beq_eq_false_iff_ne.mpr (h y List.mem_cons_self)
theorem inT {p : Addr} {xs : List V} {neg : Bool} (h : SqT K H p xs) (f : xs.all flatV = true) (q : Q (.bl (if neg then !inV (.int i) xs else inV (.int i) xs)) H) : rIn K neg (.int i) (.ref p) H Q := ⟨p, xs, rfl, .inr h, rfl, f, q⟩
/-- x in (..), of texts -/
theorem inLS {p : Addr} {xs : List Str} {z : Str} {neg : Bool} (h : SqL K H p (xs.map V.str)) (q : Q (.bl (if neg then !decide (z ∈ xs) else decide (z ∈ xs))) H) : rIn K neg (.str z) (.ref p) H Q := by
  have fl : ∀ xs : List Str, (xs.map V.str).all flatV = true := fun xs => by simp [flatV]
  have e : ∀ xs : List Str, inV (.str z) (xs.map V.str) = decide (z ∈ xs) := fun xs => by
    rw [Bool.eq_iff_iff, decide_eq_true_iff]
    unfold inV
    rw [List.any_map, List.any_eq_true]
    constructor
    · rintro ⟨y, hy, e⟩
      have : y = z := by simpa [eqV] using e
      rw [← this]; exact hy
    · intro hz
      exact ⟨z, hz, by simp [eqV]⟩
  exact ⟨p, _, rfl, .inl h, rfl, fl xs, by rw [e]; exact q⟩
theorem inTS {p : Addr} {xs : List Str} {z : Str} {neg : Bool} (h : SqT K H p (xs.map V.str)) (q : Q (.bl (if neg then !decide (z ∈ xs) else decide (z ∈ xs))) H) : rIn K neg (.str z) (.ref p) H Q := by
  have fl : ∀ xs : List Str, (xs.map V.str).all flatV = true := fun xs => by simp [flatV]
  have e : ∀ xs : List Str, inV (.str z) (xs.map V.str) = decide (z ∈ xs) := fun xs => by
    rw [Bool.eq_iff_iff, decide_eq_true_iff]
    unfold inV
    rw [List.any_map, List.any_eq_true]
    constructor
    · rintro ⟨y, hy, e⟩
      have : y = z := by simpa [eqV] using e
      rw [← this]; exact hy
    · intro hz
      exact ⟨z, hz, by simp [eqV]⟩
  exact ⟨p, _, rfl, .inr h, rfl, fl xs, by rw [e]; exact q⟩
/-- == of lists of ints -/
theorem eqvAll_int : ∀ xs ys : List Int, PyData.eqvAll (xs.map .int) (ys.map .int) = decide (xs = ys)
  | [], [] => by simp [PyData.eqvAll]
  | [], _ :: _ => by simp [PyData.eqvAll]
  | _ :: _, [] => by simp [PyData.eqvAll]
  | x :: xs, y :: ys => by
    simp only [List.map_cons, PyData.eqvAll, PyData.eqv, eqvAll_int xs ys]
    by_cases h : x = y
    · subst h; simp
    · simp [h]
theorem canLay_ints : ∀ xs : List Int, PyData.canLayAll0 (xs.map .int) = true
  | [] => rfl
  | _ :: xs => by simp [PyData.canLayAll0, PyData.canLay0, canLay_ints xs]
theorem depth_ints : ∀ xs : List Int, PyData.depthAll (xs.map .int) = 0
  | [] => rfl
  | _ :: xs => by simp [PyData.depthAll, PyData.depth, depth_ints xs]
theorem shaped_ints (xs : List Int) : SeqAt.shaped (.list (xs.map .int)) = true := by
  simp [SeqAt.shaped, PyData.canLay0, PyData.depth, canLay_ints, depth_ints]
theorem shaped_tints (xs : List Int) : SeqAt.shaped (.tuple (xs.map .int)) = true := by
  simp [SeqAt.shaped, PyData.canLay0, PyData.depth, canLay_ints, depth_ints]
theorem dpAll_int : ∀ xs : List Int, DpAll K H (xs.map V.int) (xs.map PyData.int)
  | [] => .nil
  | x :: xs => .cons (.int x) (dpAll_int xs)
theorem eqDI {p q' : Addr} {xs ys : List Int} (h1 : SqL K H p (xs.map V.int)) (h2 : SqL K H q' (ys.map V.int)) (q : Q (.bl (decide (xs = ys))) H) : rEqD K (.ref p) (.ref q') H Q :=
  ⟨_, _, .lst h1 (dpAll_int xs), .lst h2 (dpAll_int ys), shaped_ints xs, shaped_ints ys, by rw [show PyData.eqv (.list (xs.map .int)) (.list (ys.map .int)) = decide (xs = ys) from eqvAll_int xs ys]; exact q⟩
theorem neDI {p q' : Addr} {xs ys : List Int} (h1 : SqL K H p (xs.map V.int)) (h2 : SqL K H q' (ys.map V.int)) (q : Q (.bl (!decide (xs = ys))) H) : rNeD K (.ref p) (.ref q') H Q :=
  ⟨_, _, .lst h1 (dpAll_int xs), .lst h2 (dpAll_int ys), shaped_ints xs, shaped_ints ys, by rw [show PyData.eqv (.list (xs.map .int)) (.list (ys.map .int)) = decide (xs = ys) from eqvAll_int xs ys]; exact q⟩
theorem eqDT {p q' : Addr} {xs ys : List Int} (h1 : SqT K H p (xs.map V.int)) (h2 : SqT K H q' (ys.map V.int)) (q : Q (.bl (decide (xs = ys))) H) : rEqD K (.ref p) (.ref q') H Q :=
  ⟨_, _, .tup h1 (dpAll_int xs), .tup h2 (dpAll_int ys), shaped_tints xs, shaped_tints ys, by rw [show PyData.eqv (.tuple (xs.map .int)) (.tuple (ys.map .int)) = decide (xs = ys) from eqvAll_int xs ys]; exact q⟩
theorem neDT {p q' : Addr} {xs ys : List Int} (h1 : SqT K H p (xs.map V.int)) (h2 : SqT K H q' (ys.map V.int)) (q : Q (.bl (!decide (xs = ys))) H) : rNeD K (.ref p) (.ref q') H Q :=
  ⟨_, _, .tup h1 (dpAll_int xs), .tup h2 (dpAll_int ys), shaped_tints xs, shaped_tints ys, by rw [show PyData.eqv (.tuple (xs.map .int)) (.tuple (ys.map .int)) = decide (xs = ys) from eqvAll_int xs ys]; exact q⟩
/-- all, any, sum, list(..) of a list -/
theorem allP {p : Addr} {bs : List Bool} (h : SqL K H p (bs.map V.bl)) (q : Q (.bl (bs.all id)) H) : L2.rAll K [.ref p] H Q := ⟨p, bs, rfl, h, q⟩
theorem anyP {p : Addr} {bs : List Bool} (h : SqL K H p (bs.map V.bl)) (q : Q (.bl (bs.any id)) H) : L2.rAny K [.ref p] H Q := ⟨p, bs, rfl, h, q⟩
theorem sumP {p : Addr} {ns : List Int} (h : SqL K H p (ns.map V.int)) (q : Q (.int ns.sum) H) : L2.rSum K [.ref p] H Q := ⟨p, ns, rfl, h, q⟩
def rList (K : PySem.W.Frag) : List V → Hp → VK → Prop := fun xs H Q => ∃ p ys, xs = [.ref p] ∧ (SqL K H p ys ∨ SqT K H p ys) ∧ ∀ l, H l = none → Q (.ref l) (upd H l (.lst ys))
theorem listL {p : Addr} {xs : List V} (h : SqL K H p xs) (q : ∀ l, H l = none → Q (.ref l) (upd H l (.lst xs))) : rList K [.ref p] H Q := ⟨p, xs, rfl, .inl h, q⟩
theorem listT {p : Addr} {xs : List V} (h : SqT K H p xs) (q : ∀ l, H l = none → Q (.ref l) (upd H l (.lst xs))) : rList K [.ref p] H Q := ⟨p, xs, rfl, .inr h, q⟩
def rDivmod : List V → Hp → VK → Prop := fun xs H Q => ∃ i j, xs = [.int i, .int j] ∧ CDiv i j ∧ ∀ p, H p = none → Q (.ref p) (upd H p (.tup [.int (i / j), .int (i % j)]))
theorem dvm (c : CDiv i j) (q : ∀ p, H p = none → Q (.ref p) (upd H p (.tup [.int (i / j), .int (i % j)]))) : rDivmod [.int i, .int j] H Q := ⟨i, j, rfl, c, q⟩
theorem cat {l b : Addr} {xs zs : List V} (h1 : H l = some (.lst xs)) (h2 : H b = some (.lst zs)) (hz : xs.length + zs.length ≤ sizeLine) (q : ∀ p, H p = none → Q (.ref p) (upd H p (.lst (xs ++ zs)))) : rCat (.ref l) (.ref b) H Q := ⟨l, b, xs, zs, rfl, rfl, h1, h2, hz, q⟩
def TwP (K : PySem.W.Frag) (x : V) (H : Hp) (R : It → Hp → Prop) : Prop := ∃ a, x = .ref a ∧ (∃ xs, SqT K H a xs) ∧ R (Itt K a) H
theorem twk {R : It → Hp → Prop} (q : te σ H fun x H1 => TwP K x H1 R) : iTup K te σ H R := q
theorem twp {a : Addr} {xs : List V} {R : It → Hp → Prop} (h : SqT K H a xs) (q : R (Itt K a) H) : TwP K (.ref a) H R := ⟨a, rfl, ⟨xs, h⟩, q⟩
/-- a list of tuples of ints -/
def TL (H : Hp) (l : Addr) (n : Nat) (f : Nat → List Int) : Prop := ∃ ps : List Addr, H l = some (.lst (ps.map V.ref)) ∧ ps.length = n ∧ ∀ j a, ps[j]? = some a → H a = some (.tup ((f j).map V.int))
theorem TL.keep {H' : Hp} {l : Addr} {n : Nat} {f : Nat → List Int} (t : TL H l n f) (s : Same H H') : TL H' l n f := by
  obtain ⟨ps, h1, h2, h3⟩ := t
  exact ⟨ps, s _ _ h1, h2, fun j a e => s _ _ (h3 j a e)⟩
theorem TL.nil {l : Addr} {f : Nat → List Int} (h : H l = some (.lst [])) : TL H l 0 f := ⟨[], h, rfl, fun j a e => by cases e⟩
theorem TL.snoc {l t : Addr} {n : Nat} {f : Nat → List Int} (x : TL H l n f) (h : H t = some (.tup ((f n).map V.int))) : ∃ xs, H l = some (.lst xs) ∧ xs.length = n ∧ TL (upd H l (.lst (xs ++ [.ref t]))) l (n + 1) f := by
  obtain ⟨ps, h1, h2, h3⟩ := x
  have ne : ∀ {a : Addr} {ys : List V}, H a = some (.tup ys) → a ≠ l := fun e => ne_of e h1 (by intro z; cases z)
  refine ⟨_, h1, by rw [List.length_map]; exact h2, ps ++ [t], by rw [upd_same, List.map_append]; rfl, by rw [List.length_append, h2]; rfl, fun j a e => ?_⟩
  by_cases hj : j < ps.length
  · rw [List.getElem?_append_left hj] at e
    rw [upd_ne (ne (h3 j a e))]; exact h3 j a e
  · rw [List.getElem?_append_right (by omega)] at e
    have hj2 : j - ps.length = 0 := by
      rcases Nat.eq_zero_or_pos (j - ps.length) with z | z
      · exact z
      · rw [List.getElem?_eq_none (by show 1 ≤ _; omega)] at e; cases e
    rw [hj2] at e
    have e2 : t = a := Option.some.inj e
    subst e2
    rw [upd_ne (ne h), show j = n by omega]; exact h
theorem TL.len {l : Addr} {n : Nat} {f : Nat → List Int} (x : TL H l n f) : ∃ xs, H l = some (.lst xs) ∧ xs.length = n := by
  obtain ⟨ps, h1, h2, h3⟩ := x
  exact ⟨_, h1, by rw [List.length_map]; exact h2⟩
theorem TL.get {l : Addr} {n j : Nat} {f : Nat → List Int} (x : TL H l n f) (hj : j < n) : ∃ xs a, H l = some (.lst xs) ∧ atI xs (j : Int) = some (.ref a) ∧ H a = some (.tup ((f j).map V.int)) := by
  obtain ⟨ps, h1, h2, h3⟩ := x
  have hj2 : j < ps.length := by omega
  refine ⟨_, ps[j], h1, atI_nat ?_, h3 j _ (List.getElem?_eq_getElem hj2)⟩
  rw [List.getElem?_map, List.getElem?_eq_getElem hj2]; rfl
theorem dp_tups : ∀ (ps : List Addr) (g : Nat → List Int), (∀ j a, ps[j]? = some a → H a = some (.tup ((g j).map V.int))) → DpAll K H (ps.map V.ref) ((List.range ps.length).map fun j => PyData.tuple ((g j).map PyData.int))
  | [], _, _ => .nil
  | a :: ps, g, h => by
    rw [List.length_cons, List.range_succ_eq_map, List.map_cons, List.map_cons, List.map_map]
    exact .cons (.tup (SqT.of (h 0 a rfl)) (dpAll_int _)) (dp_tups ps (fun j => g (j + 1)) fun j b e => h (j + 1) b (by simpa using e))
theorem lay_tups : ∀ rows : List (List Int), PyData.canLayAll0 (rows.map fun r => PyData.tuple (r.map PyData.int)) = true ∧ PyData.depthAll (rows.map fun r => PyData.tuple (r.map PyData.int)) ≤ 1 ∧ PyData.eqvAll (rows.map fun r => PyData.tuple (r.map PyData.int)) (rows.map fun r => PyData.tuple (r.map PyData.int)) = true
  | [] => ⟨rfl, by simp [PyData.depthAll], by simp [PyData.eqvAll]⟩
  | r :: rows => by
    obtain ⟨h1, h2, h3⟩ := lay_tups rows
    refine ⟨by simp [PyData.canLayAll0, PyData.canLay0, canLay_ints, h1], ?_, ?_⟩
    · simp only [List.map_cons, PyData.depthAll, PyData.depth, depth_ints]; omega
    · simp [PyData.eqvAll, PyData.eqv, eqvAll_int, h3]
theorem TL.dp {l : Addr} {n : Nat} {f : Nat → List Int} (x : TL H l n f) : Dp K H (.ref l) (.list (((List.range n).map f).map fun r => PyData.tuple (r.map PyData.int))) := by
  obtain ⟨ps, h1, h2, h3⟩ := x
  have := dp_tups (K := K) ps f h3
  rw [h2] at this
  rw [List.map_map]
  exact .lst (SqL.of h1) this
theorem shaped_tups (rows : List (List Int)) : SeqAt.shaped (.list (rows.map fun r => PyData.tuple (r.map PyData.int))) = true := by
  obtain ⟨h1, h2, _⟩ := lay_tups rows
  unfold SeqAt.shaped
  simp only [PyData.canLay0, PyData.depth, h1, Bool.true_and]
  exact decide_eq_true (by omega)
theorem eqTL {l m : Addr} {n : Nat} {f : Nat → List Int} (x : TL H l n f) (y : TL H m n f) (q : Q (.bl true) H) : rEqD K (.ref l) (.ref m) H Q :=
  ⟨_, _, x.dp, y.dp, shaped_tups _, shaped_tups _, by rw [show PyData.eqv (.list (((List.range n).map f).map fun r => PyData.tuple (r.map PyData.int))) (.list (((List.range n).map f).map fun r => PyData.tuple (r.map PyData.int))) = true from (lay_tups _).2.2]; exact q⟩
theorem neTL {l m : Addr} {n : Nat} {f : Nat → List Int} (x : TL H l n f) (y : TL H m n f) (q : Q (.bl false) H) : rNeD K (.ref l) (.ref m) H Q :=
  ⟨_, _, x.dp, y.dp, shaped_tups _, shaped_tups _, by rw [show PyData.eqv (.list (((List.range n).map f).map fun r => PyData.tuple (r.map PyData.int))) (.list (((List.range n).map f).map fun r => PyData.tuple (r.map PyData.int))) = true from (lay_tups _).2.2]; exact q⟩
/-- a comprehension whose turns make a tuple each -/
theorem lcTup {J : It} {n : Nat} {G : Hp → Prop} {Y : Nat → Hp → V → Hp → Prop} {g : TG} {vs : List Nat} (w : Walk J n G Y) (hn : n < 16777216) (f : Nat → List Int) (hG : ∀ H', Same H H' → G H') (hY : ∀ i H x H', Y i H x H' → Same H H')
    (hs : ∀ i x H1 H' (R : V → Hp → Prop) (R0 : Hp → Prop), i < n → Same H H1 → Y i H1 x H' → (∀ p H4, Same H' H4 → H4 p = some (.tup ((f i).map V.int)) → R (.ref p) H4) →
      g x (wipe σ vs) H' fun σ2 H2 => WP (wipe σ2 vs = wipe σ vs) (t σ2 H2 fun b H3 => IfP b (te σ2 H3 R) (R0 H3)))
    (q : ∀ p H2, H p = none → Same H H2 → TL H2 p n f → Q (.ref p) H2) : LcP J g t te vs σ Q H := fun p hp => by
  refine lc_it w (fun i H' => Same H H' ∧ TL H' p i f) ⟨same_new hp, TL.nil upd_same⟩ (fun i H' _ h => hG H' h.1) (fun i x H1 H' hi h y => ?_) (fun H' h => q p H' hp h.1 h.2)
  obtain ⟨h1, h2⟩ := h
  have s1 := hY i H1 x H' y
  refine hs i x H1 H' _ _ hi h1 y (fun a H4 s4 ha => ?_)
  obtain ⟨xs, e1, e2, e3⟩ := (h2.keep (s1.trans s4)).snoc ha
  exact ⟨xs, e1, by rw [sizeLine_eq]; omega, same_up hp (h1.trans (s1.trans s4)), e3⟩
/-- a list of lists of ints -/
def LL (H : Hp) (l : Addr) (n : Nat) (f : Nat → List Int) : Prop := ∃ ps : List Addr, H l = some (.lst (ps.map V.ref)) ∧ ps.length = n ∧ ∀ j a, ps[j]? = some a → H a = some (.lst ((f j).map V.int))
theorem LL.keep {H' : Hp} {l : Addr} {n : Nat} {f : Nat → List Int} (t : LL H l n f) (s : Same H H') : LL H' l n f := by
  obtain ⟨ps, h1, h2, h3⟩ := t
  exact ⟨ps, s _ _ h1, h2, fun j a e => s _ _ (h3 j a e)⟩
theorem LL.nil {l : Addr} {f : Nat → List Int} (h : H l = some (.lst [])) : LL H l 0 f := ⟨[], h, rfl, fun j a e => by cases e⟩
theorem LL.snoc {l t : Addr} {n : Nat} {f : Nat → List Int} (x : LL H l n f) (h : H t = some (.lst ((f n).map V.int))) (ne : t ≠ l) : ∃ xs, H l = some (.lst xs) ∧ xs.length = n ∧ LL (upd H l (.lst (xs ++ [.ref t]))) l (n + 1) f := by
  obtain ⟨ps, h1, h2, h3⟩ := x
  have nl : ∀ {j : Nat} {a : Addr}, ps[j]? = some a → a ≠ l := fun {j a} e z => by
    have e2 := h3 j a e
    rw [z, h1] at e2
    have e3 : ps.map V.ref = (f j).map V.int := by injection e2 with e2; injection e2
    cases hp : ps with
    | nil => rw [hp] at e; cases e
    | cons b r =>
      rw [hp] at e3
      cases hf : f j with
      | nil => rw [hf] at e3; cases e3
      | cons z zs => rw [hf] at e3; injection e3 with e4; cases e4
  refine ⟨_, h1, by rw [List.length_map]; exact h2, ps ++ [t], by rw [upd_same, List.map_append]; rfl, by rw [List.length_append, h2]; rfl, fun j a e => ?_⟩
  by_cases hj : j < ps.length
  · rw [List.getElem?_append_left hj] at e
    rw [upd_ne (nl e)]; exact h3 j a e
  · rw [List.getElem?_append_right (by omega)] at e
    have hj2 : j - ps.length = 0 := by
      rcases Nat.eq_zero_or_pos (j - ps.length) with z | z
      · exact z
      · rw [List.getElem?_eq_none (by show 1 ≤ _; omega)] at e; cases e
    rw [hj2] at e
    have e2 : t = a := Option.some.inj e
    subst e2
    rw [upd_ne ne, show j = n by omega]; exact h
theorem LL.len {l : Addr} {n : Nat} {f : Nat → List Int} (x : LL H l n f) : ∃ xs, H l = some (.lst xs) ∧ xs.length = n := by
  obtain ⟨ps, h1, h2, h3⟩ := x
  exact ⟨_, h1, by rw [List.length_map]; exact h2⟩
theorem LL.all {l : Addr} {n : Nat} {f : Nat → List Int} (x : LL H l n f) : ∃ xs, H l = some (.lst xs) ∧ xs.length = n ∧ ∀ j v, xs[j]? = some v → ∃ a, v = .ref a ∧ H a = some (.lst ((f j).map V.int)) := by
  obtain ⟨ps, h1, h2, h3⟩ := x
  refine ⟨_, h1, by rw [List.length_map]; exact h2, fun j v e => ?_⟩
  rw [List.getElem?_map] at e
  cases ea : ps[j]? with
  | none => rw [ea] at e; cases e
  | some a => rw [ea] at e; exact ⟨a, (Option.some.inj e).symm, h3 j a ea⟩
theorem LL.get {l : Addr} {n j : Nat} {f : Nat → List Int} (x : LL H l n f) (hj : j < n) : ∃ xs a, H l = some (.lst xs) ∧ atI xs (j : Int) = some (.ref a) ∧ H a = some (.lst ((f j).map V.int)) := by
  obtain ⟨ps, h1, h2, h3⟩ := x
  have hj2 : j < ps.length := by omega
  refine ⟨_, ps[j], h1, atI_nat ?_, h3 j _ (List.getElem?_eq_getElem hj2)⟩
  rw [List.getElem?_map, List.getElem?_eq_getElem hj2]; rfl
theorem LL.congr {l : Addr} {n : Nat} {f g : Nat → List Int} (x : LL H l n f) (h : ∀ j, j < n → f j = g j) : LL H l n g := by
  obtain ⟨ps, h1, h2, h3⟩ := x
  refine ⟨ps, h1, h2, fun j a e => ?_⟩
  have hj : j < ps.length := by
    rcases Nat.lt_or_ge j ps.length with z | z
    · exact z
    · rw [List.getElem?_eq_none z] at e; cases e
  rw [← h j (by omega)]; exact h3 j a e
theorem dp_lists : ∀ (ps : List Addr) (g : Nat → List Int), (∀ j a, ps[j]? = some a → H a = some (.lst ((g j).map V.int))) → DpAll K H (ps.map V.ref) ((List.range ps.length).map fun j => PyData.list ((g j).map PyData.int))
  | [], _, _ => .nil
  | a :: ps, g, h => by
    rw [List.length_cons, List.range_succ_eq_map, List.map_cons, List.map_cons, List.map_map]
    exact .cons (.lst (SqL.of (h 0 a rfl)) (dpAll_int _)) (dp_lists ps (fun j => g (j + 1)) fun j b e => h (j + 1) b (by simpa using e))
theorem lay_lists : ∀ rows : List (List Int), PyData.canLayAll0 (rows.map fun r => PyData.list (r.map PyData.int)) = true ∧ PyData.depthAll (rows.map fun r => PyData.list (r.map PyData.int)) ≤ 1 ∧ PyData.eqvAll (rows.map fun r => PyData.list (r.map PyData.int)) (rows.map fun r => PyData.list (r.map PyData.int)) = true
  | [] => ⟨rfl, by simp [PyData.depthAll], by simp [PyData.eqvAll]⟩
  | r :: rows => by
    obtain ⟨h1, h2, h3⟩ := lay_lists rows
    refine ⟨by simp [PyData.canLayAll0, PyData.canLay0, canLay_ints, h1], ?_, ?_⟩
    · simp only [List.map_cons, PyData.depthAll, PyData.depth, depth_ints]; omega
    · simp [PyData.eqvAll, PyData.eqv, eqvAll_int, h3]
theorem LL.dp {l : Addr} {n : Nat} {f : Nat → List Int} (x : LL H l n f) : Dp K H (.ref l) (.list (((List.range n).map f).map fun r => PyData.list (r.map PyData.int))) := by
  obtain ⟨ps, h1, h2, h3⟩ := x
  have := dp_lists (K := K) ps f h3
  rw [h2] at this
  rw [List.map_map]
  exact .lst (SqL.of h1) this
theorem shaped_lists (rows : List (List Int)) : SeqAt.shaped (.list (rows.map fun r => PyData.list (r.map PyData.int))) = true := by
  obtain ⟨h1, h2, _⟩ := lay_lists rows
  unfold SeqAt.shaped
  simp only [PyData.canLay0, PyData.depth, h1, Bool.true_and]
  exact decide_eq_true (by omega)
theorem eqLL {l m : Addr} {n : Nat} {f : Nat → List Int} (x : LL H l n f) (y : LL H m n f) (q : Q (.bl true) H) : rEqD K (.ref l) (.ref m) H Q :=
  ⟨_, _, x.dp, y.dp, shaped_lists _, shaped_lists _, by rw [show PyData.eqv (.list (((List.range n).map f).map fun r => PyData.list (r.map PyData.int))) (.list (((List.range n).map f).map fun r => PyData.list (r.map PyData.int))) = true from (lay_lists _).2.2]; exact q⟩
/-- a comprehension whose turns make a list each -/
theorem lcLst {J : It} {n : Nat} {G : Hp → Prop} {Y : Nat → Hp → V → Hp → Prop} {g : TG} {vs : List Nat} (w : Walk J n G Y) (hn : n < 16777216) (f : Nat → List Int) (hG : ∀ H', Same H H' → G H') (hY : ∀ i H x H', Y i H x H' → Same H H')
    (hs : ∀ i x H1 H' (R : V → Hp → Prop) (R0 : Hp → Prop), i < n → Same H H1 → Y i H1 x H' → (∀ p H4, H' p = none → Same H' H4 → H4 p = some (.lst ((f i).map V.int)) → R (.ref p) H4) →
      g x (wipe σ vs) H' fun σ2 H2 => WP (wipe σ2 vs = wipe σ vs) (t σ2 H2 fun b H3 => IfP b (te σ2 H3 R) (R0 H3)))
    (q : ∀ p H2, H p = none → Same H H2 → LL H2 p n f → Q (.ref p) H2) : LcP J g t te vs σ Q H := fun p hp => by
  refine lc_it w (fun i H' => Same H H' ∧ LL H' p i f) ⟨same_new hp, LL.nil upd_same⟩ (fun i H' _ h => hG H' h.1) (fun i x H1 H' hi h y => ?_) (fun H' h => q p H' hp h.1 h.2)
  obtain ⟨h1, h2⟩ := h
  have s1 := hY i H1 x H' y
  refine hs i x H1 H' _ _ hi h1 y (fun a H4 hf s4 ha => ?_)
  obtain ⟨ys, hy, _⟩ := h2.len
  obtain ⟨xs, e1, e2, e3⟩ := (h2.keep (s1.trans s4)).snoc ha (ne_of_none (s1 _ _ hy) hf).symm
  exact ⟨xs, e1, by rw [sizeLine_eq]; omega, same_up hp (h1.trans (s1.trans s4)), e3⟩
theorem cutV_ints (xs : List Int) {b n : Nat} (h : b + n ≤ xs.length) : cutV (xs.map V.int) (some (b : Int)) (some ((b + n : Nat) : Int)) = ((xs.drop b).take n).map V.int := by
  unfold cutV
  rw [HT.sIx_nat, HT.sIx_nat, List.length_map, Nat.min_eq_left h, Nat.min_eq_left (show b ≤ xs.length by omega), Nat.add_sub_cancel_left, List.map_take, List.map_drop]
/-- a comprehension whose turns give ints that are told by a property alone -/
theorem lcInt {J : It} {n : Nat} {G : Hp → Prop} {Y : Nat → Hp → V → Hp → Prop} {g : TG} {vs : List Nat} (w : Walk J n G Y) (hn : n < 16777216) (P : Nat → Int → Prop) (hG : ∀ H', Same H H' → G H') (hY : ∀ i H x H', Y i H x H' → Same H H')
    (hs : ∀ i x H1 H' (R : V → Hp → Prop) (R0 : Hp → Prop), i < n → Same H H1 → Y i H1 x H' → (∀ z H4, P i z → Same H' H4 → R (.int z) H4) →
      g x (wipe σ vs) H' fun σ2 H2 => WP (wipe σ2 vs = wipe σ vs) (t σ2 H2 fun b H3 => IfP b (te σ2 H3 R) (R0 H3)))
    (q : ∀ (xs : List Int) (p : Addr) H2, xs.length = n → (∀ j z, xs[j]? = some z → P j z) → H p = none → Same H H2 → H2 p = some (.lst (xs.map V.int)) → Q (.ref p) H2) : LcP J g t te vs σ Q H := fun p hp => by
  refine lc_it w (fun i H' => Same H H' ∧ ∃ xs : List Int, xs.length = i ∧ (∀ j z, xs[j]? = some z → P j z) ∧ H' p = some (.lst (xs.map V.int))) ⟨same_new hp, [], rfl, (fun j z e => nomatch e), upd_same⟩ (fun i H' _ h => hG H' h.1) (fun i x H1 H' hi h y => ?_) (fun H' h => ?_)
  · obtain ⟨h1, xs, hl, hP, h2⟩ := h
    have s1 := hY i H1 x H' y
    refine hs i x H1 H' _ _ hi h1 y (fun z H4 hz s4 => ⟨_, s4 _ _ (s1 _ _ h2), by rw [List.length_map, hl, sizeLine_eq]; omega, same_up hp (h1.trans (s1.trans s4)), xs ++ [z], by rw [List.length_append, hl]; rfl, fun j u e => ?_, by rw [upd_same, List.map_append]; rfl⟩)
    by_cases hj : j < xs.length
    · rw [List.getElem?_append_left hj] at e; exact hP j u e
    · rw [List.getElem?_append_right (by omega)] at e
      have hj2 : j - xs.length = 0 := by
        rcases Nat.eq_zero_or_pos (j - xs.length) with c | c
        · exact c
        · rw [List.getElem?_eq_none (by show 1 ≤ _; omega)] at e; cases e
      rw [hj2] at e
      cases e
      rw [show j = i by omega]; exact hz
  · obtain ⟨h1, xs, hl, hP, h2⟩ := h
    exact q xs p H' hl hP hp h1 h2
/-- a comprehension over two ranges -/
def Lc2In (J1 : It) (g1 : TG) (tt1 : TT) (te : TE) (vs1 : List Nat) (D : Addr) (Nx : Hp → Prop) (σ2 : L2.St) (H4 : Hp) : Prop := ∃ W1 : Nat → Nat → Hp → Prop, (∃ m, W1 0 m H4) ∧ ∀ j k H, W1 j k H →
      (J1.stop j H ∧ Nx H) ∨ (J1.go j H ∧ ∃ Nx1 : Hp → Prop, (∀ H', Nx1 H' → ∃ k', k' < k ∧ W1 (j + 1) k' H') ∧ ∀ x H', J1.yld j H x H' → g1 x (wipe σ2 vs1) H' fun σ3 H5 => wipe σ3 vs1 = wipe σ2 vs1 ∧ tt1 σ3 H5 fun b H6 =>
        if b = true then te σ3 H6 fun y H7 => ∃ acc, H7 D = some (.lst acc) ∧ acc.length < sizeLine ∧ Nx1 (upd H7 D (.lst (acc ++ [y]))) else Nx1 H6)
def Lc2P (J : It) (g : TG) (tt : TT) (wi1 : TI) (g1 : TG) (tt1 : TT) (te : TE) (vs vs1 : List Nat) (σ : L2.St) (Q : VK) (H1 : Hp) : Prop := ∀ D, H1 D = none → ∃ W : Nat → Nat → Hp → Prop, (∃ m, W 0 m (upd H1 D (.lst []))) ∧ ∀ i m H, W i m H →
  (J.stop i H ∧ Q (.ref D) H) ∨ (J.go i H ∧ ∃ Nx : Hp → Prop, (∀ H', Nx H' → ∃ m', m' < m ∧ W (i + 1) m' H') ∧ ∀ x H', J.yld i H x H' → g x (wipe σ vs) H' fun σ2 H2 => wipe σ2 vs = wipe σ vs ∧ tt σ2 H2 fun b H3 =>
    if b = true then wi1 σ2 H3 fun J1 H4 => Lc2In J1 g1 tt1 te vs1 D Nx σ2 H4 else Nx H3)
theorem lc2 {wi wi1 : TI} {g g1 : TG} {tt tt1 : TT} {vs vs1 : List Nat} (q : wi σ H fun J H1 => Lc2P J g tt wi1 g1 tt1 te vs vs1 σ Q H1) : tLc2 wi g tt wi1 g1 tt1 te vs vs1 σ H Q := q
/-- what is made after i whole turns of the outer walk -/
def made (m : Nat) (f : Nat → Nat → V) (i : Nat) : List V := (List.range i).flatMap fun i => (List.range m).map (f i)
theorem made_len (m : Nat) (f : Nat → Nat → V) : ∀ i, (made m f i).length = i * m
  | 0 => by simp [made]
  | i + 1 => by
    have := made_len m f i
    unfold made at *
    rw [List.range_succ, List.flatMap_append, List.length_append, this, Nat.succ_mul]; simp
theorem made_succ (m : Nat) (f : Nat → Nat → V) (i : Nat) : made m f (i + 1) = made m f i ++ (List.range m).map (f i) := by
  unfold made
  rw [List.range_succ, List.flatMap_append]; simp
theorem lc2O {J : It} {n : Nat} {wi1 : TI} {g g1 : TG} {tt tt1 : TT} {vs vs1 : List Nat} {G : Hp → Prop} {Y : Nat → Hp → V → Hp → Prop} (w : Walk J n G Y) (Pv : Addr → Nat → Hp → Prop) (h0 : ∀ D, H D = none → Pv D 0 (upd H D (.lst []))) (hG : ∀ D i H', i ≤ n → Pv D i H' → G H')
    (hs : ∀ D i x H1 H', i < n → Pv D i H1 → Y i H1 x H' → g x (wipe σ vs) H' fun σ2 H2 => WP (wipe σ2 vs = wipe σ vs) (tt σ2 H2 fun b H3 => IfP b (wi1 σ2 H3 fun J1 H4 => Lc2In J1 g1 tt1 te vs1 D (Pv D (i + 1)) σ2 H4) (Pv D (i + 1) H3)))
    (hd : ∀ D H', H D = none → Pv D n H' → Q (.ref D) H') : Lc2P J g tt wi1 g1 tt1 te vs vs1 σ Q H := fun D hD => by
  refine ⟨fun i m H => m = n - i ∧ i ≤ n ∧ Pv D i H, ⟨n, by simp, Nat.zero_le _, h0 D hD⟩, ?_⟩
  rintro i m H' ⟨rfl, hi, p⟩
  have q := hG D i H' hi p
  by_cases hlt : i < n
  · refine .inr ⟨w.goes i H' hlt q, Pv D (i + 1), fun H' p' => ⟨n - (i + 1), by omega, rfl, hlt, p'⟩, fun x H2 y => hs D i x H' H2 hlt p (w.yields i H' x H2 hlt q y)⟩
  · have e : i = n := by omega
    subst e
    exact .inl ⟨w.stops H' q, hd D H' hD p⟩
theorem lc2I {J1 : It} {n : Nat} {g1 : TG} {tt1 : TT} {vs1 : List Nat} {D : Addr} {Nx : Hp → Prop} {G : Hp → Prop} {Y : Nat → Hp → V → Hp → Prop} (w : Walk J1 n G Y) (Pv : Nat → Hp → Prop) (h0 : Pv 0 H) (hG : ∀ i H', i ≤ n → Pv i H' → G H')
    (hs : ∀ i x H1 H', i < n → Pv i H1 → Y i H1 x H' → g1 x (wipe σ vs1) H' fun σ3 H5 => WP (wipe σ3 vs1 = wipe σ vs1) (tt1 σ3 H5 fun b H6 => IfP b (te σ3 H6 fun y H7 => ∃ acc, H7 D = some (.lst acc) ∧ acc.length < sizeLine ∧ Pv (i + 1) (upd H7 D (.lst (acc ++ [y])))) (Pv (i + 1) H6)))
    (hd : ∀ H', Pv n H' → Nx H') : Lc2In J1 g1 tt1 te vs1 D Nx σ H := by
  refine ⟨fun i m H => m = n - i ∧ i ≤ n ∧ Pv i H, ⟨n, by simp, Nat.zero_le _, h0⟩, ?_⟩
  rintro i m H' ⟨rfl, hi, p⟩
  have q := hG i H' hi p
  by_cases hlt : i < n
  · refine .inr ⟨w.goes i H' hlt q, Pv (i + 1), fun H' p' => ⟨n - (i + 1), by omega, rfl, hlt, p'⟩, fun x H2 y => hs i x H' H2 hlt p (w.yields i H' x H2 hlt q y)⟩
  · have e : i = n := by omega
    subst e
    exact .inl ⟨w.stops H' q, hd H' p⟩
theorem slL {a : Addr} {xs : List V} {lo hi : Option Int} (h : SqL K H a xs) (q : ∀ p, H p = none → Q (.ref p) (upd H p (.lst (cutV xs lo hi)))) : rSlL K (.ref a) lo hi H Q := ⟨a, xs, rfl, h, q⟩
theorem up_seq {p l : Addr} {xs : List V} {o : HO} (h : SqL K H p xs) (hl : H l = none) : SqL K (upd H l o) p xs := (same_new hl).seq h
end
section
variable {X : Cx}
theorem o_rep : OpR X (binaryOp .Mult) rRepN := op_rep
theorem pget_list : PGet X (rGetN X.K) := by
  intro pins s σ H o i ov iv Q I ro ri h
  obtain ⟨p, xs, k, v, rfl, rfl, hq, hk, hx, q⟩ := h
  cases ro
  obtain ⟨t, rfl⟩ := ri
  obtain ⟨its, r, pl, hz⟩ := I.list hq
  obtain ⟨w, ew, rw'⟩ := r.get hx
  exact wpAny_getItem_list pl.isList (by omega) (by omega) (by rw [Int.toNat_natCast]; simpa using ew) ⟨v, H, I, rw', q⟩
theorem o_addS : OpR X (binaryOp .Add) rCatS := op_add_str
theorem o_ltS : OpR X (compareOp .Lt) rLtS := op_lt_str
theorem c_intS : CallR X (.type "int") rIntS := call_int_str
theorem c_min2 (hc : X.calm = true) : CallR X (.builtin "min") rMin2 := call_min2 hc
theorem c_max2 (hc : X.calm = true) : CallR X (.builtin "max") rMax2 := call_max2 hc
theorem c_divmod : CallR X (.builtin "divmod") rDivmod := call_divmod
theorem c_list : CallR X (.type "list") (rList X.K) := call_list_of
theorem c_listK {K : PySem.W.Frag} (h : X.K = K) : CallR X (.type "list") (rList K) := by subst h; exact call_list_of
theorem c_isiK {K : PySem.W.Frag} (h : X.K = K) : CallR X (.builtin "isinstance") (rIsi K) := by subst h; exact call_isi
theorem c_lenK {K : PySem.W.Frag} (h : X.K = K) : CallR X (.builtin "len") (rLen K) := by subst h; exact call_len
theorem ix_seqK {K : PySem.W.Frag} (h : X.K = K) : IxR X (rIx K) := by subst h; exact ix_seq
theorem sl_listK {K : PySem.W.Frag} (h : X.K = K) : SlR X (rSlL K) := by subst h; exact sl_list
theorem pe_fldK {K : PySem.W.Frag} {e : Expr} {ta : TE} {f : Str} {pos : Pos} (h : X.K = K) (he : PE X e ta) (hb : attributeBase e f X.env (eval e X.env) = eval e X.env) : PE X (.Attribute e f pos) (tFld K ta f) := by subst h; exact pe_fld he hb
theorem c_int : CallR X (.type "int") rInt1 := call_int1
theorem c_abs : CallR X (.builtin "abs") rAbs := call_abs
theorem c_strI : CallR X (.type "str") rStrI := call_str_int
theorem c_len : CallR X (.builtin "len") (rLen X.K) := call_len
end
end Gx
local macro_rules | `(tactic| walk_at "few") => `(tactic| (refine Nat.lt_of_le_of_lt (m := 30) ?_ (by decide); repeat (first | exact Nat.zero_le _ | refine Gx.few ?_)))
local macro_rules | `(tactic| walk_at "side") => `(tactic| ((try dsimp only [L2.CMul, L2.CDiv, L2.CPow, L2.CDivN]); first | omega | decide | assumption))
local macro_rules | `(tactic| walk_at "go1") => `(tactic| (first
  | with_reducible refine Gx.seq ?_
  | with_reducible refine Gx.asg ?_
  | with_reducible refine Gx.op ?_
  | ((with_reducible refine' Gx.var ?h0 ?_); (case h0 => rfl))
  | with_reducible refine Gx.cst ?_
  | with_reducible refine Gx.i0 ?_
  | with_reducible refine Gx.name ?_
  | with_reducible refine Gx.cons ?_
  | with_reducible refine Gx.nil ?_
  | with_reducible refine Gx.call ?_
  | with_reducible refine Gx.cb ?_
  | with_reducible refine Gx.int1 ?_
  | with_reducible refine Gx.intB ?_
  | with_reducible refine Gx.abs1 ?_
  | with_reducible refine Gx.un ?_
  | with_reducible refine Gx.uu ?_
  | with_reducible refine Gx.ifs ?_
  | with_reducible refine Gx.ifx ?_
  | with_reducible refine Gx.test ?_
  | with_reducible refine Gx.tB ?_
  | with_reducible refine Gx.tb_go ?_
  | with_reducible refine Gx.bv_go ?_
  | with_reducible refine Gx.and_ ?_
  | with_reducible refine Gx.or_ ?_
  | with_reducible refine Gx.not_ ?_
  | with_reducible refine Gx.andV ?_
  | with_reducible refine Gx.m1 ?_
  | with_reducible refine Gx.m1s ?_
  | with_reducible refine Gx.orW ?_
  | with_reducible refine Gx.andW ?_
  | with_reducible refine Gx.orV ?_
  | with_reducible refine Gx.notV ?_
  | with_reducible refine Gx.eqvI ?_
  | with_reducible refine Gx.nevI ?_
  | with_reducible refine Gx.eqvS ?_
  | with_reducible refine Gx.eqvB ?_
  | with_reducible refine Gx.ltS ?_
  | with_reducible refine Gx.nevS ?_
  | with_reducible refine Gx.ret ?_
  | with_reducible refine Gx.retN ?_
  | with_reducible refine Gx.drop ?_
  | with_reducible refine Gx.next ?_
  | with_reducible refine Gx.brk ?_
  | with_reducible refine Gx.cnt ?_
  | with_reducible refine Gx.if_t ?_
  | with_reducible refine Gx.if_f ?_
  | with_reducible refine Gx.if_nt ?_
  | with_reducible refine Gx.whI_t ?_
  | with_reducible refine Gx.whI_f ?_
  | with_reducible refine Gx.if_nf ?_
  | with_reducible refine Gx.for_ ?_
  | with_reducible refine Gx.rng1 ?_
  | with_reducible refine Gx.rng2 ?_
  | with_reducible refine Gx.rng3 ?_
  | with_reducible refine Gx.lwk ?_
  | with_reducible refine Gx.twk ?_
  | with_reducible refine Gx.lst ?_
  | with_reducible refine Gx.tup ?_
  | with_reducible refine Gx.bm ?_
  | with_reducible refine Gx.lc ?_
  | with_reducible refine Gx.lc2 ?_
  | with_reducible refine Gx.gcons ?_
  | with_reducible refine Gx.gnil ?_
  | with_reducible refine Gx.strw ?_
  | with_reducible refine Gx.strp ?_
  | with_reducible refine Gx.fld ?_
  | with_reducible refine Gx.sfld ?_
  | with_reducible refine Gx.meth ?_
  | with_reducible refine Gx.make ?_
  | with_reducible refine Gx.augS ?_
  | with_reducible refine Gx.sub ?_
  | with_reducible refine Gx.slc ?_
  | with_reducible refine Gx.noP ?_
  | with_reducible refine Gx.part ?_
  | with_reducible refine Gx.ptp ?_
  | with_reducible refine Gx.sbp ?_
  | ((with_reducible refine' Gx.wp ?h0 ?_); (case h0 => rfl))
  | with_reducible refine Gx.yes ?_
  | with_reducible refine Gx.rrv ?_
  | with_reducible refine Gx.rg1 ?_
  | with_reducible refine Gx.rg1p ?_
  | ((with_reducible refine' Gx.aug ?h0 ?_); (case h0 => rfl))
  | with_reducible refine Gx.augI ?_))
local macro_rules | `(tactic| walk_at "go") => `(tactic| repeat walk_at "go1")

/-! An own exception whose __init__ begins with super().__init__(e), its base chain ending at ValueError: the promise of that __init__. -/
namespace Sx
open PySem PySem.W PySem.Calls PyProof.Rows L2

/-- what the written part says of the class at C and of its __init__ at f -/
structure SupK (P : Program) (K : Frag) (mg : Str → Option Value) (C f : Addr) (fd : FuncData) (qual : Str) (st : Stmt) : Prop where
  ex : ∃ (oc : Value) (od : Option Addr) (kV doc pm ct : Value) (an : Option Addr) (cda cc : Addr) (osl : Array (Option Value)),
    fd = ksFn "__init__" qual (defArgs st) (defBody st) (defScope st) .none kV doc pm an (.ref cda) ct cc ∧ K.lookup f = some ⟨oc, od, .func fd, osl⟩ ∧ codeIn K (.ref cda) qual = true ∧
    (∃ (ccl : Value) (cdd : Option Addr) (vs : Array Value) (ccs : Array (Option Value)) (file : Str) (tf : Tok), K.lookup cda = some ⟨ccl, cdd, .fields vs, ccs⟩ ∧ vs[2]? = some (.str file tf) ∧ ((P.main.file : Str) == file) = true) ∧
    (∃ (cl : Value) (cld : Option Addr) (csl : Array (Option Value)), K.lookup cc = some ⟨cl, cld, .cell (some (.ref C)), csl⟩)
  top : (P.main.scope.names.lookup ("super" : Str)).isSome = false
  ns : mg "super" = none
  sub : mroIn K C (.ref C) = some true
  opq : nsIn K cStatics "thirdparty.any" = some none
  sup : ks_superIn K C C "__init__" = some (some (.builtin "ValueError.__init__"))
  isV : subIn K (.ref C) (.type "ValueError") = some true

/-- the scope of such an __init__ -/
structure SupScope (N P : List Str) (sc : Scope) : Prop where
  kind : sc.kind = .function
  co : sc.isCoroutine = false
  gen : sc.isGenerator = false
  nd : N.Nodup
  pre : N.take P.length = P
  par : ∀ x ∈ P, sc.names.lookup x = some .local
  nocell : ∀ y ∈ sc.names, y.2 ≠ .cell
  free : ∀ y ∈ sc.names, y.2 = .free → y.1 = "__class__"
  ks : sc.names.lookup ("super" : Str) = some .globalImplicit
  kc : sc.names.lookup ("__class__" : Str) = some .free

def cxS (P : Program) (w : World) (K : Frag) (mg : Str → Option Value) (base : Heap) (N : List Str) (qual : Str) (scope : Scope) (f cda cc : Addr) (A : Around) (outer : List Env) (s : Shared) (H : Hp) : Cx where
  prog := P
  w := w
  K := K
  mg := mg
  base := base
  A := A.deeper (ksEnv qual scope s.heap.objs.size f (.ref cda) cc)
  N := N
  s_0 := s
  H_0 := H
  env := ksEnv qual scope s.heap.objs.size f (.ref cda) cc
  outer := outer
  stack := ksEnv qual scope s.heap.objs.size f (.ref cda) cc :: outer
  ex := []
  calm := true
  fn := fun _ => false
  pn := []
  xe := fun _ _ => False

theorem start_at {N : List Str} {vs : List V} {i : Nat} {v : V} (h : (L2.start N vs)[i]? = some (some v)) : vs[i]? = some v := by
  rcases Nat.lt_or_ge i vs.length with q | q
  · simpa [L2.start, List.getElem?_append, q] using h
  · simp [L2.start, List.getElem?_append, Nat.not_lt.mpr q, List.getElem?_replicate] at h
theorem inv_sup {P : Program} {w : World} {K : Frag} {mg : Str → Option Value} {base : Heap} {N ps : List Str} {qual : Str} {scope : Scope} {f cda cc C : Addr} {A : Around} {outer : List Env} {s : Shared} {H : Hp} {us : List Value} {vs : List V} {cl : Value} {cld : Option Addr} {csl : Array (Option Value)} {h1 : Heap} {t : Nat}
    (S : SupScope N ps scope) (hd : A.handled = none) (e0 : Env0 P w K mg base A outer s H) (hl : vs.length = ps.length) (r : Vals vs us) (hcc : K.lookup cc = some ⟨cl, cld, .cell (some (.ref C)), csl⟩)
    (hn : h1.Ns s.heap.objs.size (fun x => (ps.zip us).reverse.lookup x)) (hk : ∀ b o, s.heap.get? b = some o → h1.get? b = some o) :
    Inv (cxS P w K mg base N qual scope f cda cc A outer s H) [] (L2.start N vs) H { s with heap := h1, toks := t } := by
  have hpl : ps.length ≤ N.length := by have := congrArg List.length S.pre; rw [List.length_take] at this; omega
  have noA : ∀ b : Addr, b ∉ (cxS P w K mg base N qual scope f cda cc A outer s H).ex := fun b z => absurd (show b ∈ ([] : List Addr) from z) (by simp)
  have bcc : base.get? cc = some ⟨cl, cld, .cell (some (.ref C)), csl⟩ := e0.mod.kin _ _ hcc
  have one : ∀ {x : Str} {c : Addr}, ([(("__class__" : Str), cc)] : List (Str × Addr)).lookup x = some c → x = "__class__" ∧ c = cc := fun {x c} e => by
    by_cases hx : x = ("__class__" : Str)
    · subst hx
      simp [List.lookup] at e
      exact ⟨rfl, e.symm⟩
    · have hb : (x == ("__class__" : Str)) = false := beq_eq_false_iff_ne.mpr hx
      simp [List.lookup, hb] at e
  refine ⟨⟨e0.mod, S.kind, rfl, rfl, Nat.le_refl _, fun y z c h1 h2 => ?_, fun y hy => ?_, fun y c h _ => (Bool.noConfusion h), fun _ => hd, Around.frames_deeper e0.frames, .inr ⟨rfl, rfl⟩, fun b z => absurd z (noA b), e0.bs, e0.bsz, fun b _ _ => noA b, fun b z => absurd z (noA b), e0.funs, e0.frf⟩,
    rfl, e0.bare, Un.kept hk, ⟨_, hn, fun i y v h1 h2 h3 => ?_⟩, fun y c h => ⟨some (.ref C), ?_⟩, e0.hok.fresh (Nat.le_refl _), fun y c h => ?_, fun p hp => absurd (show p ∈ ([] : List (Addr × Obj)) from hp) (by simp), e0.hok.kept hk, ?_⟩
  · exact (one h1).1.trans (one h2).1.symm
  · have hy : scope.names.lookup y = some .cell ∨ scope.names.lookup y = some .free := hy
    rcases hy with hy | hy
    · exact absurd rfl (S.nocell _ (PySem.mem_of_lookup hy))
    · have := S.free _ (PySem.mem_of_lookup hy) rfl
      dsimp only at this
      subst this
      exact ⟨cc, rfl⟩
  · have ha := start_at h2
    have hi : i < vs.length := (List.getElem?_eq_some_iff.mp ha).1
    obtain ⟨u, hu, rv⟩ := r.get ha
    have hp : ps[i]? = some y := by
      rw [← S.pre, List.getElem?_take_of_lt (by omega)]; exact h1
    have ndP : ps.Nodup := by rw [← S.pre]; exact S.nd.sublist (List.take_sublist _ _)
    refine ⟨u, rv, .inl ⟨S.par y (List.mem_of_getElem? hp), ?_⟩⟩
    have hul : us.length = ps.length := by rw [← r.length]; exact hl
    show (ps.zip us).reverse.lookup y = some u
    have mem : (y, u) ∈ (ps.zip us).reverse := List.mem_reverse.mpr (List.mem_of_getElem? (i := i) (by rw [List.getElem?_zip_eq_some]; exact ⟨hp, hu⟩))
    have keys : ∀ v', (y, v') ∈ (ps.zip us).reverse → v' = u := fun v' hm => by
      rw [List.mem_reverse, List.mem_iff_getElem?] at hm
      obtain ⟨j, hj⟩ := hm
      rw [List.getElem?_zip_eq_some] at hj
      have hij : j = i := by
        have hjl : j < ps.length := (List.getElem?_eq_some_iff.mp hj.1).1
        have hil : i < ps.length := (List.getElem?_eq_some_iff.mp hp).1
        exact (List.getElem?_inj hjl ndP).mp (hj.1.trans hp.symm)
      rw [hij, hu] at hj
      exact (Option.some.inj hj.2).symm
    cases hlk : (ps.zip us).reverse.lookup y with
    | none =>
      exfalso
      have := List.lookup_eq_none_iff.mp hlk _ mem
      simp at this
    | some v' => rw [keys v' (PySem.mem_of_lookup hlk)]
  · obtain ⟨rfl, rfl⟩ := one h
    exact ⟨_, hk _ _ (e0.bs _ _ bcc).1, rfl⟩
  · obtain ⟨rfl, rfl⟩ := one h
    exact (e0.bs _ _ bcc).2
  · show (vs.map some ++ List.replicate (N.length - vs.length) none).length = N.length
    rw [List.length_append, List.length_map, List.length_replicate]; omega

theorem ex_O {C t : Addr} : excObj C t none .none = ({ cls := .ref C, dict := none, data := .fields #[.ref t, .none, .none, .none, .bool false, .none] } : Obj) := rfl

/-- the method-wrapper called: the args are laid anew, nothing of it is told -/
theorem sup_call {X : Cx} {pins : List (Addr × Obj)} {σ : L2.St} {H : Hp} {s : Shared} {a u C : Addr} {us : List Value} {Q : Value → Shared → Prop} {A : Around} {E : Value → Shared → Prop} (T : OexC X.K C) (I : Inv X pins σ H s) (e : H a = some (exo a C none)) (hu : s.heap.get? u = some (kxs_mw "ValueError.__init__" a)) (hl : us.length ≤ sizeLine)
    (h : ∀ s', Inv X pins σ H s' → Q .none s') : wpAny (model X.prog X.w) A (call (.ref u) us) Q E s := by
  obtain ⟨nm, q, N, bs, bm, sn, sub, ab, col, dd, k0, k1, k2, k3, k5, hC, hbm⟩ := T.cls
  obtain ⟨t1, ho⟩ := exo_at I.hok e
  have hCh := I.kIn _ _ hC
  obtain ⟨hp, g, d, t, os⟩ := s
  have fin : ∀ h', (∀ b o, b ≠ a → hp.get? b = some o → h'.get? b = some o) → h'.get? a = some (excObj C hp.objs.size none .none) → h'.get? hp.objs.size = some (excTup us) → Q .none ⟨h', g, d, t, os⟩ := fun h' k hx _ => by
    have J := I.write (t' := t) (x := a) (e := a) (o := exo a C none) (by rw [e]; exact True.intro) (.inl rfl) k ⟨_, hx⟩ (exo_ok hx)
    have eu : upd H a (exo a C none) = H := by
      funext b
      by_cases hb : b = a
      · rw [hb, upd_same, e]
      · rw [upd_ne hb]
    rw [eu] at J
    exact h _ J
  refine wpAny_call (codeAny_of_tree ?_)
  show wpAny _ A.in1 (callAny (.ref u) ⟨us, []⟩) _ _ _
  simp only [callAny]
  refine wpAny_bind (wpAny_load hu ?_)
  simp only [kxs_mw, show (Value.type "method-wrapper" == Value.type "method" || Value.type "method-wrapper" == Value.type "builtin_function_or_method" || Value.type "method-wrapper" == Value.type "method-wrapper") = true by decide, if_true]
  refine KFB.if_so (by decide) ?_
  refine wpAny_bind (check_bound_init F.excBase_ValueError.toExcCallFacts hCh ho rfl ?_)
  refine wpAny_bind (wpAny_pure (wpAny_pure ?_))
  refine ⟨plainId_quiet F.excBase_ValueError.init.plain _, codeAny_builtin F.excBase_ValueError.initEntry ?_⟩
  exact exc_init_tree (cls := .ref C) (t0 := t1) (dv := none) (c2 := .none) (c3 := .none) (b4 := .bool false) ho hl fin

/-- super() in a body -/
theorem sup_base {P : Program} {w : World} {K : Frag} {mg : Str → Option Value} {base : Heap} {N : List Str} {qual : Str} {scope : Scope} {f cda cc C a : Addr} {A : Around} {outer : List Env} {s0 s : Shared} {H0 H : Hp} {pins : List (Addr × Obj)} {σ : L2.St} {fd : FuncData} {ar : Arg} {body : List Stmt} {p0 p1 : Pos} {attr : Str} {whole : Sem Value}
    {oc cl ccl : Value} {od cld cdd : Option Addr} {osl csl ccs : Array (Option Value)} {vs : Array Value} {file : Str} {tf : Tok} {Q : Value → Shared → Prop} {E : Value → Shared → Prop} {N0 ps : List Str}
    (S : SupScope N0 ps scope) (T : OexC K C) (I : Inv (cxS P w K mg base N qual scope f cda cc A outer s0 H0) pins σ H s) (e : H a = some (exo a C none)) (lkf : K.lookup f = some ⟨oc, od, .func fd, osl⟩) (hp : (fd.params.posonlyargs ++ fd.params.args).head? = some ar) (hlo : scope.names.lookup ar.arg = some .local)
    (hN : N[0]? = some ar.arg) (hσ : σ[0]? = some (some (.ref a)))
    (hcode : K.lookup cda = some ⟨ccl, cdd, .fields vs, ccs⟩) (hvs : vs[2]? = some (.str file tf)) (hfile : ((P.main.file : Str) == file) = true) (hcc : K.lookup cc = some ⟨cl, cld, .cell (some (.ref C)), csl⟩) (hsub : mroIn K C (.ref C) = some true) (hns : mg "super" = none)
    (htop : (P.main.scope.names.lookup ("super" : Str)).isSome = false) (hat : (attr == ("__class__" : Str)) = false)
    (h : ∀ so h', (∀ b o, s.heap.get? b = some o → h'.get? b = some o) → h'.get? so = some (ks_superObj C a C) → Q (.ref so) { s with heap := h' }) :
    PySem.wpAt (model P w) (A.deeper (ksEnv qual scope s0.heap.objs.size f (.ref cda) cc)) (.func body (ksEnv qual scope s0.heap.objs.size f (.ref cda) cc))
      (attributeBase (.Call (.Name "super" p0) [] [] p1) attr (ksEnv qual scope s0.heap.objs.size f (.ref cda) cc) whole) Q E s := by
  have KX : K.In s.heap := I.kIn
  obtain ⟨nm, q, NN, bs, bm, sn, sub, ab, col, dd, k0, k1, k2, k3, k5, hC, hbm⟩ := T.cls
  have hCh := KX _ _ hC
  obtain ⟨t1, ho⟩ := exo_at I.hok e
  obtain ⟨m, hm, hlook⟩ := I.loc
  obtain ⟨mb, b1, b2⟩ := I.ok.mod.blt
  have hv : m ar.arg = some (.ref a) := by
    obtain ⟨u, ru, lk⟩ := hlook 0 _ _ hN hσ (.inl hlo)
    obtain rfl : u = .ref a := ru
    rcases lk with ⟨_, z⟩ | ⟨z, _⟩
    · exact z
    · have z : scope.names.lookup ar.arg = some .cell ∨ scope.names.lookup ar.arg = some .free := z
      rw [hlo] at z
      rcases z with z | z <;> cases z
  have hglob : s.heap.Ns mainGlobals mg := I.ok.mod.glob.keeps I.bk
  have hblt : s.heap.Ns builtinsNs mb := b1.keeps I.bk
  obtain ⟨hh, g, d, t, os⟩ := s
  refine ks_wpAt_super_base (env := ksEnv qual scope s0.heap.objs.size f (.ref cda) cc) S.ks S.kc hat rfl (KX _ _ lkf) rfl hp rfl (KX _ _ hcode) rfl hvs hfile htop ?_
  refine ks_loadName_global S.kind S.ks (loadGlobal_builtin (env := ksEnv qual scope s0.heap.objs.size f (.ref cda) cc) hglob hns hblt ((b2 "super" (by decide)).trans (by first | rfl | kernel_rfl)) ⟨rfl, ?_⟩)
  refine wpAny_loadName_free S.kind S.kc rfl ⟨_, KX _ _ hcc, rfl⟩ ?_
  refine wpAny_loadName_local S.kind hlo hm hv ?_
  refine ks_wpAny_isType_cls hCh rfl ⟨rfl, ?_⟩
  refine ks_wpAny_call_super hCh rfl ho rfl (fun c e => by cases e) (looks_mroIn KX hsub) (fun h' e' k => ?_)
  exact h _ _ (fun b o x => k b o x) e'

/-- THE RULE for an __init__ that begins with super().__init__(e, ..) -/
theorem fn_sup {P : Program} {w : World} {K : Frag} {mg : Str → Option Value} {base : Heap} {k : Nat} {C f : Addr} {fd : FuncData} {qual : Str} {st : Stmt} {N ps : List Str} {sp : Sp} {e : Expr} {es : List Expr} {p0 p1 p2 p3 p4 : Pos} {rest : List Stmt} {ar : Arg}
    (T : OexC K C) (F : SupK P K mg C f fd qual st) (S : SupScope N ps (defScope st)) (len : ∀ vs H Q E, sp vs H Q E → vs.length = ps.length)
    (hbd : defBody st = .Expr (.Call (.Attribute (.Call (.Name "super" p0) [] [] p1) "__init__" p2) (e :: es) [] p3) p4 :: rest)
    (har : ((defArgs st).posonlyargs ++ (defArgs st).args).head? = some ar) (hlo : (defScope st).names.lookup ar.arg = some .local) (hN : N[0]? = some ar.arg)
    (he : ∀ env, starEach (e :: es) env = (false, eval e env) :: starEach es env) (hev : ∀ env, ∃ pl : Sem Bool, eval (.Call (.Attribute (.Call (.Name "super" p0) [] [] p1) "__init__" p2) (e :: es) [] p3) env = (do
      let ov ← attributeBase (.Call (.Name "super" p0) [] [] p1) "__init__" env (eval (.Call (.Name "super" p0) [] [] p1) env)
      standAt p2.atName
      let (f, first) ← holding [ov] (getMethod ov "__init__" pl)
      callWith p3 f first (backTo p3 (starEach (e :: es) env)) []))
    (hpl : ∀ env, (backTo p3 (starEach es env)).any (·.1) = false)
    (hbody : ∀ (cda cc : Addr) (A : Around) (outer : List Env) (s : Shared) (H : Hp) (vs : List V) (Q : VK) (E : XK), sp vs H Q E →
      ∃ ta t a ws, PA (cxS P w K mg base N qual (defScope st) f cda cc A outer s H) (e :: es) ta ∧ PSs (cxS P w K mg base N qual (defScope st) f cda cc A outer s H) rest t ∧ vs = .ref a :: ws ∧ H a = some (exo a C none) ∧
        ta (L2.start N vs) H fun us H1 => us.length ≤ 1000 ∧ H1 a = some (exo a C none) ∧ t { nx := fun _ H' => Q .non H', rt := Q } (L2.start N vs) H1) :
    FnOk P w K mg base CX0 (k + 1) f fd ps sp := by
  obtain ⟨oc, od, kV, doc, pm, ct, an, cda, cc, osl, rfl, lk, hcd, ⟨ccl, cdd, vsC, ccs, file, tf, lcode, hvs, hfile⟩, cl, cld, csl, lcell⟩ := F.ex
  refine ⟨len, fun A outer s H args us vs Q E hr e0 hb r hsp => ?_⟩
  have hl := len _ _ _ _ hsp
  have KX : K.In s.heap := e0.mod.kin.keeps fun b o e => (e0.bs b o e).1
  have lim : s.heap.NoLimit := e0.mod.nolimit.keeps fun b o e => (e0.bs b o e).1
  refine ks_codeAny_call_defAt (body := .Expr (.Call (.Attribute (.Call (.Name "super" p0) [] [] p1) "__init__" p2) (e :: es) [] p3) p4 :: rest) (binds := ps.zip us) hr.depth (KX _ _ lk) rfl lim (codeRec_of KX hcd) (by show FuncBody.stmts (defBody st) = _; rw [hbd]) hb S.nocell
    (fun y hy => S.par _ (List.of_mem_zip hy).1) (fun h₁ hns hk₁ => ?_) S.co S.gen S.kind
  have I := inv_sup (t := s.toks + (ps.zip us).length) (f := f) (cda := cda) (qual := qual) (w := w) S hr.hd e0 hl r lcell hns hk₁
  obtain ⟨ta, t, a, ws, hA, hS, rfl, ea, hta⟩ := hbody cda cc A outer s H vs Q E hsp
  have hσ : (L2.start N (.ref a :: ws))[0]? = some (some (.ref a)) := rfl
  obtain ⟨pl, hev⟩ := hev (ksEnv qual (defScope st) s.heap.objs.size f (.ref cda) cc)
  refine ks_wpAt_execs_cons (ks_wpAt_Expr_any (ks_wpAt_MethodCall ?_ hev) (hi := I.quiet))
  refine sup_base S T I ea lk har hlo hN hσ lcode hvs hfile lcell F.sub F.ns F.top (by decide) fun so h' k hso => ?_
  have I1 := I.kept (t' := s.toks + (ps.zip us).length) k
  have KX1 : K.In h' := I1.kIn
  obtain ⟨nm, q, NN, bs, bm, sn, sub, ab, col, dd, k0, k1, k2, k3, k5, hC, hbm⟩ := T.cls
  obtain ⟨t1, ho⟩ := exo_at I1.hok ea
  have hI : Looks (model P w) h' (isInstance (.ref a) (.type "ValueError")) true := (show InstAt h' a _ C none from ⟨ho, rfl, rfl, trivial⟩).type.andThen (looks_subIn KX1 F.isV)
  have hcl : clsIn K C = some { name := nm, bases := bs, mro := .ref C :: bm, ns := NN, qualname := q, hasDict := true, slotNames := sn, subclasses := sub, abstract := ab, collection := col, hasDel := false } := by unfold clsIn; rw [hC] <;> rfl
  have hsup := F.sup
  unfold ks_superIn at hsup
  rw [hcl, Option.bind_some] at hsup
  have hxC : a ≠ C := fun z => by
    have h1 := KX1 _ _ hC
    have h2 := ho
    rw [z] at h2
    rw [show h'.get? C = _ from h2] at h1
    cases h1
  refine kxs_getMethod kxs_ValueError hso (looks_opaque KX1 F.opq) (l₀ := .ref C :: bm) (fun A Q E s k q => wpAny_bind ((looks_clsIn KX1 hcl) A _ E s k (wpAny_pure q))) rfl KX1 hsup hI hxC (by decide) ?_
  have I2 := I1.kept (h' := h'.push (kxs_mw "ValueError.__init__" a)) (t' := s.toks + (ps.zip us).length + 1) fun b o e => Heap.get?_push_of_some _ e
  have hu : (h'.push (kxs_mw "ValueError.__init__" a)).get? h'.objs.size = some (kxs_mw "ValueError.__init__" a) := Heap.get?_push_at rfl rfl
  have hfr : H h'.objs.size = none := I1.hok.fresh (Nat.le_refl _)
  have I3 := I2.pins_of (pins' := [(h'.objs.size, kxs_mw "ValueError.__init__" a)]) fun p hp => by
    rcases List.mem_singleton.mp hp with rfl
    exact ⟨hu, hfr, fun z => absurd I1.lt (by rw [← show h'.objs.size = _ from z]; exact Nat.lt_irrefl _), I1.nofs (Nat.le_refl _), fun v z => by cases z⟩
  refine kxs_callWith (i := "ValueError.__init__") (x := a) ?_ ?_
  · rw [he]; exact (show (false || (backTo p3 (starEach es (ksEnv qual (defScope st) s.heap.objs.size f (.ref cda) cc))).any (·.1)) = false from by rw [Bool.false_or]; exact hpl _)
  rw [he]
  refine evalArgs_plain ?_
  have hAr := hA.run p3 _ _ _ _ _ I3 hta
  rw [he] at hAr
  refine wpAny_mono hAr (fun vs1 s1 h1 => ?_) (fun _ _ z => False.elim z)
  obtain ⟨xs, H1, J, rv, hle, ea1, hrest⟩ := h1
  have pu := J.pin (h'.objs.size, kxs_mw "ValueError.__init__" a) (List.mem_append_right _ (List.mem_singleton.mpr rfl))
  refine ⟨pu.1, ?_⟩
  refine sup_call (X := cxS P w K mg base N qual (defScope st) f cda cc A outer s H) T J ea1 pu.1 (show vs1.length ≤ sizeLine by rw [← show xs.length = vs1.length from Paired.length rv, sizeLine_eq]; omega) fun s2 J2 => ?_
  refine wpAt_of_any (wpAny_mono (hS.run _ _ _ _ _ J2 hrest) (fun fl s3 h3 => ?_) fun _ _ z => False.elim z)
  have fin : ∀ {σ' : L2.St} {H' : Hp} {v : V} {u : Value}, Inv (cxS P w K mg base N qual (defScope st) f cda cc A outer s H) [(h'.objs.size, kxs_mw "ValueError.__init__" a)] σ' H' s3 → RelV v u → Q v H' → CE outer P w H s Q u s3 :=
    fun {σ' H' v u} J rv q => ⟨v, H', J.os, J.bare, J.base, J.hok, rv, q⟩
  cases fl with
  | ret u =>
    obtain ⟨v, σ', H', J, rv, q⟩ := h3
    exact fin J rv q
  | next =>
    obtain ⟨σ', H', J, q⟩ := h3
    exact fin (v := V.non) (u := Value.none) J rfl q
  | brk =>
    obtain ⟨_, _, _, q⟩ := h3
    exact q.elim
  | cont =>
    obtain ⟨_, _, _, q⟩ := h3
    exact q.elim

/-! ### an own class E(Base) with def __init__(self, x): super().__init__(f"..") ; self.f = x -/
/-- what isinstance asks of the class -/
structure IsC (K : Frag) (C : Addr) : Prop where
  cl : (clsIn K C).isSome = true
  ga : findIn K (.ref C) "__getattribute__" = some (some (.builtin "BaseException.__getattribute__"))
  gg : findIn K (.ref C) "__getattr__" = some none
  bs : subIn K (.ref C) (.type "BaseException") = some true
  ca : findIn K (.ref C) "__class__" = some (some (.builtin "object.__class__"))
  sp : specialIn K (.builtin "object.__class__") "__get__" = some (some (.builtin "getset_descriptor.__get__"))
  tk : takesIn K (.builtin "object.__class__") = some true
  ob : mroIn K C (.type "object") = some true
structure ExcAt (P : Program) (K : Frag) (mg : Str → Option Value) (x q : Str) (st : Stmt) (ps : List Str) where
  C : Addr
  a : Addr
  d : FuncData
  g : mg x = some (.ref C)
  o : OexC K C
  s : SupK P K mg C a d q st
  i : findIn K (.ref C) "__init__" = some (some (.ref a))
  t : typeIn K (.ref a) = some (.type "function")
  b : Binds K d ps []
  xf : XfC K C
  is : IsC K C
  te : exmOne K (.ref C) (.ref C) = some true
/-- an own class without an __init__ -/
structure BareAt (K : Frag) (mg : Str → Option Value) (x : Str) where
  C : Addr
  g : mg x = some (.ref C)
  k : keepIn K (.ref C) = true
  x : excIn K C [.type "ValueError", .type "Exception", .type "BaseException", .type "object"] "ValueError.__new__" = true
  b : subIn K (.ref C) (.type "BaseException") = some true
  t : typeIn K (.ref C) = some (.type "type")
  te : exmOne K (.ref C) (.ref C) = some true
/-- such an __init__ with one text field -/
def sp1 (C : Addr) (f : Str) : Sp := fun vs H Q _ => ∃ (a : Addr) (z : Str), vs = [.ref a, .str z] ∧ z.length ≤ 1000 ∧ H a = some (exo a C none) ∧ ∀ dx, H dx = none → dx ≠ a → Q .non (upd (upd H dx (exd dx [(f, .str z)])) a (exo a C (some dx)))
theorem mkO {C : Addr} {f z : Str} {H : Hp} {Q : XK} (hz : z.length ≤ 1000) (q : ∀ d, H d = none → Q (.ref C) (some d) (upd H d (.xd [(f, .str z)]))) {σ : L2.St} {ta : TA} (hta : ∀ R : List V → Hp → Prop, R [.str z] H → ta σ H R) : tMkO C (sp1 C f) [] ta σ H Q := by
  refine hta _ ⟨by show 1 ≤ 1000; decide, fun a ha => ⟨a, z, rfl, hz, upd_same, fun dx hd hne => ⟨rfl, dx, [(f, .str z)], upd_same, ?_, ?_, ?_⟩⟩⟩
  · rw [upd_ne hne, upd_same]
  · rw [upd_ne hne] at hd; exact hd
  · rw [upd_ne hne] at hd
    have e : upd (L2.del (upd (upd (upd H a (exo a C none)) dx (exd dx [(f, .str z)])) a (exo a C (some dx))) a) dx (.xd [(f, .str z)]) = upd H dx (.xd [(f, .str z)]) := by
      funext b
      by_cases hb : b = dx
      · rw [hb, upd_same, upd_same]
      · rw [upd_ne hb, upd_ne hb]
        by_cases hba : b = a
        · rw [hba, L2.del_same, ha]
        · rw [L2.del_ne hba, upd_ne hba, upd_ne hb, upd_ne hba]
    rw [e]
    exact q dx hd
/-- isinstance(e, c) of the caught exception, its dict known -/
def rIsD (K : Frag) (D a : Addr) (cls : Value) (d : Option Addr) : List V → Hp → VK → Prop := fun xs H Q => ∃ (c : V) (cv : Value) (b : Bool) (dd : Addr) (fs : List (Str × V)), xs = [.ref a, c] ∧ cls = .ref D ∧ d = some dd ∧ H dd = some (.xd fs) ∧ (∀ u, RelV c u → u = cv) ∧ kitOne K (.ref D) cv = some b ∧ Q (.bl b) H
theorem call_isD {X : Cx} {a D : Addr} {oe : Obj} {cls : Value} {d : Option Addr} {pn : List (Addr × Obj)} (T : IsC X.K D) (hz : Zc cls d oe) (hf : ∃ vs, oe.data = .fields vs) : CallR (X.suite a ((a, oe) :: pn)) (.builtin "isinstance") (rIsD X.K D a cls d) := by
  intro pins s σ H xs us Q I r h
  obtain ⟨c, cv, b, dd, fs, rfl, rfl, rfl, hd, hcv, e, q⟩ := h
  cases r with
  | cons rx rr =>
    cases rr with
    | cons rt rr =>
      cases rr
      cases rx
      obtain rfl := hcv _ rt
      have pe := (I.pin (a, oe) (List.mem_append_left _ List.mem_cons_self)).1
      obtain ⟨vs, hv⟩ := hf
      have hx : ObjOk X.prog X.w H s.heap dd (.xd fs) := I.hok dd _ hd
      obtain ⟨mA, hns, _⟩ := hx
      obtain ⟨od, ho, _⟩ := lookIn_ns hns
      have J : InstAt s.heap a oe D (some od) := ⟨pe, hz.1, by unfold notCls; rw [hv] <;> rfl, by rw [hz.2]; exact ho⟩
      exact kia_one (kitx_exc T.cl T.ga T.gg T.bs T.ca T.sp T.tk T.ob) I.kIn J e (fun z => nomatch z) fun tk => ⟨.bl b, H, I.kept (t' := tk) fun _ _ z => z, rfl, q⟩

/-- isinstance(e, c) of the caught exception, without a dict -/
def rIsN (K : Frag) (D a : Addr) (cls : Value) (d : Option Addr) : List V → Hp → VK → Prop := fun xs H Q => ∃ (c : V) (cv : Value) (b : Bool), xs = [.ref a, c] ∧ cls = .ref D ∧ d = none ∧ (∀ u, RelV c u → u = cv) ∧ kitOne K (.ref D) cv = some b ∧ Q (.bl b) H
theorem call_isN {X : Cx} {a D : Addr} {oe : Obj} {cls : Value} {d : Option Addr} {pn : List (Addr × Obj)} (T : IsC X.K D) (hz : Zc cls d oe) (hf : ∃ vs, oe.data = .fields vs) : CallR (X.suite a ((a, oe) :: pn)) (.builtin "isinstance") (rIsN X.K D a cls d) := by
  intro pins s σ H xs us Q I r h
  obtain ⟨c, cv, b, rfl, rfl, rfl, hcv, e, q⟩ := h
  cases r with
  | cons rx rr =>
    cases rr with
    | cons rt rr =>
      cases rr
      cases rx
      obtain rfl := hcv _ rt
      have pe := (I.pin (a, oe) (List.mem_append_left _ List.mem_cons_self)).1
      obtain ⟨vs, hv⟩ := hf
      have J : InstAt s.heap a oe D none := ⟨pe, hz.1, by unfold notCls; rw [hv] <;> rfl, by rw [hz.2]; trivial⟩
      exact kia_one (kitx_exc T.cl T.ga T.gg T.bs T.ca T.sp T.tk T.ob) I.kIn J e (fun z => nomatch z) fun tk => ⟨.bl b, H, I.kept (t' := tk) fun _ _ z => z, rfl, q⟩

/-! ### calls whose wish about exceptions knows the caller's slots -/
section
variable {X : Cx} {CX : CXT} {k : Nat} {f C : Addr} {fd : FuncData} {ps : List Str} {sp : Sp} {E : L2.St → XK} {x m : Str} {p pos apos : Pos} {e o : Expr} {es : List Expr} {ta : TE} {t : TA}
def tMakeS (C : Addr) (sp : Sp) (E : L2.St → XK) (t : TA) : TE := fun σ H Q => t σ H fun vs H1 => ∀ x dx, H1 x = none → H1 dx = none → dx ≠ x → sp (.ref x :: vs) (upd (upd H1 dx (.own x)) x (.ins C dx [])) (fun v H2 => v = .non ∧ Q (.ref x) H2) (E σ)
theorem makeS_run {pins : List (Addr × Obj)} {σ : L2.St} {H : Hp} {s : Shared} {Q : VK} {us : List Value} {vs : List V} (M : Mk X.K C f) (F : FnOk X.prog X.w X.K X.mg X.base CX k f fd ps sp) (hr : Room (k + 1) X.A) (hb : Binds X.K fd ps []) (hx : PassesAt CX X σ (E σ)) (I : Inv X pins σ H s) (r : Vals vs us)
    (h : ∀ x dx, H x = none → H dx = none → dx ≠ x → sp (.ref x :: vs) (upd (upd H dx (.own x)) x (.ins C dx [])) (fun v H2 => v = .non ∧ Q (.ref x) H2) (E σ)) : wpAny (model X.prog X.w) X.A (call (.ref C) us) (EP X pins σ Q) X.xe s := by
  generalize hn : s.heap.objs.size = n
  have q0 := h (n + 1) n (I.hok.fresh (by omega)) (I.hok.fresh (by omega)) (by show ¬ (n : Nat) = n + 1; omega)
  subst hn
  have J := Inv.made (C := C) I
  have rv : Vals (V.ref (s.heap.objs.size + 1) :: vs) (Value.ref (s.heap.objs.size + 1) :: us) := .cons (show RelV (V.ref (s.heap.objs.size + 1)) (Value.ref (s.heap.objs.size + 1)) from rfl) r
  have hl := (Paired.length rv).symm.trans (F.len _ _ _ _ q0)
  have bd := hb _ (Value.ref (s.heap.objs.size + 1) :: us) J.kIn (by rw [List.append_nil]; exact hl)
  rw [List.append_nil] at bd
  refine wpAny_call (make_map (f := f) I.kIn M.makes M.init (beq_iff_eq.mp M.fn) ?_)
  refine codeAny_mono (F.run _ X.stack _ _ _ _ _ _ (E σ) (hr.make C us []) (J.env0.make C us []) bd rv q0) fun res s' hq => ?_
  match res, hq with
  | .error e, hq => exact hx pins _ _ e s' J hq
  | .ok (.ret u), hq =>
    obtain ⟨v, H', I3, rv, ev, q3⟩ := J.after hq
    subst ev
    exact ⟨rv, V.ref (s.heap.objs.size + 1), H', I3, rfl, q3⟩
  | .ok .next, hq => exact hq.elim
  | .ok .brk, hq => exact hq.elim
  | .ok .cont, hq => exact hq.elim
theorem pe_makeS (M : Mk X.K C f) (F : FnOk X.prog X.w X.K X.mg X.base CX k f fd ps sp) (hr : Room (k + 1) X.A) (hg : Gl X x) (hm : X.mg x = some (.ref C)) (hb : Binds X.K fd ps []) (hx : ∀ σ, PassesAt CX X σ (E σ)) (ha : PA X (e :: es) t)
    (hdb : (x == ("__debug__" : Str)) = false := by decide) (he : starEach (e :: es) X.env = (false, eval e X.env) :: starEach es X.env := by rfl) (hpl : (backTo pos (starEach es X.env)).any (·.1) = false := by rfl) : PE X (.Call (.Name x p) (e :: es) [] pos) (tMakeS C sp E t) :=
  ⟨fun pins s σ H Q I h => wpAny_Call_Name_kw (ld_glob I hg hm (callWith_K (h₀ := X.base) I.ok.mod.kin M.kp (thn (ha.run pos pins s σ H _ I h) fun us s1 ⟨vs, H1, I1, r, q⟩ => ⟨I1.kIn, makeS_run M F hr hb (hx σ) I1 r q⟩) he hpl) hdb)⟩
def tMethS (C : Addr) (m : Str) (sp : Sp) (E : L2.St → XK) (ta : TE) (t : TA) : TE := fun σ H Q => ta σ H fun x H1 => ∃ a dx fs, x = .ref a ∧ H1 a = some (.ins C dx fs) ∧ fs.lookup m = none ∧ t σ H1 fun vs H2 => sp (x :: vs) H2 Q (E σ)
theorem pe_methS {pl : Sem Bool} (he : PE X o ta) (c : Cls X.K C) (hm : Meth X.K C m f) (F : FnOk X.prog X.w X.K X.mg X.base CX k f fd ps sp) (hr : Room k X.A) (hb : Binds X.K fd ps []) (hx : ∀ σ, PassesAt CX X σ (E σ)) (ha : PA X (e :: es) t)
    (hst : starEach (e :: es) X.env = (false, eval e X.env) :: starEach es X.env := by rfl) (hpl : (backTo pos (starEach es X.env)).any (·.1) = false := by rfl)
    (ht : eval (.Call (.Attribute o m apos) (e :: es) [] pos) X.env = (eval o X.env >>= fun ov => standAt apos.atName >>= fun _ => holding [ov] (getMethod ov m pl) >>= fun z => callWith pos z.1 z.2 (backTo pos (starEach (e :: es) X.env)) (backToKw pos (keywordEach [] X.env))) := by rfl) :
    PE X (.Call (.Attribute o m apos) (e :: es) [] pos) (tMethS C m sp E ta t) := by
  refine ⟨fun pins s σ H Q I h => methodCall_KW (pl := pl) (thn (he.run pins s σ H _ I h) fun u s1 ⟨x, H1, I1, rx, a, dx, fs, ex, ea, l, q⟩ => ?_) ht⟩
  subst ex
  obtain rfl : u = Value.ref a := rx
  exact getmeth_ok I1 ea c hm l (callWith_K (first := [.ref a]) (h₀ := X.base) I.ok.mod.kin hm.kp (thn (ha.run pos pins s1 σ H1 _ I1 q) fun us s2 ⟨vs, H2, I2, r, q2⟩ => ⟨I2.kIn, run_fnS (us := .ref a :: us) (vs := .ref a :: vs) F hr hb (hx σ) I2 (.cons rfl r) q2⟩) hst hpl)
theorem pe_methS0 {pl : Sem Bool} (he : PE X o ta) (c : Cls X.K C) (hm : Meth X.K C m f) (F : FnOk X.prog X.w X.K X.mg X.base CX k f fd ps sp) (hr : Room k X.A) (hb : Binds X.K fd ps []) (hx : ∀ σ, PassesAt CX X σ (E σ))
    (ht : eval (.Call (.Attribute o m apos) [] [] pos) X.env = (eval o X.env >>= fun ov => standAt apos.atName >>= fun _ => holding [ov] (getMethod ov m pl) >>= fun z => callWith pos z.1 z.2 (backTo pos (starEach [] X.env)) (backToKw pos (keywordEach [] X.env))) := by rfl) :
    PE X (.Call (.Attribute o m apos) [] [] pos) (tMethS C m sp E ta tNil) := by
  refine ⟨fun pins s σ H Q I h => methodCall_KW (pl := pl) (thn (he.run pins s σ H _ I h) fun u s1 ⟨x, H1, I1, rx, a, dx, fs, ex, ea, l, q⟩ => ?_) ht⟩
  subst ex
  obtain rfl : u = Value.ref a := rx
  exact getmeth_ok I1 ea c hm l (PySem.W.callWith_K0 (first := [.ref a]) I1.kIn hm.kp (run_fnS (us := [.ref a]) (vs := [.ref a]) F hr hb (hx σ) I1 (.cons rfl .nil) q))
end
/-- an error with this name is raised, whatever was made before -/
def Err (C : Addr) (H : Hp) (z : Str) (E : XK) : Prop := ∀ (H' : Hp) (d : Addr), Same H H' → H' d = none → E (.ref C) (some d) (upd H' d (.xd [("name", .str z)]))
theorem Err.mono {C : Addr} {H H1 : Hp} {z : Str} {E : XK} (h : Err C H z E) (s : Same H H1) : Err C H1 z E := fun H' d s2 hd => h H' d (s.trans s2) hd
theorem Err.now {C : Addr} {H : Hp} {z : Str} {E : XK} (h : Err C H z E) : ∀ d, H d = none → E (.ref C) (some d) (upd H d (.xd [("name", .str z)])) := fun d hd => h H d (Same.refl H) hd
/-- an error without a field is raised -/
def ErrB (C : Addr) (H : Hp) (E : XK) : Prop := ∀ H', Same H H' → E (.ref C) none H'
theorem ErrB.mono {C : Addr} {H H1 : Hp} {E : XK} (h : ErrB C H E) (s : Same H H1) : ErrB C H1 E := fun H' s2 => h H' (s.trans s2)
/-- the first number out of its bounds -/
def kindBad (w h d c : Int) : Option Str := if ¬ (1 ≤ w ∧ w ≤ 64) then some "width" else if ¬ (1 ≤ h ∧ h ≤ 64) then some "height" else if ¬ (1 ≤ d ∧ d ≤ 8) then some "depth" else if ¬ (c = 1 ∨ c = 3) then some "channels" else none
def frameBad (w h d c t : Int) : Option Str := match kindBad w h d c with
  | some z => some z
  | none => if ¬ (1 ≤ t ∧ t ≤ 16) then some "tile" else if w * h * c > 3072 then some "size" else none
theorem kindBad_none {w h d c : Int} : kindBad w h d c = none ↔ (1 ≤ w ∧ w ≤ 64) ∧ (1 ≤ h ∧ h ≤ 64) ∧ (1 ≤ d ∧ d ≤ 8) ∧ (c = 1 ∨ c = 3) := by
  unfold kindBad
  by_cases h1 : 1 ≤ w ∧ w ≤ 64 <;> by_cases h2 : 1 ≤ h ∧ h ≤ 64 <;> by_cases h3 : 1 ≤ d ∧ d ≤ 8 <;> by_cases h4 : c = 1 ∨ c = 3 <;> simp [h1, h2, h3, h4]
theorem frameBad_none {w h d c t : Int} : frameBad w h d c t = none ↔ (1 ≤ w ∧ w ≤ 64) ∧ (1 ≤ h ∧ h ≤ 64) ∧ (1 ≤ d ∧ d ≤ 8) ∧ (c = 1 ∨ c = 3) ∧ (1 ≤ t ∧ t ≤ 16) ∧ w * h * c ≤ 3072 := by
  unfold frameBad
  cases e : kindBad w h d c with
  | some z =>
    constructor
    · intro h; cases h
    · rintro ⟨a, b, c', d', _⟩
      rw [kindBad_none.mpr ⟨a, b, c', d'⟩] at e; cases e
  | none =>
    obtain ⟨a, b, c', d'⟩ := kindBad_none.mp e
    by_cases h5 : 1 ≤ t ∧ t ≤ 16 <;> by_cases h6 : w * h * c > 3072 <;> simp [a, b, c', d', h5, h6] <;> omega
theorem frameBad_ne {w h d c t : Int} {z : Str} (e : frameBad w h d c t = some z) : z ≠ "" ∧ z.length ≤ 100 := by
  have key : z = "width" ∨ z = "height" ∨ z = "depth" ∨ z = "channels" ∨ z = "tile" ∨ z = "size" := by
    unfold frameBad kindBad at e
    by_cases h1 : 1 ≤ w ∧ w ≤ 64 <;> by_cases h2 : 1 ≤ h ∧ h ≤ 64 <;> by_cases h3 : 1 ≤ d ∧ d ≤ 8 <;> by_cases h4 : c = 1 ∨ c = 3 <;> by_cases h5 : 1 ≤ t ∧ t ≤ 16 <;> by_cases h6 : w * h * c > 3072 <;> simp [h1, h2, h3, h4, h5, h6] at e <;> simp [← e]
  rcases key with e | e | e | e | e | e <;> subst e <;> exact ⟨by decide +kernel, by decide +kernel⟩
/-- the first part of a key, of a channel and a pixel, that is out of its bounds -/
def keyBad (c n d : Nat) (ch ti pl : Int) : Option Str := if ¬ (0 ≤ ch ∧ ch ≤ (c : Int) - 1) then some "channel" else if ¬ (0 ≤ ti ∧ ti ≤ (n : Int) - 1) then some "tile" else if ¬ (0 ≤ pl ∧ pl ≤ (d : Int) - 1) then some "plane" else none
def pixBad (c n : Nat) (ch px : Int) : Option Str := if ¬ (0 ≤ ch ∧ ch ≤ (c : Int) - 1) then some "channel" else if ¬ (0 ≤ px ∧ px ≤ (n : Int) - 1) then some "pixel" else none
theorem kit_self (K : Frag) (v : Value) : kitOne K v v = some true := by unfold kitOne; rw [if_pos (by simp)]
/-! ### steps of a reading -/
section
variable {K : Frag} {σ : L2.St} {H : Hp} {Q : VK} {D : Ends} {ta te : TE} {t : TA} {sp : Sp} {E : L2.St → XK} {C a : Addr} {m f : Str} {cls : Value} {d : Option Addr} {v : V}
def CS (sp : Sp) (vs : List V) (H : Hp) (Q : VK) (E : XK) : Prop := sp vs H Q E
theorem callS (q : t σ H fun vs H1 => CS sp vs H1 Q (E σ)) : tCallS sp E t σ H Q := q
def MkS (C : Addr) (sp : Sp) (vs : List V) (H : Hp) (Q : VK) (E : XK) : Prop := ∀ x dx, H x = none → H dx = none → dx ≠ x → CS sp (.ref x :: vs) (upd (upd H dx (.own x)) x (.ins C dx [])) (fun v H2 => v = .non ∧ Q (.ref x) H2) E
theorem makeS (q : t σ H fun vs H1 => MkS C sp vs H1 Q (E σ)) : tMakeS C sp E t σ H Q := q
def MtS (C : Addr) (m : Str) (sp : Sp) (E : L2.St → XK) (t : TA) (σ : L2.St) (x : V) (H : Hp) (Q : VK) : Prop := ∃ a dx fs, x = .ref a ∧ H a = some (.ins C dx fs) ∧ fs.lookup m = none ∧ t σ H fun vs H2 => sp (x :: vs) H2 Q (E σ)
theorem methS (q : ta σ H fun x H1 => MtS C m sp E t σ x H1 Q) : tMethS C m sp E ta t σ H Q := q
theorem mts {dx : Addr} {fs : List (Str × V)} (h : H a = some (.ins C dx fs)) (n : fs.lookup m = none) (q : t σ H fun vs H2 => CS sp (.ref a :: vs) H2 Q (E σ)) : MtS C m sp E t σ (.ref a) H Q := ⟨a, dx, fs, rfl, h, n, q⟩
def XfP (a : Addr) (cls : Value) (d : Option Addr) (C : Addr) (f : Str) (x : V) (H : Hp) (Q : VK) : Prop := x = .ref a ∧ cls = .ref C ∧ ∃ (dd : Addr) (fs : List (Str × V)) (v : V), d = some dd ∧ H dd = some (.xd fs) ∧ fs.lookup f = some v ∧ Q v H
theorem xf (q : te σ H fun x H1 => XfP a cls d C f x H1 Q) : tXf a cls d C f te σ H Q := q
theorem xfp {dd : Addr} (h : H dd = some (.xd [(f, v)])) (q : Q v H) : XfP a (.ref C) (some dd) C f (.ref a) H Q := ⟨rfl, rfl, dd, _, v, rfl, h, by simp [List.lookup], q⟩
theorem isD {dd : Addr} {fs : List (Str × V)} {D2 : V} {cv : Value} {b : Bool} (h : H dd = some (.xd fs)) (r : ∀ u, RelV D2 u → u = cv) (k : kitOne K (.ref C) cv = some b) (q : Q (.bl b) H) : rIsD K C a (.ref C) (some dd) [.ref a, D2] H Q := ⟨D2, cv, b, dd, fs, rfl, rfl, rfl, h, r, k, q⟩
theorem isR {dd c : Addr} {fs : List (Str × V)} {b : Bool} (h : H dd = some (.xd fs)) (k : kitOne K (.ref C) (.ref c) = some b) (q : Q (.bl b) H) : rIsD K C a (.ref C) (some dd) [.ref a, .ref c] H Q := isD h (fun u e => e) k q
theorem isT {dd : Addr} {n : String} {fs : List (Str × V)} {b : Bool} (h : H dd = some (.xd fs)) (k : kitOne K (.ref C) (.type n) = some b) (q : Q (.bl b) H) : rIsD K C a (.ref C) (some dd) [.ref a, .ty n] H Q := isD h (fun u e => e) k q
theorem isNR {c : Addr} {b : Bool} (k : kitOne K (.ref C) (.ref c) = some b) (q : Q (.bl b) H) : rIsN K C a (.ref C) none [.ref a, .ref c] H Q := ⟨.ref c, .ref c, b, rfl, rfl, rfl, fun u e => e, k, q⟩
theorem isNT {n : String} {b : Bool} (k : kitOne K (.ref C) (.type n) = some b) (q : Q (.bl b) H) : rIsN K C a (.ref C) none [.ref a, .ty n] H Q := ⟨.ty n, .type n, b, rfl, rfl, rfl, fun u e => e, k, q⟩
/-- the except clause takes it -/
theorem took {c : Value} {i : Nat} {ts : Addr → Value → Option Addr → TS} {Wout : WX} {H' : Hp} (h : exmOne K cls c = some true) (q : ∀ a, H' a = none → ts a cls d { nx := fun σ' H' => D.nx (σ'.set i none) H', rt := D.rt, bk := fun σ' H' => D.bk (σ'.set i none) H', ct := fun σ' H' => D.ct (σ'.set i none) H' } (σ.set i (some (.ref a))) H') : WE (wAs K c i ts Wout D) σ cls d H' :=
  ⟨true, h, fun _ => q, fun z => Bool.noConfusion z⟩
end
end Sx
local macro_rules | `(tactic| walk_at "go1") => `(tactic| (first
  | with_reducible refine Sx.callS ?_
  | with_reducible refine Sx.makeS ?_
  | with_reducible refine Sx.methS ?_
  | with_reducible refine Sx.xf ?_))

/-! The frame: a call sees a part R of what is tracked; the part S beside it stays as it is. -/
namespace Fx
open PySem L2
/-- what may stand beside: lists, dicts, sets, instances with their own dicts -/
def Fit (S : Hp) (a : Addr) : HO → Prop
  | .lst _ => True
  | .dK _ => True
  | .dT _ => True
  | .set _ _ => True
  | .own y => ∃ C fs, S y = some (.ins C a fs)
  | .ins _ dx _ => S dx = some (.own a)
  | _ => False
structure Own (R H S : Hp) : Prop where
  eq : ∀ a, H a = match S a with | some o => some o | none => R a
  dj : ∀ a o, S a = some o → R a = none
  ft : ∀ a o, S a = some o → Fit S a o
section
variable {R H S R' : Hp} {a b : Addr} {o u : HO}
theorem Own.at (O : Own R H S) (h : S a = some o) : H a = some o := by rw [O.eq, h]
theorem Own.off (O : Own R H S) (h : S a = none) : H a = R a := by rw [O.eq, h]
theorem Own.nos (O : Own R H S) (h : R a = some o) : S a = none := by
  cases e : S a with
  | none => rfl
  | some u => rw [O.dj a u e] at h; cases h
theorem Own.same (O : Own R H S) : Same R H := fun a o h => by rw [O.off (O.nos h)]; exact h
theorem Own.non (O : Own R H S) (h : H a = none) : R a = none ∧ S a = none := by
  have := O.eq a
  cases e : S a with
  | none => rw [e] at this; exact ⟨this.symm.trans h, rfl⟩
  | some u => rw [e] at this; rw [this] at h; cases h
theorem Own.tup {xs : List V} (O : Own R H S) (h : H a = some (.tup xs)) : R a = some (.tup xs) := by
  cases e : S a with
  | none => rw [← O.off e]; exact h
  | some u =>
    rw [O.at e] at h
    cases h
    exact (O.ft a _ e).elim
theorem Own.frz {ob : Obj} {w : HO} (O : Own R H S) (h : H a = some (.frz ob w)) : R a = some (.frz ob w) := by
  cases e : S a with
  | none => rw [← O.off e]; exact h
  | some u =>
    rw [O.at e] at h
    cases h
    exact (O.ft a _ e).elim
theorem Own.tbl {ps} (O : Own R H S) (h : H a = some (.tbl ps)) : R a = some (.tbl ps) := by
  cases e : S a with
  | none => rw [← O.off e]; exact h
  | some u =>
    rw [O.at e] at h
    cases h
    exact (O.ft a _ e).elim
def over (R S : Hp) : Hp := fun a => match S a with | some o => some o | none => R a
theorem over_own (dj : ∀ a o, S a = some o → R a = none) (ft : ∀ a o, S a = some o → Fit S a o) : Own R (over R S) S := ⟨fun _ => rfl, dj, ft⟩
theorem Own.eq_over (O : Own R H S) : H = over R S := funext O.eq
end
section
variable {P : Program} {w : World} {R H S R' : Hp} {h h' : Heap}
theorem down (O : Own R H S) (x : HOk P w H h) : HOk P w R h := fun a o e => by
  refine (x a o (O.same a o e)).stay (fun _ _ _ q => q) (fun b q => ?_) (fun _ _ q => O.tup q)
  cases es : S b with
  | none => rw [← O.off es]; exact q
  | some u =>
    have q2 := (O.at es).symm.trans q
    cases q2
    obtain ⟨C, fs, z⟩ := O.ft b _ es
    rw [O.dj a _ z] at e; cases e
theorem there {a : Addr} {o : HO} (x : ObjOk P w H h a o) (f : Fit S a o) : ∃ ob, h.get? a = some ob := by
  cases o with
  | lst xs => obtain ⟨z, its, n, r, q⟩ := x; exact ⟨_, q⟩
  | dK kvs => obtain ⟨z, y, vs, r, ob, es, ep, q, c⟩ := x; exact ⟨_, q⟩
  | set _ _ => obtain ⟨ob, es, ep, t, q, c⟩ := x; exact ⟨_, q⟩
  | dT kvs => obtain ⟨z, y, xs, r, ob, es, ep, q, c⟩ := x; exact ⟨_, q⟩
  | own y => exact x
  | ins C dx fs => obtain ⟨d, z, ne, q, r⟩ := x; exact ⟨_, q⟩
  | tup _ => exact f.elim
  | xd _ => exact f.elim
  | rng _ _ => exact f.elim
  | frz _ _ => exact f.elim
  | tbl _ => exact f.elim
  | met _ _ => exact f.elim
  | ext _ => exact f.elim
theorem stays (O : Own R H S) (O' : Own R' (over R' S) S) (kp : ∀ b u, h.get? b = some u → R b = none → S b ≠ none → h'.get? b = some u) (tp : ∀ b xs, R b = some (.tup xs) → R' b = some (.tup xs)) {a : Addr} {o : HO} (e : S a = some o) (x : ObjOk P w H h a o) : ObjOk P w (over R' S) h' a o := by
  have ka : ∀ u, h.get? a = some u → h'.get? a = some u := fun u q => kp a u q (O.dj a o e) (by rw [e]; exact fun z => nomatch z)
  have fit := O.ft a o e
  cases o with
  | lst xs => obtain ⟨z, its, n, r, q⟩ := x; exact ⟨z, its, n, r, ka _ q⟩
  | dK kvs => obtain ⟨z, y, vs, r, ob, es, ep, q, c⟩ := x; exact ⟨z, y, vs, r, ob, es, ep, ka _ q, c⟩
  | set _ _ => obtain ⟨ob, es, ep, t, q, c⟩ := x; exact ⟨ob, es, ep, t, ka _ q, c⟩
  | dT kvs =>
    obtain ⟨z, y, xs, r, ob, es, ep, q, c⟩ := x
    exact ⟨z, y, xs, Paired.mapP r fun p q z => ⟨z.1, O'.same _ _ (tp _ _ (O.tup z.2.1)), z.2.2⟩, ob, es, ep, ka _ q, c⟩
  | own y => obtain ⟨ob, q⟩ := x; exact ⟨ob, ka _ q⟩
  | ins C dx fs =>
    obtain ⟨d, z, ne, q, mA, ⟨od, es, ep, e2, c⟩, r⟩ := x
    have f : S dx = some (.own a) := fit
    exact ⟨O'.at f, z, ne, ka _ q, mA, ⟨od, es, ep, kp dx od e2 (O.dj dx _ f) (by rw [f]; exact fun z => nomatch z), c⟩, r⟩
  | tup _ => exact fit.elim
  | xd _ => exact fit.elim
  | rng _ _ => exact fit.elim
  | frz _ _ => exact fit.elim
  | tbl _ => exact fit.elim
  | met _ _ => exact fit.elim
  | ext _ => exact fit.elim
theorem up (O' : Own R' (over R' S) S) (x : HOk P w R' h') (st : ∀ a o, S a = some o → ObjOk P w (over R' S) h' a o) : HOk P w (over R' S) h' := fun a o e => by
  cases es : S a with
  | some u => rw [O'.at es] at e; cases e; exact st a _ es
  | none =>
    rw [O'.off es] at e
    exact (x a o e).stay (fun _ _ _ q => q) (fun b q => O'.same _ _ q) (fun b xs q => O'.same _ _ q)
end
def fr (sp : Sp) : Sp := fun vs H Q E => ∃ R S, Own R H S ∧ sp vs R (fun v R' => ∀ H', Own R' H' S → Q v H') (fun c d R' => ∀ H', Own R' H' S → E c d H')
section
variable {P : Program} {w : World} {K : PySem.W.Frag} {mg : Str → Option Value} {base : Heap} {k : Nat} {f : Addr} {fd : FuncData} {ps : List Str} {sp : Sp}
theorem env (O : Own R H S) {A : Around} {outer : List Env} {s : Shared} (e : Env0 P w K mg base A outer s H) : Env0 P w K mg base A outer s R :=
  ⟨e.frames, e.mod, fun b o q => ⟨(e.bs b o q).1, (O.non (e.bs b o q).2).1⟩, e.bsz, e.funs, fun b q => (O.non (e.frf b q)).1, down O e.hok, e.bare⟩
theorem nofs {O : Own R H S} {A : Around} {outer : List Env} {s : Shared} (e : Env0 P w K mg base A outer s H) {b : Addr} (h : S b ≠ none) : b ∉ frs outer := fun q => by
  have := (O.non (e.frf b q)).2
  exact h this
theorem ce {O : Own R H S} {A : Around} {outer : List Env} {s s' : Shared} {Q : VK} {u : Value} (e : Env0 P w K mg base A outer s H) (c : CE outer P w R s (fun v R' => ∀ H', Own R' H' S → Q v H') u s') : CE outer P w H s Q u s' := by
  obtain ⟨v, R', h1, h2, un, hok, rv, q⟩ := c
  have dj : ∀ a o, S a = some o → R' a = none := fun a o ea => by
    obtain ⟨ob, hob⟩ := there (e.hok a o (O.at ea)) (O.ft a o ea)
    exact un.free a ob hob (O.dj a o ea) (fun z => nomatch z)
  have O' := over_own dj O.ft
  refine ⟨v, over R' S, h1, h2, ⟨fun b o q n nf nx => un.keep b o q (O.non n).1 nf nx, fun b o q n nf nx => un.slot b o q (O.non n).1 nf nx, fun b o q n nx => ?_, un.there, fun b xs q => O'.same _ _ (un.tups b xs (O.tup q)), fun b o xs q => O'.same _ _ (un.frzs b o xs (O.frz q)), fun b ps q => ?_⟩, up O' hok fun a o ea => ?_, rv, q _ O'⟩
  · rw [O'.off (O.non n).2]; exact un.free b o q (O.non n).1 nx
  · obtain ⟨more, z⟩ := un.tbls b ps (O.tbl q)
    exact ⟨more, O'.same _ _ z⟩
  · exact stays O O' (fun b u q n nn => un.keep b u q n (nofs (O := O) e nn) (fun z => nomatch z)) un.tups ea (e.hok a o (O.at ea))
theorem cx {O : Own R H S} {A : Around} {outer : List Env} {s s' : Shared} {E : XK} {u : Value} (e : Env0 P w K mg base A outer s H) (c : L2.CX P w outer R s (fun c d R' => ∀ H', Own R' H' S → E c d H') u s') : L2.CX P w outer H s E u s' := by
  obtain ⟨a, B, R', cls, d, rfl, fl, hok, ub, na, h1, h2, q⟩ := c
  have kp : ∀ b o, s.heap.get? b = some o → R b = none → S b ≠ none → B.get? b = some o := fun b o q n nn => ub.keep b o q n (nofs (O := O) e nn)
  have thr : ∀ a o, S a = some o → ∃ ob, s.heap.get? a = some ob := fun a o ea => there (e.hok a o (O.at ea)) (O.ft a o ea)
  have dj : ∀ a o, S a = some o → R' a = none := fun a o ea => by
    obtain ⟨ob, hob⟩ := thr a o ea
    exact ub.free a ob hob (O.dj a o ea)
  have O' := over_own dj O.ft
  refine ⟨a, B, over R' S, cls, d, rfl, fl, up O' hok fun b o eb => ?_, ⟨fun b o q n nf => ub.keep b o q (O.non n).1 nf, ub.slot, fun b o q n => ?_, ub.there, fun b xs q => O'.same _ _ (ub.tups b xs (O.tup q)), fun b o xs q => O'.same _ _ (ub.frzs b o xs (O.frz q)), fun b ps q => ?_⟩, ?_, h1, h2, q _ O'⟩
  · exact stays O O' kp ub.tups eb (e.hok b o (O.at eb))
  · rw [O'.off (O.non n).2]; exact ub.free b o q (O.non n).1
  · obtain ⟨more, z⟩ := ub.tbls b ps (O.tbl q)
    exact ⟨more, O'.same _ _ z⟩
  · cases es : S a with
    | none => rw [O'.off es]; exact na
    | some o =>
      obtain ⟨ob, hob⟩ := thr a o es
      have := kp a ob hob (O.dj a o es) (by rw [es]; exact fun z => nomatch z)
      rw [fl.2.1] at this; cases this
theorem frame0 (F : FnOk P w K mg base CX0 k f fd ps sp) : FnOk P w K mg base CX0 k f fd ps (fr sp) := by
  refine ⟨fun vs H Q E ⟨R, S, O, h⟩ => F.len _ _ _ _ h, fun A outer s H args us vs Q E hr e bt rv ⟨R, S, O, h⟩ => ?_⟩
  refine codeAny_mono (F.run A outer s R args us vs _ _ hr (env O e) bt rv h) fun r s' c => ?_
  match r, c with
  | .ok (.ret u), c => exact ce (O := O) e c
  | .ok .next, c => exact c
  | .ok .brk, c => exact c
  | .ok .cont, c => exact c
  | .error er, c => exact c
theorem frameX (F : FnOk P w K mg base (L2.CX P w) k f fd ps sp) : FnOk P w K mg base (L2.CX P w) k f fd ps (fr sp) := by
  refine ⟨fun vs H Q E ⟨R, S, O, h⟩ => F.len _ _ _ _ h, fun A outer s H args us vs Q E hr e bt rv ⟨R, S, O, h⟩ => ?_⟩
  refine codeAny_mono (F.run A outer s R args us vs _ _ hr (env O e) bt rv h) fun r s' c => ?_
  match r, c with
  | .ok (.ret u), c => exact ce (O := O) e c
  | .ok .next, c => exact c
  | .ok .brk, c => exact c
  | .ok .cont, c => exact c
  | .error er, c => exact cx (O := O) e c
end
end Fx
/-! Steps with a part beside. -/
namespace Nx
open PySem L2 Fx
def e0 : Hp := fun _ => none
def one (b : Addr) (o : HO) : Hp := fun a => if a = b then some o else none
section
variable {K : PySem.W.Frag} {R H S R0 R1 R2 S1 S2 H1 H2 H3 : Hp} {a b p l : Addr} {o u : HO} {xs ys : List V} {σ : L2.St} {Q : VK} {E : XK} {sp : Sp} {vs dvs : List V} {v : V}
theorem one_at : one b o b = some o := if_pos rfl
theorem one_ne (h : a ≠ b) : one b o a = none := if_neg h
theorem one_some {x : HO} (h : one b o a = some x) : a = b ∧ x = o := by
  unfold one at h
  by_cases e : a = b
  · rw [if_pos e] at h; exact ⟨e, (Option.some.inj h).symm⟩
  · rw [if_neg e] at h; cases h
theorem own0 : Own H H e0 := ⟨fun _ => rfl, (fun a o e => nomatch e), fun a o e => nomatch e⟩
theorem own0_eq (O : Own R H e0) : H = R := funext fun a => by rw [O.eq]; rfl
theorem at1 (O : Own R H (one b o)) : H b = some o := O.at one_at
theorem at1' (O : Own R H (one b o)) : H b = some o := O.at one_at
theorem no1 (O : Own R H (one b o)) : R b = none := O.dj b o one_at
theorem off1 (O : Own R H (one b o)) (h : a ≠ b) : H a = R a := O.off (one_ne h)
theorem mk1 (h : R b = none) (f : Fit (one b o) b o) (e : H b = some o) (k : ∀ a, a ≠ b → H a = R a) : Own R H (one b o) := ⟨fun a => by
    by_cases c : a = b
    · rw [c, one_at]; exact e
    · rw [one_ne c]; exact k a c, fun a x q => by obtain ⟨c, _⟩ := one_some q; rw [c]; exact h, fun a x q => by obtain ⟨c, d⟩ := one_some q; subst c; subst d; exact f⟩
theorem top1 (h : H p = none) : Own H (upd H p (.lst xs)) (one p (.lst xs)) := mk1 h trivial upd_same fun _ c => upd_ne c
theorem put1 (O : Own R H (one b (.lst xs))) : Own R (upd H b (.lst ys)) (one b (.lst ys)) := mk1 (no1 O) trivial upd_same fun _ c => (upd_ne c).trans (off1 O c)
/-- a new object is laid below -/
theorem new (O : Own R H S) (h : H p = none) : Own (upd R p o) (upd H p o) S := ⟨fun a => by
    by_cases c : a = p
    · rw [c, upd_same, (O.non h).2, upd_same]
    · rw [upd_ne c, O.eq, upd_ne c], (fun a x q => by
      by_cases c : a = p
      · rw [c, (O.non h).2] at q; cases q
      · rw [upd_ne c]; exact O.dj a x q), O.ft⟩
/-- two parts beside as one -/
theorem nest (O : Own R H S) (O2 : Own R2 R S2) : Own R2 H (over S2 S) := ⟨fun a => by
    unfold over
    cases e : S a with
    | some x => exact O.at e
    | none => rw [O.off e]; exact O2.eq a, fun a x q => by
      unfold over at q
      cases e : S a with
      | some y => exact (O2.non (O.dj a y e)).1
      | none => rw [e] at q; exact O2.dj a x q, fun a x q => by
      have up : ∀ b y, S2 b = some y → over S2 S b = some y := fun b y z => by
        unfold over; rw [O.nos (O2.at z)]; exact z
      have up2 : ∀ b y, S b = some y → over S2 S b = some y := fun b y z => by unfold over; rw [z]
      have key : Fit S a x ∨ Fit S2 a x := by
        unfold over at q
        cases e : S a with
        | some y => rw [e] at q; cases q; exact .inl (O.ft a _ e)
        | none => rw [e] at q; exact .inr (O2.ft a _ q)
      cases x with
      | ins C dx fs =>
        rcases key with z | z
        · exact up2 _ _ z
        · exact up _ _ z
      | own y =>
        rcases key with ⟨C, fs, z⟩ | ⟨C, fs, z⟩
        · exact ⟨C, fs, up2 _ _ z⟩
        · exact ⟨C, fs, up _ _ z⟩
      | _ => rcases key with z | z <;> exact z⟩
theorem split (O : Own R H S) (O2 : Own R2 R S2) {R2' H' : Hp} (N : Own R2' H' (over S2 S)) : Own R2' (over R2' S2) S2 ∧ Own (over R2' S2) H' S := by
  have dj2 : ∀ a o, S2 a = some o → R2' a = none := fun a o e => N.dj a o (by unfold over; rw [O.nos (O2.at e)]; exact e)
  refine ⟨over_own dj2 O2.ft, ⟨fun a => ?_, fun a x e => ?_, O.ft⟩⟩
  · rw [N.eq]
    unfold over
    cases S a <;> rfl
  · have e2 := N.dj a x (by unfold over; rw [e])
    have e3 := (O2.non (O.dj a x e)).2
    unfold over; rw [e3]; exact e2
/-- the upper part comes below -/
theorem sink (O : Own R0 R S) (O2 : Own R H S2) : Own R0 (over R0 S2) S2 ∧ Own (over R0 S2) H S := by
  have dj2 : ∀ a o, S2 a = some o → R0 a = none := fun a o e => (O.non (O2.dj a o e)).1
  refine ⟨over_own dj2 O2.ft, ⟨fun a => ?_, fun a x e => ?_, O.ft⟩⟩
  · rw [O2.eq, O.eq]
    unfold over
    cases e : S2 a with
    | none => rfl
    | some x => rw [(O.non (O2.dj a x e)).2]
  · unfold over
    rw [O2.nos (O.at e)]
    exact O.dj a x e
theorem whole (q : Gx.CP sp vs dvs H Q E) : Gx.CP (fr sp) vs dvs H Q E := ⟨H, e0, own0, by
  have e1 : (fun v R' => ∀ H', Own R' H' e0 → Q v H') = Q := by
    funext v R'
    exact propext ⟨fun h => h R' own0, fun h H' O => by rw [own0_eq O]; exact h⟩
  have e2 : (fun c d R' => ∀ H', Own R' H' e0 → E c d H') = E := by
    funext c d R'
    exact propext ⟨fun h => h R' own0, fun h H' O => by rw [own0_eq O]; exact h⟩
  rw [e1, e2]; exact q⟩
def Mono (sp : Sp) : Prop := ∀ vs H (Q Q' : VK) (E E' : XK), (∀ v H', Q v H' → Q' v H') → (∀ c d H', E c d H' → E' c d H') → sp vs H Q E → sp vs H Q' E'
theorem inF (O : Own R H S) (q : Gx.CP sp vs dvs R (fun v R' => ∀ H', Own R' H' S → Q v H') (fun c d R' => ∀ H', Own R' H' S → E c d H')) : Gx.CP (fr sp) vs dvs H Q E := ⟨R, S, O, q⟩
theorem inF2 (O : Own R H S) (O2 : Own R2 R S2) (q : Gx.CP sp vs dvs R2 (fun v R2' => ∀ H', Own R2' (over R2' S2) S2 → Own (over R2' S2) H' S → Q v H') (fun c d R2' => ∀ H', Own R2' (over R2' S2) S2 → Own (over R2' S2) H' S → E c d H')) : Gx.CP (fr sp) vs dvs H Q E := by
  refine ⟨R2, over S2 S, nest O O2, ?_⟩
  have e1 : (fun v R2' => ∀ H', Own R2' (over R2' S2) S2 → Own (over R2' S2) H' S → Q v H') = fun v R2' => ∀ H', Own R2' H' (over S2 S) → Q v H' := by
    funext v R'
    exact propext ⟨fun h H' N => h H' (split O O2 N).1 (split O O2 N).2, fun h H' A B => h H' (nest B A)⟩
  have e2 : (fun c d R2' => ∀ H', Own R2' (over R2' S2) S2 → Own (over R2' S2) H' S → E c d H') = fun c d R2' => ∀ H', Own R2' H' (over S2 S) → E c d H' := by
    funext c d R'
    exact propext ⟨fun h H' N => h H' (split O O2 N).1 (split O O2 N).2, fun h H' A B => h H' (nest B A)⟩
  rw [← e1, ← e2]; exact q
end
end Nx
namespace Nx
open PySem L2 Fx
section
variable {K : PySem.W.Frag} {R H S R0 R1 R2 S1 S2 H1 H2 H3 : Hp} {a b p l : Addr} {o u : HO} {xs ys : List V} {σ : L2.St} {Q : VK} {E : XK} {v : V}
theorem viaS (s : Same R H) (f : R a = some o) : H a = some o := s a o f
theorem viaL (s : Same R H) (f : SqL K R a xs) : SqL K H a xs := s.seq f
theorem viaT (s : Same R H) (h : SqT K R a xs) : SqT K H a xs := by
  rcases h with (z | ⟨ob, z⟩) | z
  · exact .inl (.inl (s _ _ z))
  · exact .inl (.inr ⟨ob, s _ _ z⟩)
  · exact .inr z
/-- a list or a tuple -/
theorem viaLT (s : Same R H) (h : SqL K R a xs ∨ SqT K R a xs) : SqL K H a xs ∨ SqT K H a xs := h.elim (fun z => .inl (s.seq z)) fun z => .inr (viaT s z)
theorem ixLT {Q : VK} {i : Int} {v : V} (h : SqL K H p xs ∨ SqT K H p xs) (ha : atI xs i = some v) (q : Q v H) : rIx K (.ref p) (.int i) H Q := h.elim (fun h => Gx.ixL h ha q) fun h => Gx.ixT h ha q
mutual
theorem dpKeep (s : Same R H) : ∀ (d : PyData) (v : V), Dp K R v d → Dp K H v d
  | .none, _, h => by cases h; exact .non
  | .bool b, _, h => by cases h; exact .bl b
  | .int i, _, h => by cases h; exact .int i
  | .str x, _, h => by cases h; exact .str x
  | .list ds, _, h => by
    cases h with
    | lst hs ha => exact .lst (s.seq hs) (dpsKeep s ds _ ha)
  | .tuple ds, _, h => by
    cases h with
    | tup hs ha => exact .tup (by
        rcases hs with (z | ⟨ob, z⟩) | z
        · exact .inl (.inl (s _ _ z))
        · exact .inl (.inr ⟨ob, s _ _ z⟩)
        · exact .inr z) (dpsKeep s ds _ ha)
  | .dict _, _, h => by cases h
theorem dpsKeep (s : Same R H) : ∀ (ds : List PyData) (vs : List V), DpAll K R vs ds → DpAll K H vs ds
  | [], _, h => by cases h; exact .nil
  | d :: ds, _, h => by
    cases h with
    | cons h1 h2 => exact .cons (dpKeep s d _ h1) (dpsKeep s ds _ h2)
end
theorem viaD {d : PyData} (s : Same R H) (h : Dp K R v d) : Dp K H v d := dpKeep s d v h
theorem viaDs {ds : List PyData} {vs : List V} (s : Same R H) (h : DpAll K R vs ds) : DpAll K H vs ds := dpsKeep s ds vs h
/-- new objects, what is made named -/
theorem lst0 (h : xs.length ≤ sizeLine) (q : ∀ p H', H p = none → Same H H' → H' p = some (.lst xs) → Q (.ref p) H') : Gx.LstP xs H Q := Gx.lstP h fun p hp => q p _ hp (Gx.same_new hp) upd_same
theorem tup0 (h : xs.length ≤ sizeLine) (q : ∀ p H', H p = none → Same H H' → H' p = some (.tup xs) → Q (.ref p) H') : Gx.TupP xs H Q := Gx.tupP h fun p hp => q p _ hp (Gx.same_new hp) upd_same
theorem lstN (h : xs.length ≤ sizeLine) (O : Own R H S) (q : ∀ p R' H', R p = none → Own R' H' S → Same R R' → R' p = some (.lst xs) → Q (.ref p) H') : Gx.LstP xs H Q := Gx.lstP h fun p hp => q p _ _ (O.non hp).1 (new O hp) (Gx.same_new (O.non hp).1) upd_same
theorem tupN (h : xs.length ≤ sizeLine) (O : Own R H S) (q : ∀ p R' H', R p = none → Own R' H' S → Same R R' → R' p = some (.tup xs) → Q (.ref p) H') : Gx.TupP xs H Q := Gx.tupP h fun p hp => q p _ _ (O.non hp).1 (new O hp) (Gx.same_new (O.non hp).1) upd_same
/-- a list that is to change, apart -/
theorem lstT (h : xs.length ≤ sizeLine) (q : ∀ p H', Own H H' (one p (.lst xs)) → Q (.ref p) H') : Gx.LstP xs H Q := Gx.lstP h fun p hp => q p _ (top1 hp)
theorem made0 (q : ∀ l H', H l = none → Same H H' → H' l = some o → Q (.ref l) H') : ∀ l, H l = none → Q (.ref l) (upd H l o) := fun l hl => q l _ hl (Gx.same_new hl) upd_same
theorem Own.made (O : Own R H S) (q : ∀ l R' H', R l = none → Own R' H' S → Same R R' → R' l = some o → Q (.ref l) H') : ∀ l, H l = none → Q (.ref l) (upd H l o) := fun l hl => q l _ _ (O.non hl).1 (Nx.new O hl) (Gx.same_new (O.non hl).1) upd_same
variable {b0 : Addr}
theorem slL0 {lo hi : Option Int} (h : SqL K H a xs) (q : ∀ p H', H p = none → Same H H' → H' p = some (.lst (cutV xs lo hi)) → Q (.ref p) H') : rSlL K (.ref a) lo hi H Q := Gx.slL h (made0 q)
theorem slLN {lo hi : Option Int} (h : SqL K H a xs) (O : Own R H S) (q : ∀ p R' H', R p = none → Own R' H' S → Same R R' → R' p = some (.lst (cutV xs lo hi)) → Q (.ref p) H') : rSlL K (.ref a) lo hi H Q := Gx.slL h (Own.made O q)
theorem cat0 {zs : List V} (h1 : H a = some (.lst xs)) (h2 : H b0 = some (.lst zs)) (hz : xs.length + zs.length ≤ sizeLine) (q : ∀ p H', H p = none → Same H H' → H' p = some (.lst (xs ++ zs)) → Q (.ref p) H') : rCat (.ref a) (.ref b0) H Q := Gx.cat h1 h2 hz (made0 q)
theorem catN {zs : List V} (h1 : H a = some (.lst xs)) (h2 : H b0 = some (.lst zs)) (hz : xs.length + zs.length ≤ sizeLine) (O : Own R H S) (q : ∀ p R' H', R p = none → Own R' H' S → Same R R' → R' p = some (.lst (xs ++ zs)) → Q (.ref p) H') : rCat (.ref a) (.ref b0) H Q := Gx.cat h1 h2 hz (Own.made O q)
theorem repN0 {n : Nat} (h : H a = some (.lst [v])) (hn : n ≤ 100000) (q : ∀ p H', H p = none → Same H H' → H' p = some (.lst (List.replicate n v)) → Q (.ref p) H') : Gx.rRepN (.ref a) (.int (n : Int)) H Q := Gx.repN h hn (made0 q)
theorem repNN {n : Nat} (h : H a = some (.lst [v])) (hn : n ≤ 100000) (O : Own R H S) (q : ∀ p R' H', R p = none → Own R' H' S → Same R R' → R' p = some (.lst (List.replicate n v)) → Q (.ref p) H') : Gx.rRepN (.ref a) (.int (n : Int)) H Q := Gx.repN h hn (Own.made O q)
theorem listL0 (h : SqL K H a xs) (q : ∀ p H', H p = none → Same H H' → H' p = some (.lst xs) → Q (.ref p) H') : Gx.rList K [.ref a] H Q := Gx.listL h (made0 q)
theorem listLN (h : SqL K H a xs) (O : Own R H S) (q : ∀ p R' H', R p = none → Own R' H' S → Same R R' → R' p = some (.lst xs) → Q (.ref p) H') : Gx.rList K [.ref a] H Q := Gx.listL h (Own.made O q)
theorem listT0 (h : SqT K H a xs) (q : ∀ p H', H p = none → Same H H' → H' p = some (.lst xs) → Q (.ref p) H') : Gx.rList K [.ref a] H Q := Gx.listT h (made0 q)
theorem listTN (h : SqT K H a xs) (O : Own R H S) (q : ∀ p R' H', R p = none → Own R' H' S → Same R R' → R' p = some (.lst xs) → Q (.ref p) H') : Gx.rList K [.ref a] H Q := Gx.listT h (Own.made O q)
theorem dvm0 {i j : Int} (c : L2.CDiv i j) (q : ∀ p H', H p = none → Same H H' → H' p = some (.tup [.int (i / j), .int (i % j)]) → Q (.ref p) H') : Gx.rDivmod [.int i, .int j] H Q := Gx.dvm c (made0 q)
theorem dvmN {i j : Int} (c : L2.CDiv i j) (O : Own R H S) (q : ∀ p R' H', R p = none → Own R' H' S → Same R R' → R' p = some (.tup [.int (i / j), .int (i % j)]) → Q (.ref p) H') : Gx.rDivmod [.int i, .int j] H Q := Gx.dvm c (Own.made O q)
theorem listLT (h : SqL K H a xs) (q : ∀ p H', Own H H' (one p (.lst xs)) → Q (.ref p) H') : Gx.rList K [.ref a] H Q := Gx.listL h fun p hp => q p _ (top1 hp)
def Bm0P (K : PySem.W.Frag) (T : String) (r : V → List V → Hp → VK → Prop) (x : V) (H : Hp) (Q : VK) : Prop := tyV K T x H ∧ r x [] H Q
theorem bm0 {T : String} {r : V → List V → Hp → VK → Prop} {to : TE} (q : to σ H fun x H1 => Bm0P K T r x H1 Q) : tBM0 K T r to σ H Q := q
theorem bm0P {T : String} {r : V → List V → Hp → VK → Prop} {x : V} (h : tyV K T x H) (q : r x [] H Q) : Bm0P K T r x H Q := ⟨h, q⟩
theorem popL (h : H l = some (.lst xs)) (hy : xs[xs.length - 1]? = some v) (q : Q v (upd H l (.lst xs.dropLast))) : rPop (.ref l) [] H Q := ⟨l, xs, v, rfl, rfl, h, hy, q⟩
theorem setLE {k : Int} {j : Nat} {P : Hp → Prop} (h : H l = some (.lst xs)) (hk : ixN xs.length k = some j) (e : xs.set j v = ys) (q : P (upd H l (.lst ys))) : rSetL (.ref l) (.int k) v H P := Gx.setL h hk (by rw [e]; exact q)
theorem if_pick {c : Prop} [Decidable c] {x y : Int} (q : ∀ n, (c ∧ n = x ∨ ¬ c ∧ n = y) → Q (.int n) H) : Gx.IfP (decide c) (tC (.int x) σ H Q) (tC (.int y) σ H Q) := Gx.if_d (fun h => q x (.inl ⟨h, rfl⟩)) (fun h => q y (.inr ⟨h, rfl⟩))
theorem catT {zs : List V} (h1 : H a = some (.lst xs)) (h2 : H b0 = some (.lst zs)) (hz : xs.length + zs.length ≤ sizeLine) (q : ∀ p H', Own H H' (one p (.lst (xs ++ zs))) → Q (.ref p) H') : rCat (.ref a) (.ref b0) H Q := Gx.cat h1 h2 hz fun p hp => q p _ (top1 hp)
theorem setT {k : Int} {j : Nat} {P : Hp → Prop} (O : Own R H (one l (.lst xs))) (hk : ixN xs.length k = some j) (q : ∀ H', Own R H' (one l (.lst (xs.set j v))) → P H') : rSetL (.ref l) (.int k) v H P := Gx.setL (at1 O) hk (q _ (put1 O))
theorem appT (O : Own R H (one l (.lst xs))) (hz : xs.length < sizeLine) (q : ∀ H', Own R H' (one l (.lst (xs ++ [v]))) → Q .non H') : rAppend (.ref l) [v] H Q := Gx.app (at1 O) hz (q _ (put1 O))
theorem nevB {x y : Bool} (q : Q (.bl (!decide (x = y))) H) : rNe (.bl x) (.bl y) H Q := Gx.nev (by rw [Gx.eqB]; exact q)
theorem cutV_nat (xs : List Nat) (f : Nat → V) (m : Nat) (h : m ≤ xs.length) : cutV (xs.map f) none (some (m : Int)) = (xs.take m).map f := by
  unfold cutV
  rw [HT.sIx_nat, List.length_map, Nat.min_eq_left h]
  show ((xs.map f).drop 0).take (m - 0) = _
  rw [List.drop_zero, Nat.sub_zero, List.map_take]
theorem cutV_from (xs : List Nat) (f : Nat → V) (m : Nat) (h : m ≤ xs.length) : cutV (xs.map f) (some (m : Int)) none = (xs.drop m).map f := by
  unfold cutV
  rw [HT.sIx_nat, List.length_map, Nat.min_eq_left h]
  show ((xs.map f).drop m).take (xs.length - m) = _
  rw [List.map_drop, List.take_of_length_le (by rw [List.length_drop, List.length_map]; omega)]
theorem sl_tupK {X : Cx} (h : X.K = K) : SlR X (rSlT K) := by subst h; exact sl_tup
theorem slT0 {lo hi : Option Int} (h : SqT K H a xs) (nw : ¬ (HT.sIx xs.length 0 lo = 0 ∧ HT.sIx xs.length xs.length hi = xs.length)) (q : ∀ p H', H p = none → Same H H' → H' p = some (.tup (cutV xs lo hi)) → Q (.ref p) H') : rSlT K (.ref a) lo hi H Q := ⟨a, xs, rfl, h, nw, made0 q⟩
theorem Own.grow {H' : Hp} (O : Own R H S) (s : Same H H') : ∃ R', Own R' H' S ∧ Same R R' ∧ ∀ a o, H a = none → H' a = some o → R' a = some o := by
  refine ⟨fun a => match S a with | some _ => none | none => H' a, ⟨fun a => ?_, fun a x e => ?_, O.ft⟩, fun a x e => ?_, fun a x e q => ?_⟩
  · cases e : S a with
    | some x => exact s _ _ (O.at e)
    | none => rfl
  · show (match S a with | some _ => none | none => H' a) = none
    rw [e]
  · show (match S a with | some _ => none | none => H' a) = some x
    rw [O.nos e]; exact s _ _ (O.same _ _ e)
  · show (match S a with | some _ => none | none => H' a) = some x
    rw [(O.non e).2]; exact q
theorem pi_listK {X : Cx} {tg l : Expr} {tl : TE} (h : X.K = K) (hl : PE X l tl) : PI X tg l (iList K tl) := by subst h; exact pi_list hl
theorem pi_tupK {X : Cx} {tg l : Expr} {tl : TE} (h : X.K = K) (hl : PE X l tl) : PI X tg l (iTup K tl) := by subst h; exact pi_tup hl
theorem pg_tupK {X : Cx} {es : List Expr} {k : Nat} {t : TGs} {n : Nat} {pos : Pos} (hk : X.K = K) (hc : X.calm = true) (h : PGs X es t) (hn : (assignEach es X.env).length = n) (hst : (assignEach es X.env).findIdx? (·.1) = none) : PG X (.Tuple es k pos) (gTup K n t) := by subst hk; exact pg_tup hc h hn hst
def EnP (K : PySem.W.Frag) (vs : List V) (H : Hp) (T : It → Hp → Prop) : Prop := ∃ a xs, vs = [.ref a] ∧ SqL K H a xs ∧ T (Ite K a) H
theorem enumw {tr : TA} {T : It → Hp → Prop} (q : tr σ H fun vs H1 => EnP K vs H1 T) : iEnum K tr σ H T := q
theorem en {T : It → Hp → Prop} (h : SqL K H a xs) (q : T (Ite K a) H) : EnP K [.ref a] H T := ⟨a, xs, rfl, h, q⟩
theorem eqvAll_str : ∀ xs ys : List Str, PyData.eqvAll (xs.map .str) (ys.map .str) = decide (xs = ys)
  | [], [] => by simp [PyData.eqvAll]
  | [], _ :: _ => by simp [PyData.eqvAll]
  | _ :: _, [] => by simp [PyData.eqvAll]
  | x :: xs, y :: ys => by
    simp only [List.map_cons, PyData.eqvAll, PyData.eqv, eqvAll_str xs ys]
    by_cases h : x = y
    · subst h; simp
    · simp [h]
theorem shaped_strs (xs : List Str) (ok : xs.all PyData.strOk = true) : SeqAt.shaped (.list (xs.map .str)) = true := by
  have c : ∀ xs : List Str, xs.all PyData.strOk = true → PyData.canLayAll0 (xs.map .str) = true := fun xs => by
    induction xs with
    | nil => exact fun _ => rfl
    | cons x xs ih =>
      intro h
      rw [List.all_cons, Bool.and_eq_true] at h
      simp [PyData.canLayAll0, PyData.canLay0, ih h.2, h.1]
  have d : ∀ xs : List Str, PyData.depthAll (xs.map .str) = 0 := fun xs => by
    induction xs with
    | nil => rfl
    | cons x xs ih => simp [PyData.depthAll, PyData.depth, ih]
  simp [SeqAt.shaped, PyData.canLay0, PyData.depth, c xs ok, d]
theorem dpAll_str : ∀ xs : List Str, DpAll K H (xs.map V.str) (xs.map PyData.str)
  | [] => .nil
  | x :: xs => .cons (.str x) (dpAll_str xs)
theorem eqDS {q' : Addr} {xs ys : List Str} (h1 : SqL K H p (xs.map V.str)) (h2 : SqL K H q' (ys.map V.str)) (o1 : xs.all PyData.strOk = true) (o2 : ys.all PyData.strOk = true) (q : Q (.bl (decide (xs = ys))) H) : rEqD K (.ref p) (.ref q') H Q :=
  ⟨_, _, .lst h1 (dpAll_str xs), .lst h2 (dpAll_str ys), shaped_strs xs o1, shaped_strs ys o2, by rw [show PyData.eqv (.list (xs.map .str)) (.list (ys.map .str)) = decide (xs = ys) from eqvAll_str xs ys]; exact q⟩
theorem eqStr {x y : Str} (o1 : PyData.strOk x = true) (o2 : PyData.strOk y = true) (q : Q (.bl (decide (x = y))) H) : rEqD K (.str x) (.str y) H Q :=
  ⟨_, _, .str x, .str y, by simp [SeqAt.shaped, PyData.canLay0, PyData.depth, o1], by simp [SeqAt.shaped, PyData.canLay0, PyData.depth, o2], by rw [show PyData.eqv (.str x) (.str y) = decide (x = y) by simp only [PyData.eqv]; by_cases z : x = y <;> simp [z]]; exact q⟩
theorem neStr {x y : Str} (o1 : PyData.strOk x = true) (o2 : PyData.strOk y = true) (q : Q (.bl (!decide (x = y))) H) : rNeD K (.str x) (.str y) H Q :=
  ⟨_, _, .str x, .str y, by simp [SeqAt.shaped, PyData.canLay0, PyData.depth, o1], by simp [SeqAt.shaped, PyData.canLay0, PyData.depth, o2], by rw [show PyData.eqv (.str x) (.str y) = decide (x = y) by simp only [PyData.eqv]; by_cases z : x = y <;> simp [z]]; exact q⟩
/-- a list taken out of what stands, to be changed -/
def cutH (H : Hp) (k : Addr) : Hp := fun a => if a = k then none else H a
theorem cutH_ne {k : Addr} (h : a ≠ k) : cutH H k a = H a := if_neg h
theorem cutH_own {k : Addr} (h : H k = some (.lst xs)) : Own (cutH H k) H (one k (.lst xs)) := mk1 (if_pos rfl) trivial h fun a c => (cutH_ne c).symm
theorem cutH_at {k : Addr} {o : HO} (h : H k = some (.lst xs)) (ha : H a = some o) (ne : o ≠ .lst xs) : cutH H k a = some o := by rw [cutH_ne (ne_of ha h ne)]; exact ha
theorem cutH_tl {k l : Addr} {n : Nat} {g : Nat → List Int} (h : H k = some (.lst xs)) (x : Gx.TL H l n g) (ne : l ≠ k) : Gx.TL (cutH H k) l n g := by
  obtain ⟨ps, h1, h2, h3⟩ := x
  exact ⟨ps, by rw [cutH_ne ne]; exact h1, h2, fun j a e => cutH_at h (h3 j a e) (fun z => nomatch z)⟩
theorem pe_bmK {X : Cx} {o : Expr} {e : Expr} {es : List Expr} {T : String} {name : Str} {id : String} {apos cpos : Pos} {to : TE} {t : TA} {r : V → List V → Hp → VK → Prop} (hk : X.K = K) (pa : PlainAttrs T) (slot : Slot T name id) (hty : typeOf (.builtin id) = pure (.type "method_descriptor")) (hm : MtR X id r) (ho : PE X o to) (ha : PA X (e :: es) t)
    (b1 : attributeBase o name X.env (eval o X.env) = eval o X.env) (b2 : ((backTo cpos (starEach (e :: es) X.env)).all (fun x => !x.1) && (backToKw cpos (keywordEach [] X.env)).all (fun x => x.1.isSome) && decide ((e :: es).length + ([] : List Keyword).length + (if ([] : List Keyword).isEmpty then 0 else 1) < 30)) = true)
    (b3 : (apos.endLine == cpos.line) = true) (b4 : starEach (e :: es) X.env = (false, eval e X.env) :: starEach es X.env) (b5 : (backTo cpos (starEach es X.env)).any (·.1) = false) : PE X (.Call (.Attribute o name apos) (e :: es) [] cpos) (tBM K T r to t) := by
  subst hk; exact pe_bm pa slot hty hm ho ha b1 b2 b3 b4 b5
theorem shaped_tstrs (xs : List Str) (ok : xs.all PyData.strOk = true) : SeqAt.shaped (.tuple (xs.map .str)) = true := by
  have h := shaped_strs xs ok
  simpa [SeqAt.shaped, PyData.canLay0, PyData.depth] using h
theorem neTS {q' : Addr} {xs ys : List Str} (h1 : SqT K H p (xs.map V.str)) (h2 : SqT K H q' (ys.map V.str)) (o1 : xs.all PyData.strOk = true) (o2 : ys.all PyData.strOk = true) (q : Q (.bl (!decide (xs = ys))) H) : rNeD K (.ref p) (.ref q') H Q :=
  ⟨_, _, .tup h1 (dpAll_str xs), .tup h2 (dpAll_str ys), shaped_tstrs xs o1, shaped_tstrs ys o2, by rw [show PyData.eqv (.tuple (xs.map .str)) (.tuple (ys.map .str)) = decide (xs = ys) from eqvAll_str xs ys]; exact q⟩
theorem eqTS {q' : Addr} {xs ys : List Str} (h1 : SqT K H p (xs.map V.str)) (h2 : SqT K H q' (ys.map V.str)) (o1 : xs.all PyData.strOk = true) (o2 : ys.all PyData.strOk = true) (q : Q (.bl (decide (xs = ys))) H) : rEqD K (.ref p) (.ref q') H Q :=
  ⟨_, _, .tup h1 (dpAll_str xs), .tup h2 (dpAll_str ys), shaped_tstrs xs o1, shaped_tstrs ys o2, by rw [show PyData.eqv (.tuple (xs.map .str)) (.tuple (ys.map .str)) = decide (xs = ys) from eqvAll_str xs ys]; exact q⟩
/-- an instance with the four numbers of a kind -/
def K4 (K : PySem.W.Frag) (H : Hp) (x : Addr) (w h d c : V) : Prop := ∃ (C dx : Addr) (fs : List (Str × V)), H x = some (.ins C dx fs) ∧ Cls K C ∧ (NoAttr K C "width" ∧ NoAttr K C "height" ∧ NoAttr K C "depth" ∧ NoAttr K C "channels") ∧ fs.lookup ("width" : Str) = some w ∧ fs.lookup ("height" : Str) = some h ∧ fs.lookup ("depth" : Str) = some d ∧ fs.lookup ("channels" : Str) = some c
theorem K4.keep {x : Addr} {w h d c : V} (k : K4 K R x w h d c) (s : Same R H) : K4 K H x w h d c := by
  obtain ⟨C, dx, fs, e, r⟩ := k
  exact ⟨C, dx, fs, s _ _ e, r⟩
/-- isinstance with an own class -/
structure IsO (K : PySem.W.Frag) (C : Addr) : Prop where
  ca : PySem.W.findIn K (.ref C) "__class__" = some (some (.builtin "object.__class__"))
  sp : PySem.W.specialIn K (.builtin "object.__class__") "__get__" = some (some (.builtin "getset_descriptor.__get__"))
  tk : PySem.W.takesIn K (.builtin "object.__class__") = some true
  ob : PySem.W.mroIn K C (.type "object") = some true
theorem isiO {C D dx : Addr} {fs : List (Str × V)} {k : Bool} (I : IsO K C) (cl : Cls K C) (h : H a = some (.ins C dx fs)) (e : PySem.W.kitOne K (.ref C) (.ref D) = some k) (q : Q (.bl k) H) : rIsi K [.ref a, .ref D] H Q := ⟨.ref a, .ref D, .ref C, .ref D, k, rfl, .own D, .base (.ins h cl I.ca I.sp I.tk I.ob), e, q⟩
theorem isiOs {C dx : Addr} {fs : List (Str × V)} (I : IsO K C) (cl : Cls K C) (h : H a = some (.ins C dx fs)) (q : Q (.bl true) H) : rIsi K [.ref a, .ref C] H Q := isiO I cl h (by unfold PySem.W.kitOne; rw [if_pos (by simp)]) q
/-- a comprehension; the values so far stand apart in the list D -/
theorem lcO {J : It} {n : Nat} {G : Hp → Prop} {Y : Nat → Hp → V → Hp → Prop} {g : TG} {t : TT} {te : TE} {vs : List Nat} (w : Walk J n G Y) (I : Nat → List V → Hp → Prop) (hn : n < 16777216) (h0 : I 0 [] H) (hG : ∀ i zs R H', I i zs R → Same R H' → G H')
    (hs : ∀ i x zs R D H1 H2 (Ry : V → Hp → Prop) (Rn : Hp → Prop), i < n → I i zs R → Own R H1 (one D (.lst zs)) → Y i H1 x H2 → (∀ y R' H5, Own R' H5 (one D (.lst zs)) → I (i + 1) (zs ++ [y]) R' → Ry y H5) → (∀ R' H4, Own R' H4 (one D (.lst zs)) → I (i + 1) zs R' → Rn H4) →
      g x (wipe σ vs) H2 fun σ2 H3 => Gx.WP (wipe σ2 vs = wipe σ vs) (t σ2 H3 fun b H4 => Gx.IfP b (te σ2 H4 Ry) (Rn H4)))
    (q : ∀ D zs R H', I n zs R → Own R H' (one D (.lst zs)) → Q (.ref D) H') : Gx.LcP J g t te vs σ Q H := fun D hD => by
  refine lc_it w (fun i H' => ∃ R zs, zs.length ≤ i ∧ Own R H' (one D (.lst zs)) ∧ I i zs R) ⟨H, [], Nat.le_refl 0, top1 hD, h0⟩ (fun i H' _ h => ?_) (fun i x H1 H' hi h y => ?_) (fun H' h => ?_)
  · obtain ⟨R, zs, _, O, hI⟩ := h; exact hG i zs R H' hI O.same
  · obtain ⟨R, zs, hl, O, hI⟩ := h
    exact hs i x zs R D H1 H' _ _ hi hI O y (fun y R' H5 O' hI' => ⟨zs, at1 O', by rw [sizeLine_eq]; omega, R', zs ++ [y], by rw [List.length_append]; show _ + 1 ≤ _; omega, put1 O', hI'⟩) (fun R' H4 O' hI' => ⟨R', zs, by omega, O', hI'⟩)
  · obtain ⟨R, zs, _, O, hI⟩ := h; exact q D zs R H' hI O
end
end Nx
local macro_rules | `(tactic| walk_at "xsame1") => `(tactic| first
  | assumption
  | exact Fx.Own.same (by assumption))
local macro_rules | `(tactic| walk_at "xsame") => `(tactic| first
  | assumption
  | exact L2.Same.refl _
  | (refine' L2.Same.trans ?s1 ?s2; (case s2 => walk_at "xsame1"); (case s1 => walk_at "xsame")))
local macro_rules | `(tactic| walk_at "fact") => `(tactic| first
  | assumption
  | exact Nx.at1 (by assumption)
  | exact L2.upd_same
  | (refine' Nx.viaS ?s ?f; (case s => walk_at "xsame1"); (case f => walk_at "fact"))
  | (refine' L2.SqL.of ?f; (case f => walk_at "fact"))
  | (refine' Nx.viaL ?s ?f; (case s => walk_at "xsame1"); (case f => walk_at "fact"))
  | (refine' L2.SqT.of ?f; (case f => walk_at "fact"))
  | (refine' Nx.viaD ?s ?f; (case s => walk_at "xsame1"); (case f => walk_at "fact")))
local macro_rules | `(tactic| walk_at "run1") => `(tactic| first
  | walk_at "go1"
  | with_reducible refine Nx.bm0 ?_
  | ((with_reducible refine' Gx.ixL ?hf ?ha ?_); (case hf => walk_at "fact"); (case ha => rfl))
  | ((with_reducible refine' Gx.ixT ?hf ?ha ?_); (case hf => walk_at "fact"); (case ha => rfl))
  | with_reducible refine Nx.nevB ?_
  | with_reducible refine Nx.enumw ?_
  | ((with_reducible refine' Gx.ic ?hc ?_); (case hc => walk_at "side"))
  | ((with_reducible refine' Gx.gtup ?hf ?ha ?_); (case hf => walk_at "fact"); (case ha => rfl)))
local macro_rules | `(tactic| walk_at "run") => `(tactic| repeat walk_at "run1")
local macro_rules | `(tactic| walk_at "lit") => `(tactic| repeat (first
  | walk_at "run1"
  | with_reducible refine Gx.if_dno (by decide) ?_
  | with_reducible refine Gx.if_dy (by decide) ?_))

namespace Ch
open PySem L2
/-! a chain of two comparisons -/
def ChP (r' : R2) (tc : TE) (y z : V) (σ : L2.St) (H : Hp) (Q : VK) : Prop := ∃ k, z = .bl k ∧ Gx.IfP k (tc σ H fun w H4 => r' y w H4 Q) (Q (.bl false) H)
theorem chain {r r' : R2} {ta tb tc : TE} {σ : L2.St} {H : Hp} {Q : VK} (q : ta σ H fun x H1 => tb σ H1 fun y H2 => r x y H2 fun z H3 => ChP r' tc y z σ H3 Q) : tChain r r' ta tb tc σ H Q := q
theorem chp {r' : R2} {tc : TE} {y z : V} {σ : L2.St} {H : Hp} {Q : VK} (k : Bool) (h : z = .bl k) (q : Gx.IfP k (tc σ H fun w H4 => r' y w H4 Q) (Q (.bl false) H)) : ChP r' tc y z σ H Q := ⟨k, h, q⟩
/-- x is None -/
theorem isN_y {H : Hp} {Q : VK} (q : Q (.bl true) H) : V.non = V.non ∧ Q (.bl (decide (V.non = V.non))) H := ⟨rfl, by rw [decide_eq_true rfl]; exact q⟩
theorem isN_n {a : Addr} {H : Hp} {Q : VK} (q : Q (.bl false) H) : V.non = V.non ∧ Q (.bl (decide (V.ref a = V.non))) H := ⟨rfl, by rw [decide_eq_false (by simp)]; exact q⟩
theorem nonA {P : Prop} (q : P) : V.non = V.non ∧ P := ⟨rfl, q⟩
section
variable {A1 A2 : Prop} {a : Addr} {H : Hp} {Q : VK}
theorem ifN_y {inst : Decidable (V.non = V.non)} (q : A1) : Gx.IfP (@decide (V.non = V.non) inst) A1 A2 := Gx.if_y (decide_eq_true rfl) q
theorem ifN_n {inst : Decidable (V.ref a = V.non)} (q : A2) : Gx.IfP (@decide (V.ref a = V.non) inst) A1 A2 := Gx.if_n (decide_eq_false (by simp)) q
theorem ifN_i {b : Int} {inst : Decidable (V.int b = V.non)} (q : A2) : Gx.IfP (@decide (V.int b = V.non) inst) A1 A2 := Gx.if_n (decide_eq_false (by simp)) q
theorem ifN_s {b : Str} {inst : Decidable (V.str b = V.non)} (q : A2) : Gx.IfP (@decide (V.str b = V.non) inst) A1 A2 := Gx.if_n (decide_eq_false (by simp)) q
theorem nfN_y {inst : Decidable (V.non = V.non)} (q : A2) : Gx.IfP (!@decide (V.non = V.non) inst) A1 A2 := Gx.if_n (by rw [decide_eq_true rfl]; rfl) q
theorem nfN_n {inst : Decidable (V.ref a = V.non)} (q : A1) : Gx.IfP (!@decide (V.ref a = V.non) inst) A1 A2 := Gx.if_y (by rw [decide_eq_false (by simp)]; rfl) q
theorem nfN_i {b : Int} {inst : Decidable (V.int b = V.non)} (q : A1) : Gx.IfP (!@decide (V.int b = V.non) inst) A1 A2 := Gx.if_y (by rw [decide_eq_false (by simp)]; rfl) q
theorem nfN_s {b : Str} {inst : Decidable (V.str b = V.non)} (q : A1) : Gx.IfP (!@decide (V.str b = V.non) inst) A1 A2 := Gx.if_y (by rw [decide_eq_false (by simp)]; rfl) q
end
end Ch
local macro_rules | `(tactic| walk_at "run1") => `(tactic| (first
  | with_reducible refine Ch.chain ?_
  | ((with_reducible refine' Ch.chp _ ?h ?_); (case h => rfl))
  | with_reducible refine Ch.nonA ?_
  | with_reducible refine Ch.ifN_y ?_
  | with_reducible refine Ch.ifN_n ?_
  | with_reducible refine Ch.ifN_i ?_
  | with_reducible refine Ch.ifN_s ?_
  | with_reducible refine Ch.nfN_y ?_
  | with_reducible refine Ch.nfN_n ?_
  | with_reducible refine Ch.nfN_i ?_
  | with_reducible refine Ch.nfN_s ?_))

namespace Bx
open PySem L2
/-- a box of drawn digits: the list b holds the list p of ints and a place; all of H0 stands beside -/
structure Box (H0 H : Hp) (b p : Addr) (xs : List Int) : Prop where
  same : Same H0 H
  nb : H0 b = none
  np : H0 p = none
  bx : ∃ k : Nat, H b = some (.lst [.ref p, .int (k : Int)])
  dg : H p = some (.lst (xs.map V.int))
theorem Box.ne {H0 H : Hp} {b p : Addr} {xs : List Int} (B : Box H0 H b p xs) : p ≠ b := by
  obtain ⟨k, hk⟩ := B.bx
  intro e
  rw [← e, B.dg] at hk
  have h := Option.some.inj hk
  cases xs with
  | nil => cases h
  | cons x xs => cases h
/-- a new object beside -/
theorem Box.new {H0 H : Hp} {b p c : Addr} {xs : List Int} {o : HO} (B : Box H0 H b p xs) (hc : H c = none) : Box (upd H0 c o) (upd H c o) b p xs := by
  obtain ⟨k, hk⟩ := B.bx
  have h1 : b ≠ c := ne_of_none hk hc
  have h2 : p ≠ c := ne_of_none B.dg hc
  refine ⟨fun a u e => ?_, by rw [upd_ne h1]; exact B.nb, by rw [upd_ne h2]; exact B.np, ⟨k, by rw [upd_ne h1]; exact hk⟩, by rw [upd_ne h2]; exact B.dg⟩
  by_cases ha : a = c
  · subst ha; rw [upd_same] at e ⊢; exact e
  · rw [upd_ne ha] at e ⊢; exact B.same a u e
/-- what was made beside, in a heap that keeps all -/
theorem Box.keep {H0 H H' : Hp} {b p : Addr} {xs : List Int} (B : Box H0 H b p xs) (s : Same H H') : Box H0 H' b p xs := by
  obtain ⟨k, hk⟩ := B.bx
  exact ⟨B.same.trans s, B.nb, B.np, ⟨k, s _ _ hk⟩, s _ _ B.dg⟩
end Bx

namespace Nx
open PySem L2 Fx
section
variable {K : PySem.W.Frag} {R H S R0 R1 R2 S1 S2 H1 H2 H3 : Hp} {a b p l : Addr} {o u : HO} {xs ys : List V} {σ : L2.St} {Q : VK} {E : XK} {v : V}
/-- a box of drawn digits -/
structure Bo (R H : Hp) (b p : Addr) (xs : List Int) : Prop where
  bx : ∃ k : Nat, Own R H (one b (.lst [.ref p, .int (k : Int)]))
  dg : R p = some (.lst (xs.map V.int))
variable {ns : List Int}
theorem Bo.same (B : Bo R H b p ns) : Same R H := let ⟨_, O⟩ := B.bx; O.same
theorem Bo.new (B : Bo R H b p ns) (h : H a = none) : R a = none ∧ Bo (upd R a o) (upd H a o) b p ns := by
  obtain ⟨⟨k, O⟩, d⟩ := B
  exact ⟨(O.non h).1, ⟨k, Nx.new O h⟩, (Gx.same_new (O.non h).1) _ _ d⟩
theorem lstB (h : xs.length ≤ sizeLine) (B : Bo R H b p ns) (q : ∀ l R' H', R l = none → Bo R' H' b p ns → Same R R' → R' l = some (.lst xs) → Q (.ref l) H') : Gx.LstP xs H Q := Gx.lstP h fun l hp => q l _ _ (B.new hp (o := .lst xs)).1 (B.new hp).2 (Gx.same_new (B.new hp (o := .lst xs)).1) upd_same
theorem tupB (h : xs.length ≤ sizeLine) (B : Bo R H b p ns) (q : ∀ l R' H', R l = none → Bo R' H' b p ns → Same R R' → R' l = some (.tup xs) → Q (.ref l) H') : Gx.TupP xs H Q := Gx.tupP h fun l hp => q l _ _ (B.new hp (o := .tup xs)).1 (B.new hp).2 (Gx.same_new (B.new hp (o := .tup xs)).1) upd_same
/-- any rule that makes one new object -/
theorem Bo.made (B : Bo R H b p ns) (q : ∀ l R' H', R l = none → Bo R' H' b p ns → Same R R' → R' l = some o → Q (.ref l) H') : ∀ l, H l = none → Q (.ref l) (upd H l o) := fun l hl => q l _ _ (B.new hl (o := o)).1 (B.new hl).2 (Gx.same_new (B.new hl (o := o)).1) upd_same
variable {b0 : Addr}
theorem slLB {lo hi : Option Int} (h : SqL K H a xs) (B : Bo R H b p ns) (q : ∀ l R' H', R l = none → Bo R' H' b p ns → Same R R' → R' l = some (.lst (cutV xs lo hi)) → Q (.ref l) H') : rSlL K (.ref a) lo hi H Q := Gx.slL h (B.made q)
theorem catB {zs : List V} (h1 : H a = some (.lst xs)) (h2 : H b0 = some (.lst zs)) (hz : xs.length + zs.length ≤ sizeLine) (B : Bo R H b p ns) (q : ∀ l R' H', R l = none → Bo R' H' b p ns → Same R R' → R' l = some (.lst (xs ++ zs)) → Q (.ref l) H') : rCat (.ref a) (.ref b0) H Q := Gx.cat h1 h2 hz (B.made q)
theorem repNB {n : Nat} (h : H a = some (.lst [v])) (hn : n ≤ 100000) (B : Bo R H b p ns) (q : ∀ l R' H', R l = none → Bo R' H' b p ns → Same R R' → R' l = some (.lst (List.replicate n v)) → Q (.ref l) H') : Gx.rRepN (.ref a) (.int (n : Int)) H Q := Gx.repN h hn (B.made q)
theorem listLB (h : SqL K H a xs) (B : Bo R H b p ns) (q : ∀ l R' H', R l = none → Bo R' H' b p ns → Same R R' → R' l = some (.lst xs) → Q (.ref l) H') : Gx.rList K [.ref a] H Q := Gx.listL h (B.made q)
theorem listTB (h : SqT K H a xs) (B : Bo R H b p ns) (q : ∀ l R' H', R l = none → Bo R' H' b p ns → Same R R' → R' l = some (.lst xs) → Q (.ref l) H') : Gx.rList K [.ref a] H Q := Gx.listT h (B.made q)
theorem dvmB {i j : Int} (c : L2.CDiv i j) (B : Bo R H b p ns) (q : ∀ l R' H', R l = none → Bo R' H' b p ns → Same R R' → R' l = some (.tup [.int (i / j), .int (i % j)]) → Q (.ref l) H') : Gx.rDivmod [.int i, .int j] H Q := Gx.dvm c (B.made q)
theorem Bo.start (hb : H b = none) (hp : H p = some (.lst (ns.map V.int))) : Bo H (upd H b (.lst [.ref p, .int 0])) b p ns := ⟨⟨0, top1 hb⟩, hp⟩
theorem Bo.old (B : Bo R H b p ns) : Bx.Box (fun a => if a = p then none else R a) H b p ns := by
  obtain ⟨⟨k, O⟩, d⟩ := B
  exact ⟨fun a x e => by
    by_cases c : a = p
    · rw [if_pos c] at e; cases e
    · rw [if_neg c] at e; exact O.same a x e, by
    by_cases c : b = p
    · rw [if_pos c]
    · rw [if_neg c]; exact no1 O, if_pos rfl, ⟨k, at1 O⟩, O.same _ _ d⟩
theorem Bo.again (B : Bo R H b p ns) {G H' : Hp} (B' : Bx.Box G H' b p ns) (kp : ∀ c, c ≠ b → H' c = H c) : Bo R H' b p ns := by
  obtain ⟨⟨k, O⟩, d⟩ := B
  obtain ⟨j, hj⟩ := B'.bx
  exact ⟨⟨j, mk1 (no1 O) trivial hj fun c hc => (kp c hc).trans (off1 O hc)⟩, d⟩
/-- behind a call that leaves all that stands: a part R' that holds what is new -/
theorem Bo.grow (B : Bo R H b p ns) (s : Same H H1) : ∃ R', Bo R' H1 b p ns ∧ Same R R' ∧ ∀ a o, H a = none → H1 a = some o → R' a = some o := by
  obtain ⟨⟨k, O⟩, d⟩ := B
  have hs : Same R (fun a => if a = b then none else H1 a) := fun a x e => by
    by_cases c : a = b
    · rw [c, no1 O] at e; cases e
    · show (if a = b then none else H1 a) = some x
      rw [if_neg c]; exact s _ _ (O.same _ _ e)
  refine ⟨fun a => if a = b then none else H1 a, ⟨⟨k, mk1 (if_pos rfl) trivial (s _ _ (at1 O)) fun c hc => (if_neg hc).symm⟩, hs _ _ d⟩, hs, fun a x e q => ?_⟩
  have c : a ≠ b := fun c => by rw [c, at1 O] at e; cases e
  show (if a = b then none else H1 a) = some x
  rw [if_neg c]; exact q
/-- what was apart above the box comes below -/
theorem Bo.sink (B : Bo R0 R b p ns) (O2 : Own R H (one l o)) : ∃ R1, Bo R1 H b p ns ∧ Same R0 R1 ∧ R0 l = none ∧ R1 l = some o := by
  obtain ⟨⟨k, O⟩, d⟩ := B
  obtain ⟨h1, h2⟩ := Nx.sink O O2
  exact ⟨_, ⟨⟨k, h2⟩, h1.same _ _ d⟩, h1.same, (O.non (no1 O2)).1, at1 h1⟩

theorem Bo.step (B : Bo R H b p ns) : ∃ S, Own R H S ∧ ∀ R' H', Own R' H' S → Same R R' → Bo R' H' b p ns := by
  obtain ⟨⟨k, O⟩, d⟩ := B
  exact ⟨_, O, fun R' H' O' s => ⟨⟨k, O'⟩, s _ _ d⟩⟩
theorem lstBO (h : xs.length ≤ sizeLine) (O : Own R1 H S) (B : Bo R R1 b p ns) (q : ∀ l R' R1' H', R l = none → Own R1' H' S → Bo R' R1' b p ns → Same R R' → R' l = some (.lst xs) → Q (.ref l) H') : Gx.LstP xs H Q := Gx.lstP h fun l hp => q l _ _ _ (B.new (O.non hp).1 (o := .lst xs)).1 (Nx.new O hp) (B.new (O.non hp).1).2 (Gx.same_new (B.new (O.non hp).1 (o := .lst xs)).1) upd_same
end
end Nx
local macro_rules | `(tactic| walk_at "xsame1") => `(tactic| exact Nx.Bo.same (by assumption))
local macro_rules | `(tactic| walk_at "fact") => `(tactic| exact Nx.Bo.dg (by assumption))

namespace Mv
open PySem L2
/-! what stands (R) and what changes (ps, an object for each address) -/
structure Hv (R H : Hp) (ps : List (Addr × HO)) : Prop where
  off : ∀ a, (∀ q ∈ ps, q.1 ≠ a) → H a = R a
  on : ∀ q ∈ ps, H q.1 = some q.2 ∧ R q.1 = none
  nd : (ps.map (·.1)).Nodup
section
variable {R H H' : Hp} {ps l1 l2 : List (Addr × HO)} {a : Addr} {o o' : HO}
theorem Hv.at (h : Hv R H ps) (m : (a, o) ∈ ps) : H a = some o := (h.on _ m).1
theorem Hv.no (h : Hv R H ps) (m : (a, o) ∈ ps) : R a = none := (h.on _ m).2
theorem Hv.same (h : Hv R H ps) : Same R H := fun a o e => by
  rw [h.off a fun q hq z => ?_]; exact e
  have := (h.on q hq).2
  rw [z, e] at this; cases this
theorem Hv.free (h : Hv R H ps) (e : H a = none) : R a = none ∧ ∀ q ∈ ps, q.1 ≠ a := by
  have n : ∀ q ∈ ps, q.1 ≠ a := fun q hq z => by
    have := (h.on q hq).1
    rw [z, e] at this; cases this
  exact ⟨(h.off a n).symm.trans e, n⟩
theorem Hv.nil : Hv H H [] := ⟨fun _ _ => rfl, (fun q m => nomatch m), List.nodup_nil⟩
theorem Hv.put (h : Hv R H (l1 ++ (a, o) :: l2)) : Hv R (upd H a o') (l1 ++ (a, o') :: l2) := by
  have nd := h.nd
  have ek : (l1 ++ (a, o') :: l2).map (·.1) = (l1 ++ (a, o) :: l2).map (·.1) := by simp
  rw [List.map_append, List.map_cons, List.nodup_append] at nd
  obtain ⟨n1, n2, n3⟩ := nd
  rw [List.nodup_cons] at n2
  refine ⟨fun c hc => ?_, fun q hq => ?_, by rw [ek]; exact h.nd⟩
  · have ca : a ≠ c := hc (a, o') (by simp)
    rw [upd_ne ca.symm]
    refine h.off c fun q hq => ?_
    rcases List.mem_append.mp hq with e | e
    · exact hc q (List.mem_append_left _ e)
    · rcases List.mem_cons.mp e with e | e
      · subst e; exact ca
      · exact hc q (List.mem_append_right _ (List.mem_cons_of_mem _ e))
  · rcases List.mem_append.mp hq with e | e
    · have ne : q.1 ≠ a := n3 _ (List.mem_map_of_mem e) _ (List.mem_cons_self ..)
      rw [upd_ne ne]
      exact h.on q (List.mem_append_left _ e)
    · rcases List.mem_cons.mp e with e | e
      · subst e; exact ⟨upd_same, (h.on (a, o) (by simp)).2⟩
      · have ne : q.1 ≠ a := fun z => n2.1 (by rw [← z]; exact List.mem_map.mpr ⟨q, e, rfl⟩)
        rw [upd_ne ne]
        exact h.on q (List.mem_append_right _ (List.mem_cons_of_mem _ e))
theorem Hv.perm (h : Hv R H l1) (p : l1.Perm l2) : Hv R H l2 := ⟨fun a n => h.off a fun q hq => n q (p.mem_iff.mp hq), fun q hq => h.on q (p.mem_iff.mpr hq), (p.map _).nodup_iff.mp h.nd⟩
/-- behind a call that leaves all that stands -/
theorem Hv.grow (h : Hv R H ps) (s : Same H H') : ∃ R', Hv R' H' ps ∧ Same R R' ∧ ∀ a o, H a = none → H' a = some o → R' a = some o := by
  refine ⟨fun a => if a ∈ ps.map (·.1) then none else H' a, ⟨fun a n => ?_, fun q hq => ⟨s _ _ (h.on q hq).1, if_pos (List.mem_map_of_mem hq)⟩, h.nd⟩, fun a o e => ?_, fun a o e f => ?_⟩
  · rw [if_neg]
    intro m
    obtain ⟨q, hq, e⟩ := List.mem_map.mp m
    exact n q hq e
  · show (if a ∈ ps.map (·.1) then none else H' a) = some o
    rw [if_neg]
    · exact s _ _ (h.same _ _ e)
    · intro m
      obtain ⟨q, hq, z⟩ := List.mem_map.mp m
      have := (h.on q hq).2
      rw [z, e] at this; cases this
  · show (if a ∈ ps.map (·.1) then none else H' a) = some o
    rw [if_neg]
    · exact f
    · intro m
      obtain ⟨q, hq, z⟩ := List.mem_map.mp m
      exact (h.free e).2 q hq z
/-- a new one that is to change -/
theorem Hv.more (h : Hv R H ps) (e : H a = none) (s : Same H H') (f : H' a = some o) : ∃ R', Hv R' H' ((a, o) :: ps) ∧ Same R R' := by
  obtain ⟨ra, na⟩ := h.free e
  obtain ⟨R', h1, h2, h3⟩ := h.grow s
  have s' : Same R (fun c => if c = a then none else R' c) := fun c u z => by
    show (if c = a then none else R' c) = some u
    rw [if_neg (fun y => by rw [y, ra] at z; cases z)]; exact h2 _ _ z
  refine ⟨fun c => if c = a then none else R' c, ⟨fun c n => ?_, fun q hq => ?_, ?_⟩, s'⟩
  · have ca : a ≠ c := n (a, o) (List.mem_cons_self ..)
    rw [if_neg ca.symm]
    exact h1.off c fun q hq => n q (List.mem_cons_of_mem _ hq)
  · rcases List.mem_cons.mp hq with z | z
    · subst z; exact ⟨f, if_pos rfl⟩
    · exact ⟨(h1.on q z).1, by rw [if_neg (na q z)]; exact (h1.on q z).2⟩
  · rw [List.map_cons, List.nodup_cons]
    refine ⟨fun m => ?_, h.nd⟩
    obtain ⟨q, hq, z⟩ := List.mem_map.mp m
    exact na q hq z
/-- what does not change any more -/
theorem Hv.less (h : Hv R H ((a, o) :: ps)) : ∃ R', Hv R' H ps ∧ Same R R' ∧ R' a = some o := by
  have nd := h.nd
  rw [List.map_cons, List.nodup_cons] at nd
  refine ⟨upd R a o, ⟨fun c n => ?_, fun q hq => ⟨(h.on q (List.mem_cons_of_mem _ hq)).1, ?_⟩, nd.2⟩, Gx.same_new (h.on (a, o) (List.mem_cons_self ..)).2, upd_same⟩
  · by_cases ca : c = a
    · subst ca; rw [upd_same]; exact (h.on (c, o) (List.mem_cons_self ..)).1
    · rw [upd_ne ca]
      refine h.off c fun q hq => ?_
      rcases List.mem_cons.mp hq with z | z
      · subst z; exact fun z => ca z.symm
      · exact n q z
  · rw [upd_ne (fun z => nd.1 (by rw [← z]; exact List.mem_map.mpr ⟨q, hq, rfl⟩))]
    exact (h.on q (List.mem_cons_of_mem _ hq)).2
theorem Hv.sw {x y : Addr × HO} (h : Hv R H (x :: y :: ps)) : Hv R H (y :: x :: ps) := h.perm (List.Perm.swap ..)
end
section
variable {R H : Hp} {a b c d e f : Addr} {o p q r s t u : HO} {ps : List (Addr × HO)}
theorem Hv.p0 (h : Hv R H ((a, o) :: ps)) : Hv R (upd H a u) ((a, u) :: ps) := Hv.put (l1 := []) h
theorem Hv.p1 {x1 : Addr × HO} (h : Hv R H (x1 :: (a, o) :: ps)) : Hv R (upd H a u) (x1 :: (a, u) :: ps) := Hv.put (l1 := [x1]) h
theorem Hv.p2 {x1 x2 : Addr × HO} (h : Hv R H (x1 :: x2 :: (a, o) :: ps)) : Hv R (upd H a u) (x1 :: x2 :: (a, u) :: ps) := Hv.put (l1 := [x1, x2]) h
theorem Hv.p3 {x1 x2 x3 : Addr × HO} (h : Hv R H (x1 :: x2 :: x3 :: (a, o) :: ps)) : Hv R (upd H a u) (x1 :: x2 :: x3 :: (a, u) :: ps) := Hv.put (l1 := [x1, x2, x3]) h
theorem Hv.p4 {x1 x2 x3 x4 : Addr × HO} (h : Hv R H (x1 :: x2 :: x3 :: x4 :: (a, o) :: ps)) : Hv R (upd H a u) (x1 :: x2 :: x3 :: x4 :: (a, u) :: ps) := Hv.put (l1 := [x1, x2, x3, x4]) h
theorem Hv.p5 {x1 x2 x3 x4 x5 : Addr × HO} (h : Hv R H (x1 :: x2 :: x3 :: x4 :: x5 :: (a, o) :: ps)) : Hv R (upd H a u) (x1 :: x2 :: x3 :: x4 :: x5 :: (a, u) :: ps) := Hv.put (l1 := [x1, x2, x3, x4, x5]) h
theorem Hv.g0 (h : Hv R H ((a, o) :: ps)) : H a = some o := h.at (List.mem_cons_self ..)
theorem Hv.g1 {x1 : Addr × HO} (h : Hv R H (x1 :: (a, o) :: ps)) : H a = some o := h.at (by simp)
theorem Hv.g2 {x1 x2 : Addr × HO} (h : Hv R H (x1 :: x2 :: (a, o) :: ps)) : H a = some o := h.at (by simp)
theorem Hv.g3 {x1 x2 x3 : Addr × HO} (h : Hv R H (x1 :: x2 :: x3 :: (a, o) :: ps)) : H a = some o := h.at (by simp)
theorem Hv.g4 {x1 x2 x3 x4 : Addr × HO} (h : Hv R H (x1 :: x2 :: x3 :: x4 :: (a, o) :: ps)) : H a = some o := h.at (by simp)
theorem Hv.g5 {x1 x2 x3 x4 x5 : Addr × HO} (h : Hv R H (x1 :: x2 :: x3 :: x4 :: x5 :: (a, o) :: ps)) : H a = some o := h.at (by simp)
end
theorem isiLst {K : PySem.W.Frag} {H : Hp} {Q : VK} {a : Addr} {xs : List V} (h : H a = some (.lst xs)) (q : Q (.bl true) H) : rIsi K [.ref a, .ty "list"] H Q := Gx.isi (.base (.lst h)) q (kit_ty (by decide +kernel))
/-- o.f += n -/
def AFP (K : PySem.W.Frag) (tv : TE) (rd : V → V → Hp → VK → Prop) (f : Str) (x : V) (D : Ends) (σ : L2.St) (H1 : Hp) : Prop := ∃ a C dx fs v, x = .ref a ∧ H1 a = some (.ins C dx fs) ∧ Cls K C ∧ NoAttr K C f ∧ fs.lookup f = some v ∧
  tv σ H1 fun y H2 => rd v y H2 fun z H3 => ∃ dx' fs', H3 a = some (.ins C dx' fs') ∧ fs'.length < 1000 ∧ D.nx σ (upd H3 a (.ins C dx' (putF f z fs')))
theorem fldaug {K : PySem.W.Frag} {ta tv : TE} {rd : V → V → Hp → VK → Prop} {f : Str} {D : Ends} {σ : L2.St} {H : Hp} (q : ta σ H fun x H1 => AFP K tv rd f x D σ H1) : sFldAug K ta tv rd f D σ H := q
theorem afpA {K : PySem.W.Frag} {f : Str} {D : Ends} {σ : L2.St} {H : Hp} {a C dx : Addr} {fs gs : List (Str × V)} {i j : Int} (h : H a = some (.ins C dx fs)) (c : Cls K C) (n : NoAttr K C f) (lk : fs.lookup f = some (.int i)) (l : fs.length < 1000) (e : putF f (.int (i + j)) fs = gs) (q : D.nx σ (upd H a (.ins C dx gs))) : AFP K (tC (.int j)) rAdd f (.ref a) D σ H := ⟨a, C, dx, fs, .int i, rfl, h, c, n, lk, i, j, rfl, rfl, dx, fs, h, l, by rw [e]; exact q⟩
theorem afpS {K : PySem.W.Frag} {f : Str} {D : Ends} {σ : L2.St} {H : Hp} {a C dx : Addr} {fs gs : List (Str × V)} {i j : Int} (h : H a = some (.ins C dx fs)) (c : Cls K C) (n : NoAttr K C f) (lk : fs.lookup f = some (.int i)) (l : fs.length < 1000) (e : putF f (.int (i - j)) fs = gs) (q : D.nx σ (upd H a (.ins C dx gs))) : AFP K (tC (.int j)) rSub f (.ref a) D σ H := ⟨a, C, dx, fs, .int i, rfl, h, c, n, lk, i, j, rfl, rfl, dx, fs, h, l, by rw [e]; exact q⟩
theorem Hv.rot4 {R H : Hp} {a b c d : Addr × HO} {l : List (Addr × HO)} (h : Hv R H (a :: b :: c :: d :: l)) : Hv R H (d :: b :: c :: a :: l) := by
  refine h.perm ?_
  refine (List.Perm.swap b a _).trans ?_
  refine (List.Perm.cons b (List.Perm.swap c a _)).trans ?_
  refine (List.Perm.cons b (List.Perm.cons c (List.Perm.swap d a _))).trans ?_
  refine (List.Perm.cons b (List.Perm.swap d c _)).trans ?_
  exact List.Perm.swap d b _
theorem Hv.rot3 {R H : Hp} {a b c : Addr × HO} {l : List (Addr × HO)} (h : Hv R H (a :: b :: c :: l)) : Hv R H (c :: b :: a :: l) := by
  refine h.perm ?_
  refine (List.Perm.swap b a _).trans ?_
  refine (List.Perm.cons b (List.Perm.swap c a _)).trans ?_
  exact List.Perm.swap c b _
theorem Hv.ofOwn {R0 R H : Hp} {D : Addr} {o : HO} {ps : List (Addr × HO)} (O : Fx.Own R H (Nx.one D o)) (hv : Hv R0 R ps) : Hv R0 H ((D, o) :: ps) := by
  obtain ⟨n0, n1⟩ := hv.free (Nx.no1 O)
  refine ⟨fun a n => ?_, fun q hq => ?_, ?_⟩
  · rw [Nx.off1 O (n (D, o) (List.mem_cons_self ..)).symm]
    exact hv.off a fun q hq => n q (List.mem_cons_of_mem _ hq)
  · rcases List.mem_cons.mp hq with e | e
    · subst e; exact ⟨Nx.at1 O, n0⟩
    · rw [Nx.off1 O (n1 q e)]; exact hv.on q e
  · rw [List.map_cons, List.nodup_cons]
    refine ⟨fun m => ?_, hv.nd⟩
    obtain ⟨q, hq, e⟩ := List.mem_map.mp m
    exact n1 q hq e
theorem Hv.toOwn {R0 H : Hp} {D : Addr} {xs : List V} {ps : List (Addr × HO)} (hv : Hv R0 H ((D, .lst xs) :: ps)) : ∃ R, Fx.Own R H (Nx.one D (.lst xs)) ∧ Hv R0 R ps := by
  have nd := hv.nd
  rw [List.map_cons, List.nodup_cons] at nd
  refine ⟨fun a => if a = D then none else H a, Nx.mk1 (if_pos rfl) trivial hv.g0 fun a ha => (if_neg ha).symm, ⟨fun a n => ?_, fun q hq => ?_, nd.2⟩⟩
  · show (if a = D then none else H a) = R0 a
    by_cases c : a = D
    · rw [if_pos c, c]; exact (hv.on _ (List.mem_cons_self ..)).2.symm
    · rw [if_neg c]
      refine hv.off a fun q hq => ?_
      rcases List.mem_cons.mp hq with e | e
      · subst e; exact fun z => c z.symm
      · exact n q e
  · have ne : q.1 ≠ D := fun z => nd.1 (by rw [← z]; exact List.mem_map.mpr ⟨q, hq, rfl⟩)
    refine ⟨?_, (hv.on q (List.mem_cons_of_mem _ hq)).2⟩
    show (if q.1 = D then none else H q.1) = some q.2
    rw [if_neg ne]; exact (hv.on q (List.mem_cons_of_mem _ hq)).1
/-- a list that came to stand apart is laid down -/
theorem Hv.down {R0 R H : Hp} {D : Addr} {o : HO} {ps : List (Addr × HO)} (O : Fx.Own R H (Nx.one D o)) (hv : Hv R0 R ps) : ∃ R', Hv R' H ps ∧ Same R0 R' ∧ R' D = some o := (Hv.ofOwn O hv).less
theorem Hv.more3 {R H H' : Hp} {ps : List (Addr × HO)} {a : Addr} {o : HO} (h : Hv R H ps) (e : H a = none) (s : Same H H') (f : H' a = some o) : ∃ R', Hv R' H' ((a, o) :: ps) ∧ Same R R' ∧ ∀ c u, c ≠ a → H c = none → H' c = some u → R' c = some u := by
  obtain ⟨R', h1, h2⟩ := h.more e s f
  refine ⟨R', h1, h2, fun c u ca hc hu => ?_⟩
  rw [← h1.off c fun q hq => ?_]
  · exact hu
  · rcases List.mem_cons.mp hq with z | z
    · subst z; exact fun y => ca y.symm
    · exact (h.free hc).2 q z
end Mv

namespace Gy
open PySem L2
/-- the gray bit of v in plane p -/
def gb (v p : Nat) : Nat := (v / 2 ^ p + v / 2 ^ (p + 1)) % 2
theorem gb_int (v p : Nat) : Builtin.bitAnd (Builtin.bitXor ((v : Int) / 2 ^ (p : Int).toNat) ((v : Int) / 2 ^ ((p : Int) + 1).toNat)) 1 = ((gb v p : Nat) : Int) := by
  have e1 : (p : Int).toNat = p := rfl
  have e2 : ((p : Int) + 1).toNat = p + 1 := by omega
  have c (k : Nat) : (v : Int) / 2 ^ k = ((v / 2 ^ k : Nat) : Int) := by
    rw [Int.natCast_ediv, Int.natCast_pow]; rfl
  rw [e1, e2, c, c, Bits.bitXor_pp (Int.natCast_nonneg _) (Int.natCast_nonneg _), Int.toNat_natCast, Int.toNat_natCast]
  have h := Bits.bitAnd_mask (x := ((v / 2 ^ p ^^^ v / 2 ^ (p + 1) : Nat) : Int)) 1 (Int.natCast_nonneg _)
  rw [show (2 : Int) ^ 1 - 1 = 1 by decide] at h
  rw [h]
  have x := @Nat.xor_mod_two_eq_one (v / 2 ^ p) (v / 2 ^ (p + 1))
  unfold gb
  omega
theorem gb_le (v p : Nat) : gb v p ≤ 1 := by unfold gb; omega
/-- the value of gray bits from the highest plane on -/
def vstep (v g : Nat) : Nat := v * 2 + (g ^^^ v % 2)
def val (gs : List Nat) : Nat := gs.foldl vstep 0
theorem vstep_int (v g : Nat) : (v : Int) * 2 + Builtin.bitXor (g : Int) (Builtin.bitAnd (v : Int) 1) = ((vstep v g : Nat) : Int) := by
  have h := Bits.bitAnd_mask (x := (v : Int)) 1 (Int.natCast_nonneg _)
  rw [show (2 : Int) ^ 1 - 1 = 1 by decide, show (2 : Int) ^ 1 = ((2 : Nat) : Int) by decide, ← Int.natCast_emod] at h
  rw [h, Bits.bitXor_pp (Int.natCast_nonneg _) (Int.natCast_nonneg _), Int.toNat_natCast, Int.toNat_natCast]
  unfold vstep
  omega
theorem val_take {gs : List Nat} {i g : Nat} (h : gs[i]? = some g) : ((val (gs.take (i + 1)) : Nat) : Int) = (val (gs.take i) : Int) * 2 + Builtin.bitXor (g : Int) (Builtin.bitAnd (val (gs.take i) : Int) 1) := by
  rw [vstep_int]
  unfold val
  rw [List.take_add_one, h, List.foldl_append]
  rfl

/-- the gray bits of the planes below n, the highest first -/
def grays (v n : Nat) : List Nat := (List.range n).map fun i => gb v (n - 1 - i)
theorem pw (p : Nat) : (1 : Int) * 2 ^ ((p : Nat) : Int).toNat = ((2 ^ p : Nat) : Int) := by
  rw [Int.toNat_natCast, Int.one_mul, Int.natCast_pow]; rfl
theorem pw1 (p : Nat) : (1 : Int) * 2 ^ ((p : Int) + 1).toNat = ((2 ^ (p + 1) : Nat) : Int) := by
  rw [show ((p : Int) + 1).toNat = p + 1 by omega, Int.one_mul, Int.natCast_pow]; rfl
theorem dw {v : Int} {p : Nat} (h : p ≤ 8000) : CDivW v ((2 ^ p : Nat) : Int) := by
  refine wide_div (b := p + 1) ?_ ?_ (Nat.succ_pos _) (by omega)
  · exact Int.natCast_pos.mpr (Nat.two_pow_pos p)
  · rw [Int.natAbs_natCast]; exact Nat.pow_lt_pow_right (by decide) (Nat.lt_succ_self p)
theorem ne_gb (v p : Nat) : (if (!decide ((v : Int) / ((2 ^ p : Nat) : Int) % 2 = (v : Int) / ((2 ^ (p + 1) : Nat) : Int) % 2)) = true then (1 : Int) else 0) = ((gb v p : Nat) : Int) := by
  rw [← Int.natCast_ediv, ← Int.natCast_ediv]
  unfold gb
  generalize v / 2 ^ p = a
  generalize v / 2 ^ (p + 1) = b
  by_cases h : (a : Int) % 2 = (b : Int) % 2
  · rw [decide_eq_true h]
    simp only [Bool.not_true, Bool.false_eq_true, if_false]
    omega
  · rw [decide_eq_false h]
    simp only [Bool.not_false, if_true]
    omega
theorem grays_succ (v n : Nat) : grays v (n + 1) = gb v n :: grays v n := by
  unfold grays
  rw [List.range_succ_eq_map, List.map_cons, List.map_map]
  refine congr (congrArg List.cons (by simp)) ?_
  refine List.map_congr_left fun i hi => ?_
  show gb v (n + 1 - 1 - (i + 1)) = gb v (n - 1 - i)
  congr 1; omega
theorem xor_bit (a b : Nat) (hb : b ≤ 1) : (b ^^^ a % 2) % 2 = (b + a) % 2 ∧ b ^^^ a % 2 ≤ 1 := by
  have h : a % 2 = 0 ∨ a % 2 = 1 := by omega
  have h2 : b = 0 ∨ b = 1 := by omega
  rcases h with h | h <;> rcases h2 with h2 | h2 <;> subst h2 <;> rw [h] <;> simp <;> omega
theorem half (v n : Nat) : v / 2 ^ (n + 1) = v / 2 ^ n / 2 := by rw [Nat.pow_succ, Nat.div_div_eq_div_mul]
theorem vstep_gb (v n : Nat) : vstep (v / 2 ^ (n + 1)) (gb v n) = v / 2 ^ n := by
  unfold vstep gb
  rw [half]
  generalize v / 2 ^ n = a
  have h := xor_bit (a / 2) ((a + a / 2) % 2) (by omega)
  omega
theorem fold_grays (v : Nat) : ∀ n, (grays v n).foldl vstep (v / 2 ^ n) = v
  | 0 => by simp [grays]
  | n + 1 => by rw [grays_succ, List.foldl_cons, vstep_gb, fold_grays v n]
theorem val_grays {v n : Nat} (h : v < 2 ^ n) : val (grays v n) = v := by
  have e := fold_grays v n
  rw [Nat.div_eq_of_lt h] at e
  exact e
theorem fold_bits : ∀ (bs : List Nat) (u : Nat), (∀ b ∈ bs, b ≤ 1) → (bs.foldl vstep u) / 2 ^ bs.length = u ∧ grays (bs.foldl vstep u) bs.length = bs
  | [], u, _ => by simp [grays]
  | b :: bs, u, h => by
    obtain ⟨h1, h2⟩ := fold_bits bs (vstep u b) fun x hx => h x (List.mem_cons_of_mem _ hx)
    have hb := h b (List.mem_cons_self ..)
    rw [List.foldl_cons, List.length_cons]
    generalize hr : bs.foldl vstep (vstep u b) = r at *
    have x := xor_bit u b hb
    have e1 : r / 2 ^ (bs.length + 1) = u := by
      rw [half, h1]; unfold vstep; omega
    refine ⟨e1, ?_⟩
    rw [grays_succ, h2]
    congr 1
    unfold gb
    rw [e1, h1]; unfold vstep; omega
theorem grays_val {bs : List Nat} (h : ∀ b ∈ bs, b ≤ 1) : val bs < 2 ^ bs.length ∧ grays (val bs) bs.length = bs := by
  obtain ⟨h1, h2⟩ := fold_bits bs 0 h
  refine ⟨?_, h2⟩
  have h3 := (Nat.div_eq_zero_iff.mp h1)
  rcases h3 with h3 | h3
  · have := Nat.two_pow_pos bs.length; omega
  · exact h3
theorem nats_of {xs : List Int} (h : ∀ x ∈ xs, 0 ≤ x ∧ x < 2) : ∃ bs : List Nat, xs = bs.map (fun b : Nat => (b : Int)) ∧ ∀ b ∈ bs, b ≤ 1 := by
  refine ⟨xs.map Int.toNat, ?_, ?_⟩
  · rw [List.map_map]
    conv => lhs; rw [← List.map_id xs]
    refine List.map_congr_left fun x hx => ?_
    have := h x hx
    show x = ((x.toNat : Nat) : Int)
    omega
  · intro b hb
    obtain ⟨x, hx, rfl⟩ := List.mem_map.mp hb
    have := h x hx
    omega
theorem gb_top {v n : Nat} (h : v < 2 ^ n) : gb v n = 0 := by
  unfold gb
  rw [Nat.div_eq_of_lt h, Nat.div_eq_of_lt (Nat.lt_trans h (Nat.pow_lt_pow_right (by decide) (Nat.lt_succ_self n)))]
/-- t is the last place from which v + 1 is whole -/
def Last (v n t : Nat) : Prop := t ≤ n ∧ (v + 1) % 2 ^ t = 0
theorem div_step {v k : Nat} : (v + 1) / 2 ^ k = v / 2 ^ k + if (v + 1) % 2 ^ k = 0 then 1 else 0 := by
  have hp := Nat.two_pow_pos k
  have h1 := Nat.div_add_mod (v + 1) (2 ^ k)
  have h2 := Nat.div_add_mod v (2 ^ k)
  have l1 := Nat.mod_lt (v + 1) hp
  have l2 := Nat.mod_lt v hp
  generalize (v + 1) / 2 ^ k = x at *
  generalize v / 2 ^ k = y at *
  generalize (v + 1) % 2 ^ k = r at *
  generalize v % 2 ^ k = s at *
  generalize 2 ^ k = m at *
  have hx : x = y ∨ x = y + 1 := by
    have c1 : ¬ x < y := fun h => by
      have : m * (x + 1) ≤ m * y := Nat.mul_le_mul_left m h
      rw [Nat.mul_add] at this; omega
    have c2 : ¬ y + 1 < x := fun h => by
      have : m * (y + 1 + 1) ≤ m * x := Nat.mul_le_mul_left m h
      rw [Nat.mul_add, Nat.mul_add] at this; omega
    omega
  rcases hx with hx | hx
  · subst hx
    rw [if_neg (by omega)]; omega
  · subst hx
    rw [Nat.mul_add] at h1
    rw [if_pos (by omega)]
theorem whole_of {a k t : Nat} (h : a % 2 ^ t = 0) (hk : k ≤ t) : a % 2 ^ k = 0 :=
  Nat.mod_eq_zero_of_dvd (Nat.dvd_trans (Nat.pow_dvd_pow 2 hk) (Nat.dvd_of_mod_eq_zero h))
/-- the gray bits of v and v + 1 differ in the plane of the greatest power of 2 that divides v + 1 alone -/
theorem gb_diff {v n t : Nat} (hv : v < 2 ^ n) (h1 : t ≤ n) (h2 : (v + 1) % 2 ^ t = 0) (h3 : t < n → (v + 1) % 2 ^ (t + 1) ≠ 0) (k : Nat) : (gb v k ≠ gb (v + 1) k) ↔ k = t := by
  have h4 : (v + 1) % 2 ^ (t + 1) ≠ 0 := by
    by_cases ht : t < n
    · exact h3 ht
    · have e : t = n := by omega
      subst e
      have hp : 2 ^ (t + 1) = 2 ^ t * 2 := Nat.pow_succ ..
      rw [Nat.mod_eq_of_lt (by omega)]; omega
  unfold gb
  rw [div_step (v := v) (k := k), div_step (v := v) (k := k + 1)]
  by_cases hk : k ≤ t
  · rw [if_pos (whole_of h2 hk)]
    by_cases hk2 : k = t
    · subst hk2
      rw [if_neg h4]
      constructor <;> intro _ <;> omega
    · rw [if_pos (whole_of h2 (show k + 1 ≤ t by omega))]
      constructor <;> intro _ <;> omega
  · have z1 : ¬ (v + 1) % 2 ^ k = 0 := fun z => h4 (whole_of z (by omega))
    have z2 : ¬ (v + 1) % 2 ^ (k + 1) = 0 := fun z => h4 (whole_of z (by omega))
    rw [if_neg z1, if_neg z2]
    constructor <;> intro _ <;> omega
theorem filter_one {n t : Nat} {c : Nat → Bool} (ht : t < n) (h : ∀ k, c k = decide (k = t)) : (List.range n).filter c = [t] := by
  induction n with
  | zero => omega
  | succ n ih =>
    rw [List.range_succ, List.filter_append]
    by_cases e : t < n
    · rw [ih e, List.filter_cons, h, decide_eq_false (by omega)]; rfl
    · have e2 : t = n := by omega
      subst e2
      rw [List.filter_cons, h, decide_eq_true rfl, List.filter_eq_nil_iff.mpr (fun k hk => by rw [h, decide_eq_true_eq]; have := List.mem_range.mp hk; omega)]
      rfl
end Gy

namespace Gd
open PySem L2
/-- tiles beside one another -/
def ac (n t : Nat) : Nat := (n + t - 1) / t
theorem ac_int {n t : Nat} (ht : 0 < t) : ((n : Int) + (t : Int) - 1) / (t : Int) = ((ac n t : Nat) : Int) := by
  unfold ac
  rw [Int.natCast_ediv]
  congr 1
  omega
theorem ac_pos {n t : Nat} (hn : 0 < n) (ht : 0 < t) : 0 < ac n t := by
  unfold ac
  exact Nat.div_pos (by omega) ht
theorem ac_le {n t : Nat} (ht : 0 < t) : ac n t ≤ n := by
  unfold ac
  rcases Nat.eq_zero_or_pos n with h | h
  · subst h; rw [Nat.zero_add]; rw [Nat.div_eq_of_lt (by omega)]; exact Nat.le_refl _
  · have := Nat.div_le_of_le_mul (m := n + t - 1) (k := t) (n := n) (by
      have : t * n = t * (n - 1) + t := by rw [← Nat.mul_succ]; congr 1; omega
      have : n - 1 ≤ t * (n - 1) := Nat.le_mul_of_pos_left _ ht
      omega)
    exact this
/-- so large a picture may be -/
theorem room {w h c : Nat} (hh : h ≤ 3072 / (w * c)) (hp : 0 < w * c) : w * h * c ≤ 3072 := by
  have e := (Nat.le_div_iff_mul_le hp).mp hh
  rw [Nat.mul_right_comm, Nat.mul_comm]; exact e
/-- the side of the k-th tile -/
def sd (n t k : Nat) : Nat := min t (n - k * t)
theorem ac_mul {n t k : Nat} (ht : 0 < t) (hk : k < ac n t) : k * t < n := by
  unfold ac at hk
  have h := (Nat.le_div_iff_mul_le ht).mp (Nat.succ_le_of_lt hk)
  rw [Nat.succ_mul] at h
  omega
theorem sd_int {n t k : Nat} (ht : 0 < t) (hk : k < ac n t) : (if (n : Int) - ((k * t : Nat) : Int) < (t : Int) then (n : Int) - ((k * t : Nat) : Int) else (t : Int)) = ((sd n t k : Nat) : Int) := by
  have := ac_mul ht hk
  unfold sd
  generalize k * t = m at *
  split <;> omega
theorem ac_succ {n t : Nat} (ht : 0 < t) : ac (n + 1) t = ac n t + if n % t = 0 then 1 else 0 := by
  unfold ac
  rw [show n + 1 + t - 1 = (n + t - 1) + 1 by omega, Nat.succ_div]
  congr 1
  have e : n + t - 1 + 1 = n + t := by omega
  rw [e]
  by_cases h : n % t = 0
  · rw [if_pos h, if_pos (Nat.dvd_of_mod_eq_zero (by rw [Nat.add_mod_right]; exact h))]
  · rw [if_neg h, if_neg (fun z => h (by have := Nat.mod_eq_zero_of_dvd z; rwa [Nat.add_mod_right] at this))]
/-- every t-th column begins a tile -/
theorem firsts {t : Nat} (ht : 0 < t) : ∀ n, ((List.range n).filter fun i => decide (i % t = 0)).length = ac n t
  | 0 => by unfold ac; rw [Nat.zero_add, Nat.div_eq_of_lt (by omega)]; rfl
  | n + 1 => by
    rw [List.range_succ, List.filter_append, List.length_append, firsts ht n, ac_succ ht]
    congr 1
    by_cases h : n % t = 0
    · rw [if_pos h, List.filter_cons, if_pos (decide_eq_true h)]; rfl
    · rw [if_neg h, List.filter_cons, if_neg (by simpa using h)]; rfl
/-- the columns of one tile -/
theorem side {t k : Nat} (ht : 0 < t) : ∀ n, ((List.range n).filter fun i => decide (i / t = k)) = List.range' (k * t) (sd n t k)
  | 0 => by unfold sd; rw [Nat.zero_sub, Nat.min_zero]; rfl
  | n + 1 => by
    rw [List.range_succ, List.filter_append, side ht n]
    have d1 := Nat.div_mul_le_self n t
    have d2 := Nat.lt_div_mul_add (a := n) ht
    by_cases h : n / t = k
    · rw [List.filter_cons, if_pos (decide_eq_true h)]
      subst h
      have e1 : sd n t (n / t) = n - n / t * t := by unfold sd; omega
      have e2 : sd (n + 1) t (n / t) = (n - n / t * t) + 1 := by unfold sd; omega
      rw [e1, e2, List.range'_concat]
      congr 2
      omega
    · rw [List.filter_cons, if_neg (by simpa using h)]
      have e : sd (n + 1) t k = sd n t k := by
        unfold sd
        rcases Nat.lt_or_ge n (k * t) with z | z
        · omega
        · have : k < n / t := by
            rcases Nat.lt_trichotomy (n / t) k with y | y | y
            · have := (Nat.div_lt_iff_lt_mul ht).mp y; omega
            · exact absurd y h
            · exact y
          have g := (Nat.le_div_iff_mul_le ht).mp (Nat.succ_le_of_lt this)
          rw [Nat.succ_mul] at g
          omega
      rw [e]
      show List.range' _ _ ++ [] = _
      rw [List.append_nil]
theorem sd_pos {n t k : Nat} (ht : 0 < t) (hk : k < ac n t) : 0 < sd n t k := by
  have := ac_mul ht hk
  unfold sd; omega
end Gd

namespace Gd
open PySem L2
def xr (a b : Nat) : Nat := if a = b then 0 else 1
theorem xr_int {a b : Nat} (ha : a ≤ 1) (hb : b ≤ 1) : Builtin.bitXor (a : Int) (b : Int) = ((xr a b : Nat) : Int) := by
  have h1 : a = 0 ∨ a = 1 := by omega
  have h2 : b = 0 ∨ b = 1 := by omega
  rcases h1 with e | e <;> rcases h2 with e2 | e2 <;> subst e <;> subst e2 <;> decide +kernel
theorem xr_ne (a b : Nat) : (if (!decide ((b : Int) = (a : Int))) = true then (1 : Int) else 0) = ((xr a b : Nat) : Int) := by
  unfold xr
  by_cases h : a = b
  · subst h; rw [decide_eq_true rfl, if_pos rfl]; rfl
  · rw [decide_eq_false (fun z => h (by omega)), if_neg h]; rfl
def vl (f : Nat → List Int) (j k : Nat) : Nat := ((f j).getD k 0).toNat
/-- the stored bit -/
def sb (f : Nat → List Int) (c j k p : Nat) : Nat :=
  if c = 1 then Gy.gb (vl f 0 k) p else if j = 0 then Gy.gb (vl f 1 k) p else xr (Gy.gb (vl f 1 k) p) (Gy.gb (vl f (if j = 1 then 0 else 2) k) p)
theorem getD_mem {xs : List Int} {k : Nat} (h : k < xs.length) : xs.getD k 0 ∈ xs := by
  rw [List.getD_eq_getElem?_getD, List.getElem?_eq_getElem h]; exact List.getElem_mem h
theorem vl_int {f : Nat → List Int} {j k : Nat} (h : k < (f j).length) (hz : ∀ z ∈ f j, 0 ≤ z) : (f j).getD k 0 = ((vl f j k : Nat) : Int) := by
  unfold vl
  rw [Int.toNat_of_nonneg (hz _ (getD_mem h))]
end Gd

namespace Pq
open PySem L2
/-- the rows of a picture: whether they are right -/
def rowOk (n d : Nat) (r : List Int) : Prop := r.length = n ∧ ∀ z ∈ r, 0 ≤ z ∧ z < ((2 ^ d : Nat) : Int)
def rowsOk (n d c : Nat) (rows : List (List Int)) : Prop := rows.length = c ∧ ∀ r ∈ rows, rowOk n d r
instance (n d : Nat) (r : List Int) : Decidable (rowOk n d r) := inferInstanceAs (Decidable (_ ∧ _))
instance (n d c : Nat) (rows : List (List Int)) : Decidable (rowsOk n d c rows) := inferInstanceAs (Decidable (_ ∧ _))
def pictBad (w h d c : Int) (rows : List (List Int)) : Option Str := match Sx.kindBad w h d c with
  | some z => some z
  | none => if w * h * c > 3072 then some "size" else if rowsOk (w * h).toNat d.toNat c.toNat rows then none else some "values"
/-- rows as they stand -/
def RW (H : Hp) (l : Addr) (rows : List (List Int)) : Prop := Gx.LL H l rows.length (fun j => rows.getD j [])
theorem RW.keep {H H' : Hp} {l : Addr} {rows : List (List Int)} (x : RW H l rows) (s : Same H H') : RW H' l rows := Gx.LL.keep x s
theorem RW.all {H : Hp} {l : Addr} {rows : List (List Int)} (x : RW H l rows) : ∃ xs, H l = some (.lst xs) ∧ xs.length = rows.length ∧ ∀ j v, xs[j]? = some v → ∃ a, v = .ref a ∧ j < rows.length ∧ H a = some (.lst ((rows.getD j []).map V.int)) := by
  obtain ⟨ps, h1, h2, h3⟩ := x
  refine ⟨_, h1, by rw [List.length_map]; exact h2, fun j v e => ?_⟩
  rw [List.getElem?_map] at e
  cases ea : ps[j]? with
  | none => rw [ea] at e; cases e
  | some a =>
    rw [ea] at e
    have hj := (List.getElem?_eq_some_iff.mp ea).1
    exact ⟨a, (Option.some.inj e).symm, by omega, h3 j a ea⟩
theorem rowsAt {rows : List (List Int)} {j : Nat} (h : j < rows.length) : rows.getD j [] ∈ rows := by
  rw [List.getD_eq_getElem?_getD, List.getElem?_eq_getElem h]; exact List.getElem_mem h
theorem eqvRows : ∀ xs ys : List (List Int), PyData.eqvAll (xs.map fun r => PyData.list (r.map PyData.int)) (ys.map fun r => PyData.list (r.map PyData.int)) = decide (xs = ys)
  | [], [] => by simp [PyData.eqvAll]
  | [], _ :: _ => by simp [PyData.eqvAll]
  | _ :: _, [] => by simp [PyData.eqvAll]
  | x :: xs, y :: ys => by
    simp only [List.map_cons, PyData.eqvAll, PyData.eqv, eqvRows xs ys, Gx.eqvAll_int]
    by_cases h : x = y
    · subst h; simp
    · simp [h]
theorem rows_range (rows : List (List Int)) : (List.range rows.length).map (fun j => rows.getD j []) = rows := by
  refine List.ext_getElem (by simp) fun i h1 h2 => ?_
  rw [List.getElem_map, List.getElem_range, List.getD_eq_getElem?_getD, List.getElem?_eq_getElem h2]; rfl
theorem RW.dp {K : PySem.W.Frag} {H : Hp} {l : Addr} {rows : List (List Int)} (x : RW H l rows) : Dp K H (.ref l) (.list (rows.map fun r => PyData.list (r.map PyData.int))) := by
  have := Gx.LL.dp (K := K) x
  rw [rows_range] at this
  exact this
theorem eqRW {K : PySem.W.Frag} {H : Hp} {Q : VK} {l m : Addr} {xs ys : List (List Int)} (x : RW H l xs) (y : RW H m ys) (q : Q (.bl (decide (xs = ys))) H) : rEqD K (.ref l) (.ref m) H Q :=
  ⟨_, _, x.dp, y.dp, Gx.shaped_lists _, Gx.shaped_lists _, by rw [show PyData.eqv (.list (xs.map fun r => PyData.list (r.map PyData.int))) (.list (ys.map fun r => PyData.list (r.map PyData.int))) = decide (xs = ys) from eqvRows xs ys]; exact q⟩
theorem neRW {K : PySem.W.Frag} {H : Hp} {Q : VK} {l m : Addr} {xs ys : List (List Int)} (x : RW H l xs) (y : RW H m ys) (q : Q (.bl (!decide (xs = ys))) H) : rNeD K (.ref l) (.ref m) H Q :=
  ⟨_, _, x.dp, y.dp, Gx.shaped_lists _, Gx.shaped_lists _, by rw [show PyData.eqv (.list (xs.map fun r => PyData.list (r.map PyData.int))) (.list (ys.map fun r => PyData.list (r.map PyData.int))) = decide (xs = ys) from eqvRows xs ys]; exact q⟩
theorem RW.of {H : Hp} {l : Addr} {n : Nat} {f : Nat → List Int} {rows : List (List Int)} (x : Gx.LL H l n f) (hn : rows.length = n) (e : ∀ j, j < n → f j = rows.getD j []) : RW H l rows := by
  subst hn
  exact Gx.LL.congr x e
/-- new rows, all different -/
def LN (H0 H : Hp) (l : Addr) (n : Nat) (f : Nat → List Int) : Prop := ∃ ps : List Addr, H l = some (.lst (ps.map V.ref)) ∧ ps.length = n ∧ ps.Nodup ∧ (∀ a ∈ ps, H0 a = none ∧ a ≠ l) ∧ ∀ j a, ps[j]? = some a → H a = some (.lst ((f j).map V.int))
theorem LN.ll {H0 H : Hp} {l : Addr} {n : Nat} {f : Nat → List Int} (x : LN H0 H l n f) : Gx.LL H l n f := by
  obtain ⟨ps, h1, h2, _, _, h5⟩ := x
  exact ⟨ps, h1, h2, h5⟩
theorem lcLN {K : PySem.W.Frag} {σ : L2.St} {H : Hp} {Q : VK} {t : TT} {te : TE} {J : It} {n : Nat} {G : Hp → Prop} {Y : Nat → Hp → V → Hp → Prop} {g : TG} {vs : List Nat} (w : Walk J n G Y) (hn : n < 16777216) (f : Nat → List Int) (hG : ∀ H', Same H H' → G H') (hY : ∀ i H x H', Y i H x H' → Same H H')
    (hs : ∀ i x H1 H' (R : V → Hp → Prop) (R0 : Hp → Prop), i < n → Same H H1 → Y i H1 x H' → (∀ p H4, H' p = none → Same H' H4 → H4 p = some (.lst ((f i).map V.int)) → R (.ref p) H4) →
      g x (wipe σ vs) H' fun σ2 H2 => Gx.WP (wipe σ2 vs = wipe σ vs) (t σ2 H2 fun b H3 => Gx.IfP b (te σ2 H3 R) (R0 H3)))
    (q : ∀ p H2, H p = none → Same H H2 → LN H H2 p n f → Q (.ref p) H2) : Gx.LcP J g t te vs σ Q H := fun p hp => by
  refine lc_it w (fun i H' => Same H H' ∧ LN H H' p i f) ⟨Gx.same_new hp, [], upd_same, rfl, List.nodup_nil, (fun a h => nomatch h), fun j a e => nomatch e⟩ (fun i H' _ h => hG H' h.1) (fun i x H1 H' hi h y => ?_) (fun H' h => q p H' hp h.1 h.2)
  obtain ⟨h1, ps, e1, e2, e3, e4, e5⟩ := h
  have s1 := hY i H1 x H' y
  refine hs i x H1 H' _ _ hi h1 y (fun a H4 hf s4 ha => ?_)
  have hap : a ≠ p := (ne_of_none (s1 _ _ e1) hf).symm
  have hnm : a ∉ ps := fun hm => by
    obtain ⟨j, hj⟩ := List.getElem?_of_mem hm
    have := s1 _ _ (e5 j a hj)
    rw [hf] at this; cases this
  refine ⟨ps.map V.ref, s4 _ _ (s1 _ _ e1), by rw [List.length_map, sizeLine_eq]; omega, Gx.same_up hp (h1.trans (s1.trans s4)), ps ++ [a], by rw [upd_same, List.map_append]; rfl, by rw [List.length_append, e2]; rfl, ?_, fun b hb => ?_, fun j b eb => ?_⟩
  · refine List.nodup_append.mpr ⟨e3, List.pairwise_singleton _ _, fun b hb c hc => ?_⟩
    rw [List.mem_singleton.mp hc]
    rintro rfl
    exact hnm hb
  · rcases List.mem_append.mp hb with hb | hb
    · exact e4 b hb
    · rw [List.mem_singleton.mp hb]
      exact ⟨h1.free (s1.free hf), hap⟩
  · by_cases hj : j < ps.length
    · rw [List.getElem?_append_left hj] at eb
      rw [upd_ne (e4 b (List.mem_of_getElem? eb)).2]
      exact s4 _ _ (s1 _ _ (e5 j b eb))
    · rw [List.getElem?_append_right (by omega)] at eb
      have hj2 : j - ps.length = 0 := by
        rcases Nat.eq_zero_or_pos (j - ps.length) with z | z
        · exact z
        · rw [List.getElem?_eq_none (by show 1 ≤ _; omega)] at eb; cases eb
      rw [hj2] at eb
      cases eb
      rw [upd_ne hap, show j = i by omega]; exact ha
/-- one number of one row changed -/
theorem LN.put {H0 H : Hp} {l : Addr} {n j k : Nat} {f : Nat → List Int} {z : Int} (x : LN H0 H l n f) (hj : j < n) : ∃ xs a, H l = some (.lst xs) ∧ atI xs (j : Int) = some (.ref a) ∧ H a = some (.lst ((f j).map V.int)) ∧ H0 a = none ∧ LN H0 (upd H a (.lst (((f j).set k z).map V.int))) l n (fun i => if i = j then (f j).set k z else f i) := by
  obtain ⟨ps, e1, e2, e3, e4, e5⟩ := x
  have hj2 : j < ps.length := by omega
  have ha := e5 j _ (List.getElem?_eq_getElem hj2)
  have hm := e4 _ (List.getElem_mem hj2)
  refine ⟨_, ps[j], e1, atI_nat (by rw [List.getElem?_map, List.getElem?_eq_getElem hj2]; rfl), ha, hm.1, ps, by rw [upd_ne (Ne.symm hm.2)]; exact e1, e2, e3, e4, fun i b eb => ?_⟩
  dsimp only
  by_cases hij : i = j
  · subst hij
    rw [List.getElem?_eq_getElem hj2] at eb
    cases eb
    rw [upd_same, if_pos rfl]
  · have hb : b ≠ ps[j] := fun hb => hij (by
      have hi2 := (List.getElem?_eq_some_iff.mp eb).1
      exact (List.getElem?_inj hi2 e3).mp (by rw [eb, List.getElem?_eq_getElem hj2, hb]))
    rw [upd_ne hb, if_neg hij]; exact e5 i b eb
theorem set_ok {n d c j k : Nat} {z : Int} {f : List (List Int)} (ok : rowsOk n d c f) (hj : j < c) (hz : 0 ≤ z ∧ z < ((2 ^ d : Nat) : Int)) : rowsOk n d c (f.set j ((f.getD j []).set k z)) := by
  have hjf : j < f.length := by have := ok.1; omega
  refine ⟨by rw [List.length_set]; exact ok.1, fun r hr => ?_⟩
  rcases List.mem_or_eq_of_mem_set hr with h | h
  · exact ok.2 r h
  · have o := ok.2 _ (rowsAt hjf)
    rw [h]
    refine ⟨by rw [List.length_set]; exact o.1, fun y hy => ?_⟩
    rcases List.mem_or_eq_of_mem_set hy with g | g
    · exact o.2 y g
    · rw [g]; exact hz
theorem set_rows {j k : Nat} {z : Int} {f : List (List Int)} (hj : j < f.length) : (fun i => if i = j then ((f.getD j []).set k z) else f.getD i []) = fun i => (f.set j ((f.getD j []).set k z)).getD i [] := by
  funext i
  by_cases h : i = j
  · subst h
    rw [if_pos rfl, List.getD_eq_getElem?_getD (l := f.set _ _), List.getElem?_set_self hj]; rfl
  · rw [if_neg h, List.getD_eq_getElem?_getD, List.getD_eq_getElem?_getD, List.getElem?_set_ne (fun e => h e.symm)]
/-- rows and where they stand -/
def RP (H : Hp) : List Addr → List (List Int) → Prop
  | [], [] => True
  | a :: ps, r :: rs => H a = some (.lst (r.map V.int)) ∧ RP H ps rs
  | _, _ => False
theorem RP.of {H : Hp} : ∀ {ps : List Addr} {rows : List (List Int)}, ps.length = rows.length → (∀ j a, ps[j]? = some a → H a = some (.lst ((rows.getD j []).map V.int))) → RP H ps rows
  | [], [], _, _ => trivial
  | a :: ps, r :: rs, hl, h => ⟨h 0 a rfl, RP.of (Nat.succ.inj hl) fun j b e => by have := h (j + 1) b (by simpa using e); simpa using this⟩
  | [], _ :: _, hl, _ => by cases hl
  | _ :: _, [], hl, _ => by cases hl
theorem RP.to {H : Hp} : ∀ {ps : List Addr} {rows : List (List Int)}, RP H ps rows → ps.length = rows.length ∧ ∀ j a, ps[j]? = some a → H a = some (.lst ((rows.getD j []).map V.int))
  | [], [], _ => ⟨rfl, fun j a e => by cases e⟩
  | a :: ps, r :: rs, h => by
    obtain ⟨h1, h2⟩ := RP.to h.2
    refine ⟨congrArg (· + 1) h1, fun j b e => ?_⟩
    cases j with
    | zero => cases e; exact h.1
    | succ j => have := h2 j b (by simpa using e); simpa using this
  | [], _ :: _, h => h.elim
  | _ :: _, [], h => h.elim
theorem RP.app {H : Hp} : ∀ {ps qs : List Addr} {rows rs : List (List Int)}, RP H ps rows → RP H qs rs → RP H (ps ++ qs) (rows ++ rs)
  | [], _, [], _, _, h => h
  | _ :: _, _, _ :: _, _, h, g => ⟨h.1, RP.app h.2 g⟩
  | [], _, _ :: _, _, h, _ => h.elim
  | _ :: _, _, [], _, h, _ => h.elim
theorem RP.take {H : Hp} : ∀ {k : Nat} {ps : List Addr} {rows : List (List Int)}, RP H ps rows → RP H (ps.take k) (rows.take k)
  | 0, _, _, _ => trivial
  | _ + 1, [], [], _ => trivial
  | _ + 1, _ :: _, _ :: _, h => ⟨h.1, RP.take h.2⟩
  | _ + 1, [], _ :: _, h => h.elim
  | _ + 1, _ :: _, [], h => h.elim
theorem RP.keep {H H' : Hp} (s : Same H H') : ∀ {ps : List Addr} {rows : List (List Int)}, RP H ps rows → RP H' ps rows
  | [], [], _ => trivial
  | _ :: _, _ :: _, h => ⟨s _ _ h.1, RP.keep s h.2⟩
  | [], _ :: _, h => h.elim
  | _ :: _, [], h => h.elim
theorem RW.rp {H : Hp} {l : Addr} {rows : List (List Int)} (x : RW H l rows) : ∃ ps : List Addr, H l = some (.lst (ps.map V.ref)) ∧ RP H ps rows := by
  obtain ⟨ps, h1, h2, h3⟩ := x
  exact ⟨ps, h1, RP.of h2 h3⟩
theorem RP.rw {H : Hp} {l : Addr} {ps : List Addr} {rows : List (List Int)} (h : H l = some (.lst (ps.map V.ref))) (x : RP H ps rows) : RW H l rows := ⟨ps, h, x.to.1, x.to.2⟩
theorem LN.down {H0 H R : Hp} {l : Addr} {n : Nat} {f : Nat → List Int} (x : LN H0 H l n f) (hl : H0 l = none) (g : ∀ a o, H0 a = none → H a = some o → R a = some o) : Gx.LL R l n f := by
  obtain ⟨ps, h1, h2, _, h4, h5⟩ := x
  exact ⟨ps, g _ _ hl h1, h2, fun j a e => g _ _ (h4 a (List.mem_of_getElem? e)).1 (h5 j a e)⟩
theorem cutR (ps : List Addr) (m : Nat) (h : m ≤ ps.length) : cutV (ps.map V.ref) none (some (m : Int)) = (ps.take m).map V.ref := by
  unfold cutV
  rw [HT.sIx_nat, List.length_map, Nat.min_eq_left h]
  show ((ps.map V.ref).drop 0).take (m - 0) = _
  rw [List.drop_zero, Nat.sub_zero, List.map_take]
theorem cutI (ps : List Int) (m : Nat) (h : m ≤ ps.length) : cutV (ps.map V.int) none (some (m : Int)) = (ps.take m).map V.int := by
  unfold cutV
  rw [HT.sIx_nat, List.length_map, Nat.min_eq_left h]
  show ((ps.map V.int).drop 0).take (m - 0) = _
  rw [List.drop_zero, Nat.sub_zero, List.map_take]
theorem rowOk_getD {n d c j : Nat} {f : List (List Int)} (ok : rowsOk n d c f) (h : j < c) : rowOk n d (f.getD j []) := ok.2 _ (rowsAt (by have := ok.1; omega))
theorem rowsOk_range {n d c : Nat} {f : Nat → List Int} (h : ∀ j, j < c → (f j).length = n ∧ ∀ z ∈ f j, 0 ≤ z ∧ z < ((2 ^ d : Nat) : Int)) : rowsOk n d c ((List.range c).map f) := by
  refine ⟨by simp, fun r hr => ?_⟩
  obtain ⟨j, hj, rfl⟩ := List.mem_map.mp hr
  exact h j (List.mem_range.mp hj)
theorem getD_range {c j : Nat} {f : Nat → List Int} (h : j < c) : ((List.range c).map f).getD j [] = f j := by
  rw [List.getD_eq_getElem?_getD, List.getElem?_map, List.getElem?_range h]; rfl
theorem LN.keep {H0 H H' : Hp} {l : Addr} {n : Nat} {f : Nat → List Int} (x : LN H0 H l n f) (s : Same H H') : LN H0 H' l n f := by
  obtain ⟨ps, h1, h2, h3, h4, h5⟩ := x
  exact ⟨ps, s _ _ h1, h2, h3, h4, fun j a e => s _ _ (h5 j a e)⟩
/-- one row taken to be changed -/
theorem LN.at {H0 H : Hp} {l : Addr} {n j : Nat} {f : Nat → List Int} (x : LN H0 H l n f) (hj : j < n) : ∃ xs a, H l = some (.lst xs) ∧ xs.length = n ∧ atI xs (j : Int) = some (.ref a) ∧ H a = some (.lst ((f j).map V.int)) ∧ H0 a = none ∧ a ≠ l ∧ ∀ (H' : Hp) (ys : List Int), Same H H' → LN H0 (upd H' a (.lst (ys.map V.int))) l n (fun i => if i = j then ys else f i) := by
  obtain ⟨ps, e1, e2, e3, e4, e5⟩ := x
  have hj2 : j < ps.length := by omega
  have ha := e5 j _ (List.getElem?_eq_getElem hj2)
  have hm := e4 _ (List.getElem_mem hj2)
  refine ⟨_, ps[j], e1, by rw [List.length_map]; exact e2, atI_nat (by rw [List.getElem?_map, List.getElem?_eq_getElem hj2]; rfl), ha, hm.1, hm.2, fun H' ys s => ⟨ps, by rw [upd_ne (Ne.symm hm.2)]; exact s _ _ e1, e2, e3, e4, fun i b eb => ?_⟩⟩
  dsimp only
  by_cases hij : i = j
  · subst hij
    rw [List.getElem?_eq_getElem hj2] at eb
    cases eb
    rw [upd_same, if_pos rfl]
  · have hb : b ≠ ps[j] := fun hb => hij (by
      have hi2 := (List.getElem?_eq_some_iff.mp eb).1
      exact (List.getElem?_inj hi2 e3).mp (by rw [eb, List.getElem?_eq_getElem hj2, hb]))
    rw [upd_ne hb, if_neg hij]; exact s _ _ (e5 i b eb)
theorem set_rowsY {j : Nat} {ys : List Int} {f : List (List Int)} (hj : j < f.length) : (fun i => if i = j then ys else f.getD i []) = fun i => (f.set j ys).getD i [] := by
  funext i
  by_cases h : i = j
  · subst h
    rw [if_pos rfl, List.getD_eq_getElem?_getD (l := f.set _ _), List.getElem?_set_self hj]; rfl
  · rw [if_neg h, List.getD_eq_getElem?_getD, List.getD_eq_getElem?_getD, List.getElem?_set_ne (fun e => h e.symm)]
/-- a row more, a row less -/
theorem LN.more {H0 H H' : Hp} {l t : Addr} {f : List (List Int)} {ys : List Int} (x : LN H0 H l f.length (fun j => f.getD j [])) (s : Same H H') (ht : H' t = some (.lst (ys.map V.int))) (ne : t ≠ l) : ∃ xs, H l = some (.lst xs) ∧ xs.length = f.length ∧ RW (upd H' l (.lst (xs ++ [.ref t]))) l (f ++ [ys]) := by
  obtain ⟨ps, h1, h2, h3, h4, h5⟩ := x
  refine ⟨_, h1, by rw [List.length_map]; exact h2, RP.rw (ps := ps ++ [t]) (by rw [upd_same, List.map_append]; rfl) (RP.app (RP.of h2 fun j a e => ?_) ⟨by rw [upd_ne ne]; exact ht, trivial⟩)⟩
  rw [upd_ne (h4 a (List.mem_of_getElem? e)).2]
  exact s _ _ (h5 j a e)
theorem LN.less {H0 H H' : Hp} {l : Addr} {f : List (List Int)} (x : LN H0 H l f.length (fun j => f.getD j [])) (s : Same H H') (hf : 1 ≤ f.length) : ∃ xs y, H l = some (.lst xs) ∧ xs[xs.length - 1]? = some y ∧ RW (upd H' l (.lst xs.dropLast)) l f.dropLast := by
  obtain ⟨ps, h1, h2, h3, h4, h5⟩ := x
  have hp : ps.length - 1 < ps.length := by omega
  refine ⟨_, .ref ps[ps.length - 1], h1, by rw [List.length_map, List.getElem?_map, List.getElem?_eq_getElem hp]; rfl, RP.rw (ps := ps.dropLast) (by rw [upd_same, List.map_dropLast]) ?_⟩
  rw [List.dropLast_eq_take (l := ps), List.dropLast_eq_take (l := f), h2]
  refine RP.take (RP.of h2 fun j a e => ?_)
  rw [upd_ne (h4 a (List.mem_of_getElem? e)).2]
  exact s _ _ (h5 j a e)
/-- what stands, without what was made between -/
def cutB (H0 H1 H : Hp) : Hp := fun a => match H0 a, H1 a with
  | none, some _ => none
  | _, _ => H a
theorem cutB_same {H0 H1 H : Hp} : Same (cutB H0 H1 H) H := fun a o e => by
  unfold cutB at e
  split at e
  · cases e
  · exact e
theorem cutB_old {H0 H1 H : Hp} (s : Same H0 H) : Same H0 (cutB H0 H1 H) := fun a o e => by
  unfold cutB
  rw [e]; exact s _ _ e
theorem cutB_new {H0 H1 H : Hp} {a : Addr} (h : H1 a = none) : cutB H0 H1 H a = H a := by
  unfold cutB
  rw [h]
  cases H0 a <;> rfl
theorem cutB_mid {H0 H1 H : Hp} {a : Addr} {o : HO} (h0 : H0 a = none) (h1 : H1 a = some o) : cutB H0 H1 H a = none := by
  unfold cutB
  rw [h0, h1]
theorem LN.offB {H0 H1 H : Hp} {l : Addr} {n : Nat} {f : Nat → List Int} (x : LN H1 H l n f) (hl : H1 l = none) : Gx.LL (cutB H0 H1 H) l n f := by
  obtain ⟨qs, h1, h2, h3, h4, h5⟩ := x
  exact ⟨qs, by rw [cutB_new hl]; exact h1, h2, fun j a e => by rw [cutB_new (h4 a (List.mem_of_getElem? e)).1]; exact h5 j a e⟩
end Pq

namespace Dk
open PySem L2
/-! a disk: blocks, the writes that wait, cuts, what is left before the cut, what is torn -/
def BL (R : Hp) (vs : List V) (bs : List (List Int)) : Prop := vs.length = bs.length ∧ ∀ (i : Nat) (v : V), vs[i]? = some v → ∃ (a : Addr) (b : List Int), v = .ref a ∧ bs[i]? = some b ∧ R a = some (.lst (b.map V.int))
def PL (mk : List V → HO) (R : Hp) (vs : List V) (es : List (Nat × List Int)) : Prop := vs.length = es.length ∧ ∀ (i : Nat) (v : V), vs[i]? = some v → ∃ (t a : Addr) (e : Nat × List Int), v = .ref t ∧ es[i]? = some e ∧ R t = some (mk [.int (e.1 : Int), .ref a]) ∧ R a = some (.lst (e.2.map V.int))
section
variable {R R' : Hp} {vs : List V} {bs : List (List Int)} {es : List (Nat × List Int)} {mk : List V → HO}
theorem BL.keep (h : BL R vs bs) (s : Same R R') : BL R' vs bs := ⟨h.1, fun i v e => by
  obtain ⟨a, b, h1, h2, h3⟩ := h.2 i v e
  exact ⟨a, b, h1, h2, s _ _ h3⟩⟩
theorem PL.keep (h : PL mk R vs es) (s : Same R R') : PL mk R' vs es := ⟨h.1, fun i v e => by
  obtain ⟨t, a, b, h1, h2, h3, h4⟩ := h.2 i v e
  exact ⟨t, a, b, h1, h2, s _ _ h3, s _ _ h4⟩⟩
theorem BL.get {i : Nat} (h : BL R vs bs) (hi : i < bs.length) : ∃ a, vs[i]? = some (.ref a) ∧ R a = some (.lst ((bs.getD i []).map V.int)) := by
  have hv : i < vs.length := by rw [h.1]; exact hi
  obtain ⟨a, b, h1, h2, h3⟩ := h.2 i _ (List.getElem?_eq_getElem hv)
  exact ⟨a, by rw [List.getElem?_eq_getElem hv, h1], by rw [List.getD_eq_getElem?_getD, h2]; exact h3⟩
theorem BL.set {i : Nat} {a : Addr} {b : List Int} (h : BL R vs bs) (ha : R a = some (.lst (b.map V.int))) : BL R (vs.set i (.ref a)) (bs.set i b) := ⟨by simp [h.1], fun j v e => by
  rw [List.getElem?_set] at e ⊢
  by_cases c : i = j
  · subst c
    rw [if_pos rfl] at e ⊢
    by_cases l : i < vs.length
    · rw [if_pos l] at e
      rw [if_pos (by rw [← h.1]; exact l)]
      cases e
      exact ⟨a, b, rfl, rfl, ha⟩
    · rw [if_neg l] at e; cases e
  · rw [if_neg c] at e ⊢
    exact h.2 j v e⟩
theorem PL.nil : PL mk R [] [] := ⟨rfl, fun i v e => by simp at e⟩
theorem PL.snoc {t a : Addr} {e : Nat × List Int} (h : PL mk R vs es) (ht : R t = some (mk [.int (e.1 : Int), .ref a])) (ha : R a = some (.lst (e.2.map V.int))) : PL mk R (vs ++ [.ref t]) (es ++ [e]) := ⟨by simp [h.1], fun j v q => by
  have hl := h.1
  rcases Nat.lt_trichotomy j vs.length with c | c | c
  · rw [List.getElem?_append_left c] at q
    obtain ⟨t', a', e', h1, h2, h3, h4⟩ := h.2 j v q
    exact ⟨t', a', e', h1, by rw [List.getElem?_append_left (by omega)]; exact h2, h3, h4⟩
  · rw [List.getElem?_append_right (by omega), show j - vs.length = 0 by omega] at q
    cases q
    exact ⟨t, a, e, rfl, by rw [List.getElem?_append_right (by omega), show j - es.length = 0 by omega]; rfl, ht, ha⟩
  · rw [List.getElem?_eq_none (by simp; omega)] at q; cases q⟩
theorem PL.get {i : Nat} (h : PL mk R vs es) (hi : i < es.length) : ∃ t a e, vs[i]? = some (.ref t) ∧ es[i]? = some e ∧ R t = some (mk [.int (e.1 : Int), .ref a]) ∧ R a = some (.lst (e.2.map V.int)) := by
  have hv : i < vs.length := by rw [h.1]; exact hi
  obtain ⟨t, a, e, h1, h2, h3, h4⟩ := h.2 i _ (List.getElem?_eq_getElem hv)
  exact ⟨t, a, e, by rw [List.getElem?_eq_getElem hv, h1], h2, h3, h4⟩
end
structure St where
  bl : List (List Int)
  pe : List (Nat × List Int)
  cu : Nat
  lf : Option Nat
  tn : List Int
def lfV : Option Nat → V
  | none => .non
  | some n => .int (n : Int)
def zs : List Int := List.replicate 32 0
def s0 (n : Nat) : St := ⟨List.replicate n zs, [], 0, none, []⟩
def tear (n : Int) (new old : List Int) : List Int := new.take n.toNat ++ old.drop n.toNat
def cutS : List Int → List (List Int) → List (Nat × List Int) → List (List Int)
  | _, bs, [] => bs
  | tn, bs, e :: r => cutS tn.tail (bs.set e.1 (tear (tn.headD 0) e.2 (bs.getD e.1 []))) r
def St.cut (s : St) (tn : List Int) : St := ⟨cutS tn s.bl s.pe, [], s.cu + 1, none, s.tn⟩
def flB (bs : List (List Int)) (pe : List (Nat × List Int)) : List (List Int) := pe.foldl (fun b e => b.set e.1 e.2) bs
/-- a write or flush counted, if the power stays -/
def less : Option Nat → Option Nat
  | none => none
  | some n => some (n - 1)
def St.use (s : St) : St := ⟨s.bl, s.pe, s.cu, less s.lf, s.tn⟩
def St.write (s : St) (a : Nat) (b : List Int) : St := ⟨s.bl, s.pe ++ [(a, b)], s.cu, s.lf, s.tn⟩
def St.flush (s : St) : St := ⟨flB s.bl s.pe, [], s.cu, s.lf, s.tn⟩
def rd (s : St) (a : Nat) : List Int := s.pe.foldl (fun f e => if e.1 = a then e.2 else f) (s.bl.getD a [])
def BOk (b : List Int) : Prop := b.length = 32 ∧ ∀ z ∈ b, 0 ≤ z ∧ z ≤ 255
def TOk (t : List Int) : Prop := ∀ z ∈ t, 0 ≤ z ∧ z ≤ 32
instance (b : List Int) : Decidable (BOk b) := by unfold BOk; infer_instance
instance (b : List Int) : Decidable (TOk b) := by unfold TOk; infer_instance
/-- what a disk of n blocks keeps -/
structure Wf (n m : Nat) (s : St) : Prop where
  n1 : 4 ≤ n
  n2 : n ≤ 400
  bn : s.bl.length = n
  bb : ∀ b ∈ s.bl, BOk b
  pn : s.pe.length ≤ m
  pb : ∀ e ∈ s.pe, e.1 < n ∧ BOk e.2
  tn : TOk s.tn
  tl : s.tn.length ≤ 100000
  lf : ∀ k, s.lf = some k → k ≤ 100000
theorem zs_ok : BOk zs := by unfold zs; exact ⟨by simp, fun z h => by rw [List.eq_of_mem_replicate h]; omega⟩
theorem wf0 {n : Nat} (h1 : 4 ≤ n) (h2 : n ≤ 400) : Wf n 0 (s0 n) := ⟨h1, h2, by simp [s0], fun b h => by rw [List.eq_of_mem_replicate h]; exact zs_ok, Nat.le_refl _, (fun e h => nomatch h), (fun e h => nomatch h), Nat.zero_le _, (fun k h => nomatch h)⟩
theorem set_ok {bs : List (List Int)} {i : Nat} {b : List Int} (h : ∀ b ∈ bs, BOk b) (hb : BOk b) : ∀ c ∈ bs.set i b, BOk c := fun c hc => by
  rcases List.mem_or_eq_of_mem_set hc with e | e
  · exact h c e
  · rw [e]; exact hb
theorem tear_ok {n : Int} {a b : List Int} (ha : BOk a) (hb : BOk b) : BOk (tear n a b) := by
  obtain ⟨a1, a2⟩ := ha
  obtain ⟨b1, b2⟩ := hb
  refine ⟨by unfold tear; simp [a1, b1]; omega, fun z h => ?_⟩
  unfold tear at h
  rcases List.mem_append.mp h with e | e
  · exact a2 z (List.mem_of_mem_take e)
  · exact b2 z (List.mem_of_mem_drop e)
theorem tear0 {a b : List Int} : tear 0 a b = b := by unfold tear; simp
theorem getD_ok {bs : List (List Int)} {i : Nat} (h : ∀ b ∈ bs, BOk b) (hi : i < bs.length) : BOk (bs.getD i []) := by
  rw [List.getD_eq_getElem?_getD, List.getElem?_eq_getElem hi]
  exact h _ (List.getElem_mem hi)
theorem cutS_len : ∀ {tn : List Int} {bs : List (List Int)} {pe : List (Nat × List Int)}, (cutS tn bs pe).length = bs.length
  | _, _, [] => rfl
  | _, _, e :: r => by unfold cutS; rw [cutS_len, List.length_set]
theorem cutS_ok {n : Nat} : ∀ {tn : List Int} {bs : List (List Int)} {pe : List (Nat × List Int)}, bs.length = n → (∀ b ∈ bs, BOk b) → (∀ e ∈ pe, e.1 < n ∧ BOk e.2) → ∀ b ∈ cutS tn bs pe, BOk b
  | _, _, [], _, h, _ => h
  | tn, bs, e :: r, hn, h, g => by
    obtain ⟨g1, g2⟩ := g e (List.mem_cons_self ..)
    unfold cutS
    exact cutS_ok (by rw [List.length_set]; exact hn) (set_ok h (tear_ok g2 (getD_ok h (by omega)))) fun f hf => g f (List.mem_cons_of_mem _ hf)
theorem flB_len : ∀ {bs : List (List Int)} {pe : List (Nat × List Int)}, (flB bs pe).length = bs.length
  | _, [] => rfl
  | bs, e :: r => by
    show (flB (bs.set e.1 e.2) r).length = _
    rw [flB_len, List.length_set]
theorem flB_ok {n : Nat} : ∀ {bs : List (List Int)} {pe : List (Nat × List Int)}, (∀ b ∈ bs, BOk b) → (∀ e ∈ pe, e.1 < n ∧ BOk e.2) → ∀ b ∈ flB bs pe, BOk b
  | _, [], h, _ => h
  | bs, e :: r, h, g => flB_ok (bs := bs.set e.1 e.2) (pe := r) (set_ok h (g e (List.mem_cons_self ..)).2) fun f hf => g f (List.mem_cons_of_mem _ hf)
theorem Wf.mono {n m k : Nat} {s : St} (w : Wf n m s) (h : m ≤ k) : Wf n k s := ⟨w.n1, w.n2, w.bn, w.bb, Nat.le_trans w.pn h, w.pb, w.tn, w.tl, w.lf⟩
theorem Wf.cut {n m : Nat} {s : St} {t : List Int} (w : Wf n m s) : Wf n 0 (s.cut t) := ⟨w.n1, w.n2, cutS_len.trans w.bn, cutS_ok w.bn w.bb w.pb, Nat.le_refl _, (fun e h => nomatch h), w.tn, w.tl, (fun k h => nomatch h)⟩
theorem Wf.use {n m : Nat} {s : St} (w : Wf n m s) : Wf n m s.use := ⟨w.n1, w.n2, w.bn, w.bb, w.pn, w.pb, w.tn, w.tl, fun k h => by
  cases e : s.lf with
  | none => unfold St.use less at h; rw [e] at h; cases h
  | some j => unfold St.use less at h; rw [e] at h; have := w.lf j e; cases h; omega⟩
theorem Wf.write {n m a : Nat} {b : List Int} {s : St} (w : Wf n m s) (ha : a < n) (hb : BOk b) : Wf n (m + 1) (s.write a b) := ⟨w.n1, w.n2, w.bn, w.bb, by unfold St.write; rw [List.length_append]; have := w.pn; show _ + 1 ≤ _; omega, fun e he => by
  rcases List.mem_append.mp he with h | h
  · exact w.pb e h
  · rw [List.mem_singleton] at h; rw [h]; exact ⟨ha, hb⟩, w.tn, w.tl, w.lf⟩
theorem Wf.flush {n m : Nat} {s : St} (w : Wf n m s) : Wf n 0 s.flush := ⟨w.n1, w.n2, flB_len.trans w.bn, flB_ok w.bb w.pb, Nat.le_refl _, (fun e h => nomatch h), w.tn, w.tl, w.lf⟩
theorem rd_ok {n m a : Nat} {s : St} (w : Wf n m s) (ha : a < n) : BOk (rd s a) := by
  have key : ∀ (pe : List (Nat × List Int)) (f : List Int), BOk f → (∀ e ∈ pe, e.1 < n ∧ BOk e.2) → BOk (pe.foldl (fun f e => if e.1 = a then e.2 else f) f) := by
    intro pe
    induction pe with
    | nil => intro f h _; exact h
    | cons e r ih =>
      intro f h g
      refine ih _ ?_ fun x hx => g x (List.mem_cons_of_mem _ hx)
      show BOk (if e.1 = a then e.2 else f)
      split
      · exact (g e (List.mem_cons_self ..)).2
      · exact h
  exact key _ _ (getD_ok w.bb (by rw [w.bn]; exact ha)) w.pb
def In (R : Hp) (rest : List (Addr × HO)) (a : Addr) (o : HO) : Prop := R a = some o ∨ (a, o) ∈ rest
theorem In.keep {R R' : Hp} {rest : List (Addr × HO)} {a : Addr} {o : HO} (i : In R rest a o) (s : Same R R') : In R' rest a o := i.imp (s _ _) id
theorem cutTo (xs : List V) (m : Nat) (h : m ≤ xs.length) : cutV xs none (some (m : Int)) = xs.take m := by
  unfold cutV
  rw [HT.sIx_nat, Nat.min_eq_left h]
  show (xs.drop 0).take (m - 0) = _
  rw [List.drop_zero, Nat.sub_zero]
theorem cutFrom (xs : List V) (m : Nat) (h : m ≤ xs.length) : cutV xs (some (m : Int)) none = xs.drop m := by
  unfold cutV
  rw [HT.sIx_nat, Nat.min_eq_left h]
  show (xs.drop m).take (xs.length - m) = _
  rw [List.take_of_length_le (by rw [List.length_drop]; omega)]
theorem cutS_app : ∀ {t : List Int} {bs : List (List Int)} {l : List (Nat × List Int)} {e : Nat × List Int}, cutS t bs (l ++ [e]) = (cutS t bs l).set e.1 (tear (t.getD l.length 0) e.2 ((cutS t bs l).getD e.1 []))
  | t, bs, [], e => by
    show (bs.set e.1 (tear (t.headD 0) e.2 (bs.getD e.1 []))) = bs.set e.1 (tear (t.getD 0 0) e.2 (bs.getD e.1 []))
    cases t <;> rfl
  | t, bs, f :: l, e => by
    rw [List.cons_append]
    unfold cutS
    rw [cutS_app (l := l), List.length_cons]
    have : t.tail.getD l.length 0 = t.getD (l.length + 1) 0 := by cases t <;> simp
    rw [this]
theorem ixN_nat {n i : Nat} (h : i < n) : ixN n (i : Int) = some i := by
  unfold ixN
  rw [if_pos (by omega), if_pos (by omega)]
  exact congrArg some (Int.toNat_natCast _)
theorem flB_app {bs : List (List Int)} {l : List (Nat × List Int)} {e : Nat × List Int} : flB bs (l ++ [e]) = (flB bs l).set e.1 e.2 := by
  unfold flB; rw [List.foldl_append]; rfl
def St.sch (s : St) (k : Nat) (t : List Int) : St := ⟨s.bl, s.pe, s.cu, some k, t⟩
theorem Wf.sch {n m k : Nat} {s : St} {t : List Int} (w : Wf n m s) (hk : k ≤ 100000) (ht : TOk t) (hl : t.length ≤ 100000) : Wf n m (s.sch k t) := ⟨w.n1, w.n2, w.bn, w.bb, w.pn, w.pb, ht, hl, fun j h => by cases h; exact hk⟩
theorem BL.ofLN {H0 H R : Hp} {l : Addr} {n : Nat} {f : Nat → List Int} {bs : List (List Int)} (x : Pq.LN H0 H l n f) (hn : bs.length = n) (e : ∀ j, j < n → f j = bs.getD j []) (g : ∀ a o, H0 a = none → a ≠ l → H a = some o → R a = some o) : ∃ vs, H l = some (.lst vs) ∧ BL R vs bs := by
  obtain ⟨ps, h1, h2, h3, h4, h5⟩ := x
  refine ⟨ps.map V.ref, h1, by rw [List.length_map, h2, hn], fun i v q => ?_⟩
  rw [List.getElem?_map] at q
  cases hpi : ps[i]? with
  | none => rw [hpi] at q; cases q
  | some a =>
    rw [hpi] at q
    cases q
    have hi : i < n := by rw [← h2]; exact (List.getElem?_eq_some_iff.mp hpi).1
    have hm := h4 a (List.mem_of_getElem? hpi)
    have hb : bs[i]? = some (bs.getD i []) := by rw [List.getD_eq_getElem?_getD, List.getElem?_eq_getElem (by omega)]; rfl
    exact ⟨a, bs.getD i [], rfl, hb, g _ _ hm.1 hm.2 (by rw [← e i hi]; exact h5 i a hpi)⟩
theorem BL.rw {R H : Hp} {l : Addr} {vs : List V} {bs : List (List Int)} (h : BL R vs bs) (s : Same R H) (hl : H l = some (.lst vs)) : Pq.RW H l bs := by
  have hp : ∃ ps : List Addr, vs = ps.map V.ref := by
    have key : ∀ (ws : List V), (∀ v ∈ ws, ∃ a, v = V.ref a) → ∃ ps : List Addr, ws = ps.map V.ref := by
      intro ws
      induction ws with
      | nil => intro _; exact ⟨[], rfl⟩
      | cons w ws ih =>
        intro hw
        obtain ⟨a, ha⟩ := hw w (List.mem_cons_self ..)
        obtain ⟨ps, hps⟩ := ih fun v hv => hw v (List.mem_cons_of_mem _ hv)
        exact ⟨a :: ps, by rw [List.map_cons, ha, hps]⟩
    refine key vs fun v hv => ?_
    obtain ⟨i, hi, rfl⟩ := List.getElem_of_mem hv
    obtain ⟨a, b, e, _⟩ := h.2 i _ (List.getElem?_eq_getElem hi)
    exact ⟨a, e⟩
  obtain ⟨ps, rfl⟩ := hp
  refine ⟨ps, hl, by rw [← h.1, List.length_map], fun j a e => ?_⟩
  obtain ⟨a', b, e1, e2, e3⟩ := h.2 j (.ref a) (by rw [List.getElem?_map, e]; rfl)
  cases e1
  dsimp only
  rw [List.getD_eq_getElem?_getD, e2]
  exact s _ _ e3
theorem set_same {bs : List (List Int)} {i : Nat} (h : i < bs.length) : bs.set i (bs.getD i []) = bs := by
  rw [List.getD_eq_getElem?_getD, List.getElem?_eq_getElem h]
  exact List.set_getElem_self h
/-- past the torn ones nothing changes -/
theorem cutS_past {n : Nat} {t : List Int} {bs : List (List Int)} {pe : List (Nat × List Int)} (hn : bs.length = n) (g : ∀ e ∈ pe, e.1 < n) : ∀ k, t.length ≤ k → k ≤ pe.length → cutS t bs (pe.take k) = cutS t bs (pe.take t.length) := by
  intro k
  induction k with
  | zero => intro h _; rw [Nat.le_zero.mp h]
  | succ k ih =>
    intro h1 h2
    rcases Nat.lt_or_ge k t.length with c | c
    · rw [show k + 1 = t.length by omega]
    · have hk : k < pe.length := by omega
      rw [← ih c (by omega), List.take_add_one, List.getElem?_eq_getElem hk]
      show cutS t bs (pe.take k ++ [pe[k]]) = _
      rw [cutS_app, List.length_take, Nat.min_eq_left (by omega), show t.getD k 0 = 0 by rw [List.getD_eq_getElem?_getD, List.getElem?_eq_none c]; rfl, tear0]
      exact set_same (by rw [cutS_len, hn]; exact g _ (List.getElem_mem hk))
theorem cutS_min {n : Nat} {t : List Int} {bs : List (List Int)} {pe : List (Nat × List Int)} (hn : bs.length = n) (g : ∀ e ∈ pe, e.1 < n) : cutS t bs (pe.take (min t.length pe.length)) = cutS t bs pe := by
  rcases Nat.le_total t.length pe.length with c | c
  · rw [Nat.min_eq_left c, ← cutS_past hn g pe.length c (Nat.le_refl _), List.take_length]
  · rw [Nat.min_eq_right c, List.take_length]
theorem cut_nil {n m : Nat} {s : St} (w : Wf n m s) : (s.cut []).bl = s.bl := by
  show cutS [] s.bl s.pe = s.bl
  rw [← cutS_min w.bn (fun e he => (w.pb e he).1)]
  show cutS [] s.bl (s.pe.take (min 0 _)) = _
  rw [Nat.zero_min, List.take_zero]
  rfl
end Dk

/-! several except clauses, with and without a name: each takes what the ones before let by. -/
namespace Tm
open PySem PySem.Spec PyProof.Rows L2
inductive Hd (X : Cx) : List ExceptHandler → (WX → Ends → WX) → Prop
  | nil : Hd X [] fun W _ => W
  | named {x n : Str} {i : Nat} {c : Value} {ts : Addr → Value → Option Addr → TS} {b0 : Stmt} {su : List Stmt} {np p : Pos} {hs : List ExceptHandler} {w : WX → Ends → WX} (hi : X.N[i]? = some n) (hl : X.env.kindOf n = some .local) (hc : Names X x c)
      (run : ∀ (a : Addr) (oe : Obj) (cls : Value) (d : Option Addr) (pn : List (Addr × Obj)), Zc cls d oe → (∃ vs, oe.data = .fields vs) → PSs (X.suite a ((a, oe) :: pn)) (b0 :: su) (ts a cls d)) (r : Hd X hs w) :
      Hd X (.ExceptHandler (some (.Name x np)) (some n) (b0 :: su) p :: hs) fun W D => wAs X.K c i ts (w W D) D
  | only {x : Str} {c : Value} {ts : Addr → Value → Option Addr → TS} {b0 : Stmt} {su : List Stmt} {np p : Pos} {hs : List ExceptHandler} {w : WX → Ends → WX} (hc : Names X x c)
      (run : ∀ (a : Addr) (oe : Obj) (cls : Value) (d : Option Addr) (pn : List (Addr × Obj)), Zc cls d oe → (∃ vs, oe.data = .fields vs) → PSs (X.suite a ((a, oe) :: pn)) (b0 :: su) (ts a cls d)) (r : Hd X hs w) :
      Hd X (.ExceptHandler (some (.Name x np)) none (b0 :: su) p :: hs) fun W D => wOnly X.K c ts (w W D) D
theorem named_name {X : Cx} {x : Str} {c : Value} {np : Pos} {a : Addr} {pn : List (Addr × Obj)} {σ : L2.St} {H : Hp} {s : Shared} {oe : Obj} (hc : Names X x c) (S : Inv (X.suite a ((a, oe) :: pn)) [] σ H s) {Q : Value → Shared → Prop} {E : Value → Shared → Prop} (q : Q c s) :
    wpAny (model X.prog X.w) (X.A.mark (some (.ref a))) (eval (.Name x np) X.env) Q E s := by
  obtain ⟨hg, hd, hm | ⟨hm, hv, hn⟩⟩ := hc
  · exact ld_glob (X := X.suite a ((a, oe) :: pn)) S hg hm q hd
  · exact ld_blt (X := X.suite a ((a, oe) :: pn)) S hg hm hv q hn hd
theorem ps_try {X : Cx} {body : List Stmt} {hs : List ExceptHandler} {h0 : ExceptHandler} {pos : Pos} {tb : WX → TS} {Wout : WX} {w : WX → Ends → WX} (hst : X.stack = X.env :: X.outer) (hf : X.env.frame = some X.env.locals) (hN : X.N.Nodup) (tk : Takes X Wout)
    (hb : ∀ (W : WX) (pn : List (Addr × Obj)) (xe : Value → Shared → Prop), Takes (X.tr pn xe) W → PassesOwn (model X.prog X.w) X.A X.env xe → PSs (X.tr pn xe) body (tb W))
    (hh : Hd X (h0 :: hs) w) : PS X (.Try body (h0 :: hs) [] [] pos) (fun D σ H => tb (w Wout D) D σ H) := by
  refine ⟨fun pins s σ H D I h => wpAny_Try_except (wpAny_mono ((hb (w Wout D) (X.pn ++ pins) (fun e s₁ => wpAny (model X.prog X.w) X.A (noteFrame e X.env) (fun _ s₂ => wpAny (model X.prog X.w) X.A (setFlight e none) (fun _ s₃ =>
    wpAny (model X.prog X.w) X.A (handleBy e X.env (h0 :: hs)) (SP X pins D) X.xe s₃) X.xe s₂) X.xe s₁) (fun u t xx => ?_) PassesOwn.looking).run [] s σ H D (I.toTry _) h) (fun f s1 k => ?_) (fun e s1 he => he))⟩
  · obtain ⟨a, B, sI, pins', σ', H', cls, d, rfl, J', nb, up, sky, na, os, ag, want⟩ := xx
    have ok := I.ok
    have J : Inv X pins σ' H' sI := J'.ofTry ok
    refine Sky.land Zc.steady (by rw [ok.frames, hst]) hf (by rw [← hst]; exact sky) fun g fl upg => ?_
    obtain ⟨oe, vs, he, hz, hd⟩ := fl.there
    have out : a ∉ frs (X.env :: X.outer) := fun hm => by
      obtain ⟨_, o', e', no⟩ := fl.2.2.1.mem hm
      rw [he] at e'; cases e'
      exact no _ hd
    have n1 : a ≠ X.env.locals := fun z => out (List.mem_filterMap.mpr ⟨X.env, List.mem_cons_self, by rw [hf, z]⟩)
    have n2 : a ∉ X.fs := fun hm => by
      obtain ⟨e, h1, h2⟩ := List.mem_filterMap.mp hm
      exact out (List.mem_filterMap.mpr ⟨e, List.mem_cons_of_mem _ h1, h2⟩)
    have Jg : Inv X pins σ' H' { t with heap := g } := J.landed nb fl.1 (up.trans upg) os ag
    have Sg := Jg.suite he hd na n1 n2
    -- the clauses, one after another
    have go : ∀ {l : List ExceptHandler} {w' : WX → Ends → WX}, Hd X l w' → w' Wout D cls d σ' H' → wpAny (model X.prog X.w) X.A (handleBy (.ref a) X.env l) (SP X pins D) X.xe { t with heap := g } := by
      intro l w' hl
      have kind : PySem.W.Looks (model X.prog X.w) g (typeOf (.ref a)) cls := fun A Q E s k q => wpAny_typeOf_ref (k _ _ he) (by rw [hz.1]; exact q)
      induction hl with
      | nil =>
        intro want
        obtain ⟨_, _, _, oe2, vs2, T, oT, _, e2, _, d2, e3, _⟩ := id fl
        refine wpAny_handleBy_nil ?_
        unfold PySem.passOn
        refine wpAny_bind (wpAny_field e2 d2 e3 ?_)
        rw [if_neg (show ¬ ((Value.ref T == Value.none) = true) from by simp)]
        have last : wpAny (model X.prog X.w) X.A (setFlight (.ref a) X.env.frame) (fun _ s4 => wpAny (model X.prog X.w) X.A (throw (.ref a) : Sem Flow) (SP X pins D) X.xe s4) X.xe { t with heap := g } := by
          rw [hf]
          exact HandSPX.setFlight_upZ fl fun g2 sky2 up2 => wpAny_throw (tk _ _ ⟨a, B, sI, pins, σ', H', cls, d, rfl, J, nb, (up.trans upg).trans up2, .inr (.inr (by rw [hst]; exact sky2)), na, os, ag, want⟩)
        first
          | exact wpAny_bind (wpAny_pure (wpAny_bind last))
          | exact wpAny_bind last
      | named hi hl2 hc run r ih =>
        rintro ⟨b, hb1, yes, no⟩
        refine wpAny_handleBy_cons (codeAny_handlers_test (named_name hc Sg ((PySem.W.exm_one (M := model X.prog X.w) Jg.kIn kind hb1).here ?_))) (by intro q; cases q)
        cases b with
        | false => exact ih (no rfl)
        | true =>
          refine codeAny_handlers_suite_as (HandSPX.lands_againZ fl fun g2 fl2 up2 => ?_)
          obtain ⟨oe2, vs2, e2, z2, d2⟩ := fl2.there
          have S2 := (J.landed nb fl2.1 ((up.trans upg).trans up2) os ag : Inv X pins σ' H' { t with heap := g2 }).suite e2 d2 na n1 n2
          refine store_ok (X := X.suite a ((a, oe2) :: (X.pn ++ pins))) (v := .ref a) S2 hN hi (.inl hl2) rfl (fun s5 S5 => ?_) (.inr hl2)
          refine wpAny_mono ((run a oe2 cls d (X.pn ++ pins) z2 ⟨_, d2⟩).run [] s5 _ H' _ S5 (yes rfl a na)) (fun f s6 k => ?_) (fun _ _ z => False.elim z)
          cases f with
          | ret u =>
            obtain ⟨v6, σ6, H6, S6, r6, q6⟩ := k
            exact gone_ok (S6.unsuite ok) hN hi hl2 fun s7 J7 => ⟨_, _, _, J7, r6, q6⟩
          | _ =>
            obtain ⟨σ6, H6, S6, q6⟩ := k
            exact gone_ok (S6.unsuite ok) hN hi hl2 fun s7 J7 => ⟨_, _, J7, q6⟩
      | only hc run r ih =>
        rintro ⟨b, hb1, yes, no⟩
        refine wpAny_handleBy_cons (codeAny_handlers_test (named_name hc Sg ((PySem.W.exm_one (M := model X.prog X.w) Jg.kIn kind hb1).here ?_))) (by intro q; cases q)
        cases b with
        | false => exact ih (no rfl)
        | true =>
          refine codeAny_handlers_suite (HandSPX.lands_againZ fl fun g2 fl2 up2 => ?_)
          obtain ⟨oe2, vs2, e2, z2, d2⟩ := fl2.there
          have S2 := (J.landed nb fl2.1 ((up.trans upg).trans up2) os ag : Inv X pins σ' H' { t with heap := g2 }).suite e2 d2 na n1 n2
          refine wpAny_mono ((run a oe2 cls d (X.pn ++ pins) z2 ⟨_, d2⟩).run [] _ _ H' _ S2 (yes rfl a na)) (fun f s6 k => ?_) (fun _ _ z => False.elim z)
          cases f with
          | ret u =>
            obtain ⟨v6, σ6, H6, S6, r6, q6⟩ := k
            exact ⟨_, _, _, S6.unsuite ok, r6, q6⟩
          | _ =>
            obtain ⟨σ6, H6, S6, q6⟩ := k
            exact ⟨_, _, S6.unsuite ok, q6⟩
    exact go hh want
  · cases f with
    | next =>
      obtain ⟨σ', H', J', q⟩ := k
      exact wpAny_execs_nil ⟨σ', H', J'.ofTry I.ok, q⟩
    | ret u =>
      obtain ⟨v, σ', H', J', r, q⟩ := k
      exact ⟨v, σ', H', J'.ofTry I.ok, r, q⟩
    | _ =>
      obtain ⟨σ', H', J', q⟩ := k
      exact ⟨σ', H', J'.ofTry I.ok, q⟩
/-! a clause lets it by; takes it -/
section
variable {K : PySem.W.Frag} {c : Value} {i : Nat} {ts : Addr → Value → Option Addr → TS} {W : WX} {D : Ends} {cls : Value} {d : Option Addr} {σ : L2.St} {H : Hp}
theorem by_as (h : PySem.W.exmOne K cls c = some false) (q : W cls d σ H) : wAs K c i ts W D cls d σ H := ⟨false, h, fun z => Bool.noConfusion z, fun _ => q⟩
theorem by_only (h : PySem.W.exmOne K cls c = some false) (q : W cls d σ H) : wOnly K c ts W D cls d σ H := ⟨false, h, fun z => Bool.noConfusion z, fun _ => q⟩
theorem took_only (h : PySem.W.exmOne K cls c = some true) (q : ∀ a, H a = none → ts a cls d D σ H) : wOnly K c ts W D cls d σ H := ⟨true, h, fun _ => q, fun z => Bool.noConfusion z⟩
end
end Tm

namespace My
open PySem L2
def top (i : Nat) : Stmt := PySem.Challenge.pw_packetpicture_k74_disk_reads_and_flushes.main.body.getD i (.Pass ⟨0, 0, 0, 0⟩)
abbrev s_check_range : Stmt := top 6
abbrev s_Disk___init__ : Stmt := inClass (top 13) 0
abbrev s_law_refusal : Stmt := top 23
abbrev s_law_draw : Stmt := top 17
abbrev s_Disk_size : Stmt := inClass (top 13) 1
abbrev s_Disk_cut_count : Stmt := inClass (top 13) 9
abbrev s_Disk_pending_count : Stmt := inClass (top 13) 8
abbrev s_law_read : Stmt := top 24
abbrev s_Disk__check_at : Stmt := inClass (top 13) 2
abbrev s_Disk_read : Stmt := inClass (top 13) 3
abbrev s_Disk__cut : Stmt := inClass (top 13) 7
abbrev s_check_torn : Stmt := top 12
abbrev s_Disk_cut_power : Stmt := inClass (top 13) 10
abbrev s_Disk__use_power : Stmt := inClass (top 13) 6
abbrev s_check_block : Stmt := top 11
abbrev s_Disk_write : Stmt := inClass (top 13) 4
abbrev s_law_call_raw : Stmt := top 21
abbrev s_law_call : Stmt := top 22
abbrev s_law_block : Stmt := top 20
abbrev s_law_wrong : Stmt := top 25
abbrev s_law_torn : Stmt := top 19
abbrev s_Disk_flush : Stmt := inClass (top 13) 5
abbrev s_law_cell : Stmt := top 15
abbrev s_law_digits : Stmt := top 16
abbrev s_law : Stmt := top 26
/-- a def of the text as it stands behind the top -/
structure DefAt (K : PySem.W.Frag) (mg : Str → Option Value) (x : Str) (st : Stmt) (ps : List Str) where
  a : Addr
  d : FuncData
  f : Fun K x x st a d
  g : mg x = some (.ref a)
  b : Binds K d ps []
structure MethAt (K : PySem.W.Frag) (C : Addr) (x q : Str) (st : Stmt) (ps : List Str) where
  a : Addr
  d : FuncData
  f : Fun K x q st a d
  b : Binds K d ps []
  m : Meth K C x a
abbrev s_OutOfRange___init__ : Stmt := inClass (top 3) 0
structure Tx (P : Program) (K : PySem.W.Frag) (mg : Str → Option Value) where
  a_Disk : Addr
  cl_Disk : Cls K a_Disk
  g_Disk : mg "Disk" = some (.ref a_Disk)
  mk_Disk : PySem.W.makesIn K a_Disk = true
  kp_Disk : PySem.W.keepIn K (.ref a_Disk) = true
  na_Disk__blocks : NoAttr K a_Disk "_blocks"
  na_Disk__pending : NoAttr K a_Disk "_pending"
  na_Disk__cuts : NoAttr K a_Disk "_cuts"
  na_Disk__left : NoAttr K a_Disk "_left"
  na_Disk__torn : NoAttr K a_Disk "_torn"
  check_range : DefAt K mg "check_range" s_check_range ["name", "value", "least", "most"]
  Disk___init__ : MethAt K a_Disk "__init__" "Disk.__init__" s_Disk___init__ ["self", "blocks"]
  law_refusal : DefAt K mg "_law_refusal" s_law_refusal ["blocks"]
  law_draw : DefAt K mg "_law_draw" s_law_draw ["box", "many"]
  Disk_size : MethAt K a_Disk "size" "Disk.size" s_Disk_size ["self"]
  Disk_cut_count : MethAt K a_Disk "cut_count" "Disk.cut_count" s_Disk_cut_count ["self"]
  Disk_pending_count : MethAt K a_Disk "pending_count" "Disk.pending_count" s_Disk_pending_count ["self"]
  law_read : DefAt K mg "_law_read" s_law_read ["blocks", "pending", "at"]
  Disk__check_at : MethAt K a_Disk "_check_at" "Disk._check_at" s_Disk__check_at ["self", "at"]
  Disk_read : MethAt K a_Disk "read" "Disk.read" s_Disk_read ["self", "at"]
  Disk__cut : MethAt K a_Disk "_cut" "Disk._cut" s_Disk__cut ["self", "torn"]
  check_torn : DefAt K mg "check_torn" s_check_torn ["torn"]
  Disk_cut_power : MethAt K a_Disk "cut_power" "Disk.cut_power" s_Disk_cut_power ["self", "torn"]
  Disk__use_power : MethAt K a_Disk "_use_power" "Disk._use_power" s_Disk__use_power ["self"]
  check_block : DefAt K mg "check_block" s_check_block ["block"]
  Disk_write : MethAt K a_Disk "write" "Disk.write" s_Disk_write ["self", "at", "block"]
  law_call_raw : DefAt K mg "_law_call_raw" s_law_call_raw ["disk", "which", "one", "two"]
  law_call : DefAt K mg "_law_call" s_law_call ["disk", "which", "one", "two"]
  law_block : DefAt K mg "_law_block" s_law_block ["box"]
  law_wrong : DefAt K mg "_law_wrong" s_law_wrong ["box", "disk", "size"]
  law_torn : DefAt K mg "_law_torn" s_law_torn ["box", "many"]
  Disk_flush : MethAt K a_Disk "flush" "Disk.flush" s_Disk_flush ["self"]
  law_cell : DefAt K mg "_law_cell" s_law_cell ["script", "k"]
  law_digits : DefAt K mg "_law_digits" s_law_digits ["script", "first", "last"]
  law : DefAt K mg "law" s_law ["script"]
  x_OutOfRange : Sx.ExcAt P K mg "OutOfRange" "OutOfRange.__init__" s_OutOfRange___init__ ["self", "name"]
  y_PictureError : Sx.BareAt K mg "PictureError"
  y_PowerCut : Sx.BareAt K mg "PowerCut"
  nf_OutOfRange_name : PySem.W.findIn K (.ref x_OutOfRange.C) "name" = some none
  em_OutOfRange_PictureError : PySem.W.exmOne K (.ref x_OutOfRange.C) (.ref y_PictureError.C) = some true
  em_PowerCut_OutOfRange : PySem.W.exmOne K (.ref y_PowerCut.C) (.ref x_OutOfRange.C) = some false
  em_PowerCut_PictureError : PySem.W.exmOne K (.ref y_PowerCut.C) (.ref y_PictureError.C) = some true
  n_enumerate : mg "enumerate" = none
  n_int : mg "int" = none
  n_isinstance : mg "isinstance" = none
  n_len : mg "len" = none
  n_list : mg "list" = none
  n_max : mg "max" = none
  n_min : mg "min" = none
  n_range : mg "range" = none
  n_str : mg "str" = none
  t_BLOCK : Tok
  c_BLOCK : mg "BLOCK" = some (.int 32 t_BLOCK)
  t_BLOCKS_LEAST : Tok
  c_BLOCKS_LEAST : mg "BLOCKS_LEAST" = some (.int 4 t_BLOCKS_LEAST)
  t_BLOCKS_MOST : Tok
  c_BLOCKS_MOST : mg "BLOCKS_MOST" = some (.int 400 t_BLOCKS_MOST)
section
variable {P : Program} {w : World} {K : PySem.W.Frag} {mg : Str → Option Value} {base : Heap}
def fl_Disk (v0 v1 v2 v3 v4 : V) : List (Str × V) := [("_blocks", v0), ("_pending", v1), ("_cuts", v2), ("_left", v3), ("_torn", v4)]
theorem ne_Disk__blocks___pending : ((Str.ofString "_blocks") = Str.ofString "_pending") = False := eq_false (by decide +kernel)
theorem ne_Disk__blocks___cuts : ((Str.ofString "_blocks") = Str.ofString "_cuts") = False := eq_false (by decide +kernel)
theorem ne_Disk__blocks___left : ((Str.ofString "_blocks") = Str.ofString "_left") = False := eq_false (by decide +kernel)
theorem ne_Disk__blocks___torn : ((Str.ofString "_blocks") = Str.ofString "_torn") = False := eq_false (by decide +kernel)
theorem ne_Disk__blocks____init__ : ((Str.ofString "_blocks") = Str.ofString "__init__") = False := eq_false (by decide +kernel)
theorem ne_Disk__blocks__size : ((Str.ofString "_blocks") = Str.ofString "size") = False := eq_false (by decide +kernel)
theorem ne_Disk__blocks___check_at : ((Str.ofString "_blocks") = Str.ofString "_check_at") = False := eq_false (by decide +kernel)
theorem ne_Disk__blocks__read : ((Str.ofString "_blocks") = Str.ofString "read") = False := eq_false (by decide +kernel)
theorem ne_Disk__blocks__write : ((Str.ofString "_blocks") = Str.ofString "write") = False := eq_false (by decide +kernel)
theorem ne_Disk__blocks__flush : ((Str.ofString "_blocks") = Str.ofString "flush") = False := eq_false (by decide +kernel)
theorem ne_Disk__blocks___use_power : ((Str.ofString "_blocks") = Str.ofString "_use_power") = False := eq_false (by decide +kernel)
theorem ne_Disk__blocks___cut : ((Str.ofString "_blocks") = Str.ofString "_cut") = False := eq_false (by decide +kernel)
theorem ne_Disk__blocks__pending_count : ((Str.ofString "_blocks") = Str.ofString "pending_count") = False := eq_false (by decide +kernel)
theorem ne_Disk__blocks__cut_count : ((Str.ofString "_blocks") = Str.ofString "cut_count") = False := eq_false (by decide +kernel)
theorem ne_Disk__blocks__cut_power : ((Str.ofString "_blocks") = Str.ofString "cut_power") = False := eq_false (by decide +kernel)
theorem ne_Disk__blocks__schedule_cut : ((Str.ofString "_blocks") = Str.ofString "schedule_cut") = False := eq_false (by decide +kernel)
theorem ne_Disk__pending___blocks : ((Str.ofString "_pending") = Str.ofString "_blocks") = False := eq_false (by decide +kernel)
theorem ne_Disk__pending___cuts : ((Str.ofString "_pending") = Str.ofString "_cuts") = False := eq_false (by decide +kernel)
theorem ne_Disk__pending___left : ((Str.ofString "_pending") = Str.ofString "_left") = False := eq_false (by decide +kernel)
theorem ne_Disk__pending___torn : ((Str.ofString "_pending") = Str.ofString "_torn") = False := eq_false (by decide +kernel)
theorem ne_Disk__pending____init__ : ((Str.ofString "_pending") = Str.ofString "__init__") = False := eq_false (by decide +kernel)
theorem ne_Disk__pending__size : ((Str.ofString "_pending") = Str.ofString "size") = False := eq_false (by decide +kernel)
theorem ne_Disk__pending___check_at : ((Str.ofString "_pending") = Str.ofString "_check_at") = False := eq_false (by decide +kernel)
theorem ne_Disk__pending__read : ((Str.ofString "_pending") = Str.ofString "read") = False := eq_false (by decide +kernel)
theorem ne_Disk__pending__write : ((Str.ofString "_pending") = Str.ofString "write") = False := eq_false (by decide +kernel)
theorem ne_Disk__pending__flush : ((Str.ofString "_pending") = Str.ofString "flush") = False := eq_false (by decide +kernel)
theorem ne_Disk__pending___use_power : ((Str.ofString "_pending") = Str.ofString "_use_power") = False := eq_false (by decide +kernel)
theorem ne_Disk__pending___cut : ((Str.ofString "_pending") = Str.ofString "_cut") = False := eq_false (by decide +kernel)
theorem ne_Disk__pending__pending_count : ((Str.ofString "_pending") = Str.ofString "pending_count") = False := eq_false (by decide +kernel)
theorem ne_Disk__pending__cut_count : ((Str.ofString "_pending") = Str.ofString "cut_count") = False := eq_false (by decide +kernel)
theorem ne_Disk__pending__cut_power : ((Str.ofString "_pending") = Str.ofString "cut_power") = False := eq_false (by decide +kernel)
theorem ne_Disk__pending__schedule_cut : ((Str.ofString "_pending") = Str.ofString "schedule_cut") = False := eq_false (by decide +kernel)
theorem ne_Disk__cuts___blocks : ((Str.ofString "_cuts") = Str.ofString "_blocks") = False := eq_false (by decide +kernel)
theorem ne_Disk__cuts___pending : ((Str.ofString "_cuts") = Str.ofString "_pending") = False := eq_false (by decide +kernel)
theorem ne_Disk__cuts___left : ((Str.ofString "_cuts") = Str.ofString "_left") = False := eq_false (by decide +kernel)
theorem ne_Disk__cuts___torn : ((Str.ofString "_cuts") = Str.ofString "_torn") = False := eq_false (by decide +kernel)
theorem ne_Disk__cuts____init__ : ((Str.ofString "_cuts") = Str.ofString "__init__") = False := eq_false (by decide +kernel)
theorem ne_Disk__cuts__size : ((Str.ofString "_cuts") = Str.ofString "size") = False := eq_false (by decide +kernel)
theorem ne_Disk__cuts___check_at : ((Str.ofString "_cuts") = Str.ofString "_check_at") = False := eq_false (by decide +kernel)
theorem ne_Disk__cuts__read : ((Str.ofString "_cuts") = Str.ofString "read") = False := eq_false (by decide +kernel)
theorem ne_Disk__cuts__write : ((Str.ofString "_cuts") = Str.ofString "write") = False := eq_false (by decide +kernel)
theorem ne_Disk__cuts__flush : ((Str.ofString "_cuts") = Str.ofString "flush") = False := eq_false (by decide +kernel)
theorem ne_Disk__cuts___use_power : ((Str.ofString "_cuts") = Str.ofString "_use_power") = False := eq_false (by decide +kernel)
theorem ne_Disk__cuts___cut : ((Str.ofString "_cuts") = Str.ofString "_cut") = False := eq_false (by decide +kernel)
theorem ne_Disk__cuts__pending_count : ((Str.ofString "_cuts") = Str.ofString "pending_count") = False := eq_false (by decide +kernel)
theorem ne_Disk__cuts__cut_count : ((Str.ofString "_cuts") = Str.ofString "cut_count") = False := eq_false (by decide +kernel)
theorem ne_Disk__cuts__cut_power : ((Str.ofString "_cuts") = Str.ofString "cut_power") = False := eq_false (by decide +kernel)
theorem ne_Disk__cuts__schedule_cut : ((Str.ofString "_cuts") = Str.ofString "schedule_cut") = False := eq_false (by decide +kernel)
theorem ne_Disk__left___blocks : ((Str.ofString "_left") = Str.ofString "_blocks") = False := eq_false (by decide +kernel)
theorem ne_Disk__left___pending : ((Str.ofString "_left") = Str.ofString "_pending") = False := eq_false (by decide +kernel)
theorem ne_Disk__left___cuts : ((Str.ofString "_left") = Str.ofString "_cuts") = False := eq_false (by decide +kernel)
theorem ne_Disk__left___torn : ((Str.ofString "_left") = Str.ofString "_torn") = False := eq_false (by decide +kernel)
theorem ne_Disk__left____init__ : ((Str.ofString "_left") = Str.ofString "__init__") = False := eq_false (by decide +kernel)
theorem ne_Disk__left__size : ((Str.ofString "_left") = Str.ofString "size") = False := eq_false (by decide +kernel)
theorem ne_Disk__left___check_at : ((Str.ofString "_left") = Str.ofString "_check_at") = False := eq_false (by decide +kernel)
theorem ne_Disk__left__read : ((Str.ofString "_left") = Str.ofString "read") = False := eq_false (by decide +kernel)
theorem ne_Disk__left__write : ((Str.ofString "_left") = Str.ofString "write") = False := eq_false (by decide +kernel)
theorem ne_Disk__left__flush : ((Str.ofString "_left") = Str.ofString "flush") = False := eq_false (by decide +kernel)
theorem ne_Disk__left___use_power : ((Str.ofString "_left") = Str.ofString "_use_power") = False := eq_false (by decide +kernel)
theorem ne_Disk__left___cut : ((Str.ofString "_left") = Str.ofString "_cut") = False := eq_false (by decide +kernel)
theorem ne_Disk__left__pending_count : ((Str.ofString "_left") = Str.ofString "pending_count") = False := eq_false (by decide +kernel)
theorem ne_Disk__left__cut_count : ((Str.ofString "_left") = Str.ofString "cut_count") = False := eq_false (by decide +kernel)
theorem ne_Disk__left__cut_power : ((Str.ofString "_left") = Str.ofString "cut_power") = False := eq_false (by decide +kernel)
theorem ne_Disk__left__schedule_cut : ((Str.ofString "_left") = Str.ofString "schedule_cut") = False := eq_false (by decide +kernel)
theorem ne_Disk__torn___blocks : ((Str.ofString "_torn") = Str.ofString "_blocks") = False := eq_false (by decide +kernel)
theorem ne_Disk__torn___pending : ((Str.ofString "_torn") = Str.ofString "_pending") = False := eq_false (by decide +kernel)
theorem ne_Disk__torn___cuts : ((Str.ofString "_torn") = Str.ofString "_cuts") = False := eq_false (by decide +kernel)
theorem ne_Disk__torn___left : ((Str.ofString "_torn") = Str.ofString "_left") = False := eq_false (by decide +kernel)
theorem ne_Disk__torn____init__ : ((Str.ofString "_torn") = Str.ofString "__init__") = False := eq_false (by decide +kernel)
theorem ne_Disk__torn__size : ((Str.ofString "_torn") = Str.ofString "size") = False := eq_false (by decide +kernel)
theorem ne_Disk__torn___check_at : ((Str.ofString "_torn") = Str.ofString "_check_at") = False := eq_false (by decide +kernel)
theorem ne_Disk__torn__read : ((Str.ofString "_torn") = Str.ofString "read") = False := eq_false (by decide +kernel)
theorem ne_Disk__torn__write : ((Str.ofString "_torn") = Str.ofString "write") = False := eq_false (by decide +kernel)
theorem ne_Disk__torn__flush : ((Str.ofString "_torn") = Str.ofString "flush") = False := eq_false (by decide +kernel)
theorem ne_Disk__torn___use_power : ((Str.ofString "_torn") = Str.ofString "_use_power") = False := eq_false (by decide +kernel)
theorem ne_Disk__torn___cut : ((Str.ofString "_torn") = Str.ofString "_cut") = False := eq_false (by decide +kernel)
theorem ne_Disk__torn__pending_count : ((Str.ofString "_torn") = Str.ofString "pending_count") = False := eq_false (by decide +kernel)
theorem ne_Disk__torn__cut_count : ((Str.ofString "_torn") = Str.ofString "cut_count") = False := eq_false (by decide +kernel)
theorem ne_Disk__torn__cut_power : ((Str.ofString "_torn") = Str.ofString "cut_power") = False := eq_false (by decide +kernel)
theorem ne_Disk__torn__schedule_cut : ((Str.ofString "_torn") = Str.ofString "schedule_cut") = False := eq_false (by decide +kernel)
theorem put_Disk__blocks {v0 v1 v2 v3 v4 : V} {z : V} : putF "_blocks" z (fl_Disk v0 v1 v2 v3 v4) = fl_Disk z v1 v2 v3 v4 := by
  simp only [fl_Disk, putF, if_false, if_true, reduceIte]
theorem lk_Disk__blocks {v0 v1 v2 v3 v4 : V} : (fl_Disk v0 v1 v2 v3 v4).lookup ("_blocks" : Str) = some v0 := by
  have h := lookup_putF "_blocks" "_blocks" v0 (fl_Disk v0 v1 v2 v3 v4)
  rw [put_Disk__blocks, if_pos rfl] at h
  exact h
theorem put_Disk__pending {v0 v1 v2 v3 v4 : V} {z : V} : putF "_pending" z (fl_Disk v0 v1 v2 v3 v4) = fl_Disk v0 z v2 v3 v4 := by
  simp only [fl_Disk, putF, ne_Disk__blocks___pending, if_false, if_true, reduceIte]
theorem lk_Disk__pending {v0 v1 v2 v3 v4 : V} : (fl_Disk v0 v1 v2 v3 v4).lookup ("_pending" : Str) = some v1 := by
  have h := lookup_putF "_pending" "_pending" v1 (fl_Disk v0 v1 v2 v3 v4)
  rw [put_Disk__pending, if_pos rfl] at h
  exact h
theorem put_Disk__cuts {v0 v1 v2 v3 v4 : V} {z : V} : putF "_cuts" z (fl_Disk v0 v1 v2 v3 v4) = fl_Disk v0 v1 z v3 v4 := by
  simp only [fl_Disk, putF, ne_Disk__blocks___cuts, ne_Disk__pending___cuts, if_false, if_true, reduceIte]
theorem lk_Disk__cuts {v0 v1 v2 v3 v4 : V} : (fl_Disk v0 v1 v2 v3 v4).lookup ("_cuts" : Str) = some v2 := by
  have h := lookup_putF "_cuts" "_cuts" v2 (fl_Disk v0 v1 v2 v3 v4)
  rw [put_Disk__cuts, if_pos rfl] at h
  exact h
theorem put_Disk__left {v0 v1 v2 v3 v4 : V} {z : V} : putF "_left" z (fl_Disk v0 v1 v2 v3 v4) = fl_Disk v0 v1 v2 z v4 := by
  simp only [fl_Disk, putF, ne_Disk__blocks___left, ne_Disk__pending___left, ne_Disk__cuts___left, if_false, if_true, reduceIte]
theorem lk_Disk__left {v0 v1 v2 v3 v4 : V} : (fl_Disk v0 v1 v2 v3 v4).lookup ("_left" : Str) = some v3 := by
  have h := lookup_putF "_left" "_left" v3 (fl_Disk v0 v1 v2 v3 v4)
  rw [put_Disk__left, if_pos rfl] at h
  exact h
theorem put_Disk__torn {v0 v1 v2 v3 v4 : V} {z : V} : putF "_torn" z (fl_Disk v0 v1 v2 v3 v4) = fl_Disk v0 v1 v2 v3 z := by
  simp only [fl_Disk, putF, ne_Disk__blocks___torn, ne_Disk__pending___torn, ne_Disk__cuts___torn, ne_Disk__left___torn, if_false, if_true, reduceIte]
theorem lk_Disk__torn {v0 v1 v2 v3 v4 : V} : (fl_Disk v0 v1 v2 v3 v4).lookup ("_torn" : Str) = some v4 := by
  have h := lookup_putF "_torn" "_torn" v4 (fl_Disk v0 v1 v2 v3 v4)
  rw [put_Disk__torn, if_pos rfl] at h
  exact h
theorem len_Disk {v0 v1 v2 v3 v4 : V} : (fl_Disk v0 v1 v2 v3 v4).length = 5 := rfl
theorem few_Disk {v0 v1 v2 v3 v4 : V} : (fl_Disk v0 v1 v2 v3 v4).length < 1000 := by
  show 5 < 1000
  decide
theorem ini_Disk {v0 v1 v2 v3 v4 : V} : putF "_torn" v4 (putF "_left" v3 (putF "_cuts" v2 (putF "_pending" v1 (putF "_blocks" v0 [])))) = fl_Disk v0 v1 v2 v3 v4 := by
  simp only [fl_Disk, putF, ne_Disk__blocks___pending, ne_Disk__blocks___cuts, ne_Disk__blocks___left, ne_Disk__blocks___torn, ne_Disk__pending___cuts, ne_Disk__pending___left, ne_Disk__pending___torn, ne_Disk__cuts___left, ne_Disk__cuts___torn, ne_Disk__left___torn, if_false, if_true, reduceIte]
theorem no_Disk___init__ {v0 v1 v2 v3 v4 : V} : (fl_Disk v0 v1 v2 v3 v4).lookup ("__init__" : Str) = none := by
  have q : ∀ (g : Str) (u : V) (r : List (Str × V)), ¬ g = "__init__" → List.lookup (Str.ofString "__init__") ((g, u) :: r) = List.lookup (Str.ofString "__init__") r := fun g u r h => by
    have hb : ((Str.ofString "__init__") == g) = false := beq_eq_false_iff_ne.mpr (fun z => h z.symm)
    simp only [List.lookup, hb]
  unfold fl_Disk
  rw [q _ _ _ (by rw [ne_Disk__blocks____init__]; exact id), q _ _ _ (by rw [ne_Disk__pending____init__]; exact id), q _ _ _ (by rw [ne_Disk__cuts____init__]; exact id), q _ _ _ (by rw [ne_Disk__left____init__]; exact id), q _ _ _ (by rw [ne_Disk__torn____init__]; exact id)]
  rfl
theorem no_Disk_size {v0 v1 v2 v3 v4 : V} : (fl_Disk v0 v1 v2 v3 v4).lookup ("size" : Str) = none := by
  have q : ∀ (g : Str) (u : V) (r : List (Str × V)), ¬ g = "size" → List.lookup (Str.ofString "size") ((g, u) :: r) = List.lookup (Str.ofString "size") r := fun g u r h => by
    have hb : ((Str.ofString "size") == g) = false := beq_eq_false_iff_ne.mpr (fun z => h z.symm)
    simp only [List.lookup, hb]
  unfold fl_Disk
  rw [q _ _ _ (by rw [ne_Disk__blocks__size]; exact id), q _ _ _ (by rw [ne_Disk__pending__size]; exact id), q _ _ _ (by rw [ne_Disk__cuts__size]; exact id), q _ _ _ (by rw [ne_Disk__left__size]; exact id), q _ _ _ (by rw [ne_Disk__torn__size]; exact id)]
  rfl
theorem no_Disk__check_at {v0 v1 v2 v3 v4 : V} : (fl_Disk v0 v1 v2 v3 v4).lookup ("_check_at" : Str) = none := by
  have q : ∀ (g : Str) (u : V) (r : List (Str × V)), ¬ g = "_check_at" → List.lookup (Str.ofString "_check_at") ((g, u) :: r) = List.lookup (Str.ofString "_check_at") r := fun g u r h => by
    have hb : ((Str.ofString "_check_at") == g) = false := beq_eq_false_iff_ne.mpr (fun z => h z.symm)
    simp only [List.lookup, hb]
  unfold fl_Disk
  rw [q _ _ _ (by rw [ne_Disk__blocks___check_at]; exact id), q _ _ _ (by rw [ne_Disk__pending___check_at]; exact id), q _ _ _ (by rw [ne_Disk__cuts___check_at]; exact id), q _ _ _ (by rw [ne_Disk__left___check_at]; exact id), q _ _ _ (by rw [ne_Disk__torn___check_at]; exact id)]
  rfl
theorem no_Disk_read {v0 v1 v2 v3 v4 : V} : (fl_Disk v0 v1 v2 v3 v4).lookup ("read" : Str) = none := by
  have q : ∀ (g : Str) (u : V) (r : List (Str × V)), ¬ g = "read" → List.lookup (Str.ofString "read") ((g, u) :: r) = List.lookup (Str.ofString "read") r := fun g u r h => by
    have hb : ((Str.ofString "read") == g) = false := beq_eq_false_iff_ne.mpr (fun z => h z.symm)
    simp only [List.lookup, hb]
  unfold fl_Disk
  rw [q _ _ _ (by rw [ne_Disk__blocks__read]; exact id), q _ _ _ (by rw [ne_Disk__pending__read]; exact id), q _ _ _ (by rw [ne_Disk__cuts__read]; exact id), q _ _ _ (by rw [ne_Disk__left__read]; exact id), q _ _ _ (by rw [ne_Disk__torn__read]; exact id)]
  rfl
theorem no_Disk_write {v0 v1 v2 v3 v4 : V} : (fl_Disk v0 v1 v2 v3 v4).lookup ("write" : Str) = none := by
  have q : ∀ (g : Str) (u : V) (r : List (Str × V)), ¬ g = "write" → List.lookup (Str.ofString "write") ((g, u) :: r) = List.lookup (Str.ofString "write") r := fun g u r h => by
    have hb : ((Str.ofString "write") == g) = false := beq_eq_false_iff_ne.mpr (fun z => h z.symm)
    simp only [List.lookup, hb]
  unfold fl_Disk
  rw [q _ _ _ (by rw [ne_Disk__blocks__write]; exact id), q _ _ _ (by rw [ne_Disk__pending__write]; exact id), q _ _ _ (by rw [ne_Disk__cuts__write]; exact id), q _ _ _ (by rw [ne_Disk__left__write]; exact id), q _ _ _ (by rw [ne_Disk__torn__write]; exact id)]
  rfl
theorem no_Disk_flush {v0 v1 v2 v3 v4 : V} : (fl_Disk v0 v1 v2 v3 v4).lookup ("flush" : Str) = none := by
  have q : ∀ (g : Str) (u : V) (r : List (Str × V)), ¬ g = "flush" → List.lookup (Str.ofString "flush") ((g, u) :: r) = List.lookup (Str.ofString "flush") r := fun g u r h => by
    have hb : ((Str.ofString "flush") == g) = false := beq_eq_false_iff_ne.mpr (fun z => h z.symm)
    simp only [List.lookup, hb]
  unfold fl_Disk
  rw [q _ _ _ (by rw [ne_Disk__blocks__flush]; exact id), q _ _ _ (by rw [ne_Disk__pending__flush]; exact id), q _ _ _ (by rw [ne_Disk__cuts__flush]; exact id), q _ _ _ (by rw [ne_Disk__left__flush]; exact id), q _ _ _ (by rw [ne_Disk__torn__flush]; exact id)]
  rfl
theorem no_Disk__use_power {v0 v1 v2 v3 v4 : V} : (fl_Disk v0 v1 v2 v3 v4).lookup ("_use_power" : Str) = none := by
  have q : ∀ (g : Str) (u : V) (r : List (Str × V)), ¬ g = "_use_power" → List.lookup (Str.ofString "_use_power") ((g, u) :: r) = List.lookup (Str.ofString "_use_power") r := fun g u r h => by
    have hb : ((Str.ofString "_use_power") == g) = false := beq_eq_false_iff_ne.mpr (fun z => h z.symm)
    simp only [List.lookup, hb]
  unfold fl_Disk
  rw [q _ _ _ (by rw [ne_Disk__blocks___use_power]; exact id), q _ _ _ (by rw [ne_Disk__pending___use_power]; exact id), q _ _ _ (by rw [ne_Disk__cuts___use_power]; exact id), q _ _ _ (by rw [ne_Disk__left___use_power]; exact id), q _ _ _ (by rw [ne_Disk__torn___use_power]; exact id)]
  rfl
theorem no_Disk__cut {v0 v1 v2 v3 v4 : V} : (fl_Disk v0 v1 v2 v3 v4).lookup ("_cut" : Str) = none := by
  have q : ∀ (g : Str) (u : V) (r : List (Str × V)), ¬ g = "_cut" → List.lookup (Str.ofString "_cut") ((g, u) :: r) = List.lookup (Str.ofString "_cut") r := fun g u r h => by
    have hb : ((Str.ofString "_cut") == g) = false := beq_eq_false_iff_ne.mpr (fun z => h z.symm)
    simp only [List.lookup, hb]
  unfold fl_Disk
  rw [q _ _ _ (by rw [ne_Disk__blocks___cut]; exact id), q _ _ _ (by rw [ne_Disk__pending___cut]; exact id), q _ _ _ (by rw [ne_Disk__cuts___cut]; exact id), q _ _ _ (by rw [ne_Disk__left___cut]; exact id), q _ _ _ (by rw [ne_Disk__torn___cut]; exact id)]
  rfl
theorem no_Disk_pending_count {v0 v1 v2 v3 v4 : V} : (fl_Disk v0 v1 v2 v3 v4).lookup ("pending_count" : Str) = none := by
  have q : ∀ (g : Str) (u : V) (r : List (Str × V)), ¬ g = "pending_count" → List.lookup (Str.ofString "pending_count") ((g, u) :: r) = List.lookup (Str.ofString "pending_count") r := fun g u r h => by
    have hb : ((Str.ofString "pending_count") == g) = false := beq_eq_false_iff_ne.mpr (fun z => h z.symm)
    simp only [List.lookup, hb]
  unfold fl_Disk
  rw [q _ _ _ (by rw [ne_Disk__blocks__pending_count]; exact id), q _ _ _ (by rw [ne_Disk__pending__pending_count]; exact id), q _ _ _ (by rw [ne_Disk__cuts__pending_count]; exact id), q _ _ _ (by rw [ne_Disk__left__pending_count]; exact id), q _ _ _ (by rw [ne_Disk__torn__pending_count]; exact id)]
  rfl
theorem no_Disk_cut_count {v0 v1 v2 v3 v4 : V} : (fl_Disk v0 v1 v2 v3 v4).lookup ("cut_count" : Str) = none := by
  have q : ∀ (g : Str) (u : V) (r : List (Str × V)), ¬ g = "cut_count" → List.lookup (Str.ofString "cut_count") ((g, u) :: r) = List.lookup (Str.ofString "cut_count") r := fun g u r h => by
    have hb : ((Str.ofString "cut_count") == g) = false := beq_eq_false_iff_ne.mpr (fun z => h z.symm)
    simp only [List.lookup, hb]
  unfold fl_Disk
  rw [q _ _ _ (by rw [ne_Disk__blocks__cut_count]; exact id), q _ _ _ (by rw [ne_Disk__pending__cut_count]; exact id), q _ _ _ (by rw [ne_Disk__cuts__cut_count]; exact id), q _ _ _ (by rw [ne_Disk__left__cut_count]; exact id), q _ _ _ (by rw [ne_Disk__torn__cut_count]; exact id)]
  rfl
theorem no_Disk_cut_power {v0 v1 v2 v3 v4 : V} : (fl_Disk v0 v1 v2 v3 v4).lookup ("cut_power" : Str) = none := by
  have q : ∀ (g : Str) (u : V) (r : List (Str × V)), ¬ g = "cut_power" → List.lookup (Str.ofString "cut_power") ((g, u) :: r) = List.lookup (Str.ofString "cut_power") r := fun g u r h => by
    have hb : ((Str.ofString "cut_power") == g) = false := beq_eq_false_iff_ne.mpr (fun z => h z.symm)
    simp only [List.lookup, hb]
  unfold fl_Disk
  rw [q _ _ _ (by rw [ne_Disk__blocks__cut_power]; exact id), q _ _ _ (by rw [ne_Disk__pending__cut_power]; exact id), q _ _ _ (by rw [ne_Disk__cuts__cut_power]; exact id), q _ _ _ (by rw [ne_Disk__left__cut_power]; exact id), q _ _ _ (by rw [ne_Disk__torn__cut_power]; exact id)]
  rfl
theorem no_Disk_schedule_cut {v0 v1 v2 v3 v4 : V} : (fl_Disk v0 v1 v2 v3 v4).lookup ("schedule_cut" : Str) = none := by
  have q : ∀ (g : Str) (u : V) (r : List (Str × V)), ¬ g = "schedule_cut" → List.lookup (Str.ofString "schedule_cut") ((g, u) :: r) = List.lookup (Str.ofString "schedule_cut") r := fun g u r h => by
    have hb : ((Str.ofString "schedule_cut") == g) = false := beq_eq_false_iff_ne.mpr (fun z => h z.symm)
    simp only [List.lookup, hb]
  unfold fl_Disk
  rw [q _ _ _ (by rw [ne_Disk__blocks__schedule_cut]; exact id), q _ _ _ (by rw [ne_Disk__pending__schedule_cut]; exact id), q _ _ _ (by rw [ne_Disk__cuts__schedule_cut]; exact id), q _ _ _ (by rw [ne_Disk__left__schedule_cut]; exact id), q _ _ _ (by rw [ne_Disk__torn__schedule_cut]; exact id)]
  rfl
/-- a Disk stands at x; what else changes is rest -/
def Dsk (C : Addr) (R H : Hp) (x : Addr) (rest : List (Addr × HO)) (s : Dk.St) : Prop := ∃ (dx pb pp pt : Addr) (vb vp : List V), Mv.Hv R H ((x, .ins C dx (fl_Disk (.ref pb) (.ref pp) (.int (s.cu : Int)) (Dk.lfV s.lf) (.ref pt))) :: (pb, .lst vb) :: (pp, .lst vp) :: rest) ∧ Dk.BL R vb s.bl ∧ Dk.PL HO.tup R vp s.pe ∧ R pt = some (.lst (s.tn.map V.int))
theorem Dsk.to {C : Addr} {R H R' H' : Hp} {x : Addr} {rest : List (Addr × HO)} {s : Dk.St} {dx pb pp pt : Addr} {vb vp : List V} (hv : Mv.Hv R' H' ((x, .ins C dx (fl_Disk (.ref pb) (.ref pp) (.int (s.cu : Int)) (Dk.lfV s.lf) (.ref pt))) :: (pb, .lst vb) :: (pp, .lst vp) :: rest)) (b : Dk.BL R' vb s.bl) (p : Dk.PL HO.tup R' vp s.pe) (t : R' pt = some (.lst (s.tn.map V.int))) : Dsk C R' H' x rest s := ⟨dx, pb, pp, pt, vb, vp, hv, b, p, t⟩
theorem Dsk.hv {C : Addr} {R H : Hp} {x : Addr} {rest : List (Addr × HO)} {s : Dk.St} (d : Dsk C R H x rest s) : ∃ ps, Mv.Hv R H (ps ++ rest) := by
  obtain ⟨dx, pb, pp, pt, vb, vp, hv, _⟩ := d
  exact ⟨[_, _, _], hv⟩
theorem Dsk.got {C : Addr} {R H : Hp} {x a : Addr} {o : HO} {rest : List (Addr × HO)} {s : Dk.St} (d : Dsk C R H x rest s) (i : Dk.In R rest a o) : H a = some o := by
  obtain ⟨ps, hv⟩ := d.hv
  rcases i with i | i
  · exact hv.same _ _ i
  · exact hv.at (List.mem_append_right _ i)
theorem Dsk.same {C : Addr} {R H : Hp} {x : Addr} {rest : List (Addr × HO)} {s : Dk.St} (d : Dsk C R H x rest s) : Same R H := by
  obtain ⟨ps, hv⟩ := d.hv
  exact hv.same
/-- behind a call that leaves all that stands -/
theorem Dsk.grow {C : Addr} {R H H' : Hp} {x : Addr} {rest : List (Addr × HO)} {s : Dk.St} (d : Dsk C R H x rest s) (e : Same H H') : ∃ R', Dsk C R' H' x rest s ∧ Same R R' ∧ ∀ a o, H a = none → H' a = some o → R' a = some o := by
  obtain ⟨dx, pb, pp, pt, vb, vp, hv, b, p, t⟩ := d
  obtain ⟨R', h1, h2, h3⟩ := hv.grow e
  exact ⟨R', ⟨dx, pb, pp, pt, vb, vp, h1, b.keep h2, p.keep h2, h2 _ _ t⟩, h2, h3⟩
theorem Dsk.put {C : Addr} {R H : Hp} {x a : Addr} {o o' : HO} {l1 l2 : List (Addr × HO)} {s : Dk.St} (d : Dsk C R H x (l1 ++ (a, o) :: l2) s) : Dsk C R (upd H a o') x (l1 ++ (a, o') :: l2) s := by
  obtain ⟨dx, pb, pp, pt, vb, vp, hv, b, p, t⟩ := d
  exact ⟨dx, pb, pp, pt, vb, vp, hv.put (l1 := _ :: _ :: _ :: l1), b, p, t⟩
theorem Dsk.perm {C : Addr} {R H : Hp} {x : Addr} {l1 l2 : List (Addr × HO)} {s : Dk.St} (d : Dsk C R H x l1 s) (h : l1.Perm l2) : Dsk C R H x l2 s := by
  obtain ⟨dx, pb, pp, pt, vb, vp, hv, b, p, t⟩ := d
  exact ⟨dx, pb, pp, pt, vb, vp, hv.perm (.cons _ (.cons _ (.cons _ h))), b, p, t⟩
theorem Dsk.more {C : Addr} {R H H' : Hp} {x a : Addr} {o : HO} {rest : List (Addr × HO)} {s : Dk.St} (d : Dsk C R H x rest s) (e : H a = none) (s' : Same H H') (f : H' a = some o) : ∃ R', Dsk C R' H' x ((a, o) :: rest) s ∧ Same R R' ∧ ∀ c u, c ≠ a → H c = none → H' c = some u → R' c = some u := by
  obtain ⟨dx, pb, pp, pt, vb, vp, hv, b, p, t⟩ := d
  obtain ⟨R', h1, h2, h3⟩ := hv.more3 e s' f
  refine ⟨R', ⟨dx, pb, pp, pt, vb, vp, h1.perm ?_, b.keep h2, p.keep h2, h2 _ _ t⟩, h2, h3⟩
  refine (List.Perm.swap _ _ _).trans (.cons _ ?_)
  refine (List.Perm.swap _ _ _).trans (.cons _ ?_)
  exact List.Perm.swap _ _ _
theorem Dsk.less {C : Addr} {R H : Hp} {x a : Addr} {o : HO} {rest : List (Addr × HO)} {s : Dk.St} (d : Dsk C R H x ((a, o) :: rest) s) : ∃ R', Dsk C R' H x rest s ∧ Same R R' ∧ R' a = some o := by
  obtain ⟨dx, pb, pp, pt, vb, vp, hv, b, p, t⟩ := d
  obtain ⟨R', h1, h2, h3⟩ := (hv.perm (l2 := (a, o) :: (x, .ins C dx (fl_Disk (.ref pb) (.ref pp) (.int (s.cu : Int)) (Dk.lfV s.lf) (.ref pt))) :: (pb, .lst vb) :: (pp, .lst vp) :: rest) (by
    refine (List.Perm.cons _ (List.Perm.cons _ (List.Perm.swap _ _ _))).trans ?_
    refine (List.Perm.cons _ (List.Perm.swap _ _ _)).trans ?_
    exact List.Perm.swap _ _ _)).less
  exact ⟨R', ⟨dx, pb, pp, pt, vb, vp, h1, b.keep h2, p.keep h2, h2 _ _ t⟩, h2, h3⟩
theorem Dsk.free {C : Addr} {R H : Hp} {x a : Addr} {rest : List (Addr × HO)} {s : Dk.St} (d : Dsk C R H x rest s) (e : H a = none) : R a = none := by
  obtain ⟨ps, hv⟩ := d.hv
  exact (hv.free e).1
theorem Dsk.on {C : Addr} {R H : Hp} {x a : Addr} {o : HO} {rest : List (Addr × HO)} {s : Dk.St} (d : Dsk C R H x rest s) (m : (a, o) ∈ rest) : H a = some o := d.got (.inr m)
theorem Dsk.ofOwn {C : Addr} {R0 R H : Hp} {x D : Addr} {o : HO} {rest : List (Addr × HO)} {s : Dk.St} (O : Fx.Own R H (Nx.one D o)) (d : Dsk C R0 R x rest s) : Dsk C R0 H x ((D, o) :: rest) s := by
  obtain ⟨dx, pb, pp, pt, vb, vp, hv, b, p, t⟩ := d
  refine ⟨dx, pb, pp, pt, vb, vp, (Mv.Hv.ofOwn O hv).perm ?_, b, p, t⟩
  refine (List.Perm.swap _ _ _).trans (.cons _ ?_)
  refine (List.Perm.swap _ _ _).trans (.cons _ ?_)
  exact List.Perm.swap _ _ _
theorem Dsk.toOwn {C : Addr} {R0 H : Hp} {x D : Addr} {xs : List V} {rest : List (Addr × HO)} {s : Dk.St} (d : Dsk C R0 H x ((D, .lst xs) :: rest) s) : ∃ R, Fx.Own R H (Nx.one D (.lst xs)) ∧ Dsk C R0 R x rest s := by
  obtain ⟨dx, pb, pp, pt, vb, vp, hv, b, p, t⟩ := d
  obtain ⟨R, O, h⟩ := Mv.Hv.toOwn (hv.perm (l2 := (D, .lst xs) :: (x, .ins C dx (fl_Disk (.ref pb) (.ref pp) (.int (s.cu : Int)) (Dk.lfV s.lf) (.ref pt))) :: (pb, .lst vb) :: (pp, .lst vp) :: rest) (by
    refine (List.Perm.cons _ (List.Perm.cons _ (List.Perm.swap _ _ _))).trans ?_
    refine (List.Perm.cons _ (List.Perm.swap _ _ _)).trans ?_
    exact List.Perm.swap _ _ _))
  exact ⟨R, O, dx, pb, pp, pt, vb, vp, h, b, p, t⟩
theorem Dsk.down {C : Addr} {R0 R H : Hp} {x D : Addr} {o : HO} {rest : List (Addr × HO)} {s : Dk.St} (O : Fx.Own R H (Nx.one D o)) (d : Dsk C R0 R x rest s) : ∃ R', Dsk C R' H x rest s ∧ Same R0 R' ∧ R' D = some o := (d.ofOwn O).less
theorem Dsk.ins {C : Addr} {R H : Hp} {x : Addr} {rest : List (Addr × HO)} {s : Dk.St} (d : Dsk C R H x rest s) : ∃ dx pb pp pt, H x = some (.ins C dx (fl_Disk (.ref pb) (.ref pp) (.int (s.cu : Int)) (Dk.lfV s.lf) (.ref pt))) := by
  obtain ⟨dx, pb, pp, pt, vb, vp, hv, b, p, t⟩ := d
  exact ⟨dx, pb, pp, pt, hv.g0⟩

theorem scx_OutOfRange : Sx.SupScope ["self", "name"] ["self", "name"] (defScope s_OutOfRange___init__) := ⟨rfl, rfl, rfl, by decide +kernel, rfl, by decide +kernel, by decide +kernel, by decide +kernel, rfl, rfl⟩
theorem ok_OutOfRange___init__ (T : Tx P K mg) : FnOk P w K mg base CX0 1 T.x_OutOfRange.a T.x_OutOfRange.d ["self", "name"] (Sx.sp1 T.x_OutOfRange.C "name") := by
  refine Sx.fn_sup (k := 0) T.x_OutOfRange.o T.x_OutOfRange.s scx_OutOfRange (fun vs H Q E h => ?_) rfl rfl rfl rfl (fun _ => rfl) (fun _ => ⟨_, rfl⟩) (fun _ => rfl) (fun cda cc A outer s H vs Q E h => ?_)
  · obtain ⟨a, z, rfl, _⟩ := h; rfl
  obtain ⟨a, z, rfl, hz, ha, q⟩ := h
  have hs : sizeLine = 16777216 := sizeLine_eq
  refine ⟨_, _, a, [.str z], pa_cons (pe_joined (PJ.cons (pe_fmt (pv 1)) (PJ.cons pe_str PJ.nil))) pa_nil, pss_one (ps_ost (pv 0) (pv 1)), rfl, ha, ?_⟩
  have l1 : ∀ x y : Str, (x ++ y).length = x.length + y.length := fun x y => Str.length_append x y
  refine ⟨.str z, rfl, .inl ⟨z, rfl, by omega, z, rfl, by rw [l1]; show 0 + _ ≤ _; omega, _, rfl, by rw [l1, l1]; show 0 + _ + 16 ≤ _; omega, by show 1 ≤ 1000; decide, ha, ?_⟩⟩
  exact ⟨.str z, rfl, .ref a, rfl, a, _, rfl, T.x_OutOfRange.o, T.nf_OutOfRange_name, .inl ⟨ha, fun dx hd hne => q dx hd hne⟩⟩

set_option hygiene false
local macro_rules | `(tactic| walk_at "go1") => `(tactic| (first
  | refine Gx.fp (by assumption) T.cl_Disk T.na_Disk__blocks lk_Disk__blocks ?_
  | refine Gx.fp (by assumption) T.cl_Disk T.na_Disk__pending lk_Disk__pending ?_
  | refine Gx.fp (by assumption) T.cl_Disk T.na_Disk__cuts lk_Disk__cuts ?_
  | refine Gx.fp (by assumption) T.cl_Disk T.na_Disk__left lk_Disk__left ?_
  | refine Gx.fp (by assumption) T.cl_Disk T.na_Disk__torn lk_Disk__torn ?_))
set_option hygiene true
/-- the law's own: True, whatever the script -/
def spLaw (K : PySem.W.Frag) : Sp := fun vs H Q _ => ∃ (a : Addr) (ns : List Int), vs = [.ref a] ∧ SqL K H a (ns.map V.int) ∧ ns.length ≤ 63 ∧ (∀ z ∈ ns, Builtin.Int.intBits z ≤ 1048576) ∧ ∀ H', Q (.bl true) H' 
/-- a number against its bounds -/
def sp_check_range (C : Addr) : Sp := fun vs H Q E => ∃ (z : Str) (v l m : Int), vs = [.str z, .int v, .int l, .int m] ∧ z.length ≤ 1000 ∧ (l ≤ v → v ≤ m → Q .non H) ∧ (¬ (l ≤ v ∧ v ≤ m) → Sx.Err C H z E)

theorem sc_check_range : FnScope ["name", "value", "least", "most"] ["name", "value", "least", "most"] (defScope s_check_range) := ⟨rfl, rfl, rfl, by decide +kernel, rfl, by decide +kernel, by decide +kernel⟩
theorem ok_check_range (T : Tx P K mg) : FnOk P w K mg base (L2.CX P w) 3 T.check_range.a T.check_range.d ["name", "value", "least", "most"] (sp_check_range T.x_OutOfRange.C) := by
  refine T.check_range.f.okX sc_check_range (fun vs H Q E h => ?_) (fun cdv A outer s H vs Q E hr h => ⟨_, pss_one (ps_if (PW.pt (pw_or (pt_cmpR op_lt (pv 1) (pv 2) (nomark _)) (pw_or1 (pt_cmpR op_gt (pv 1) (pv 3) (nomark _))))) (pss_one (ps_raise rfl (takes_of rfl rfl rfl rfl) (pmk_oex T.x_OutOfRange.o T.x_OutOfRange.i T.x_OutOfRange.t (ok_OutOfRange___init__ T) (hr.mono (by decide)) T.x_OutOfRange.b .nil pass0 rfl T.x_OutOfRange.g (pa_cons (pv 0) pa_nil)))) (pss_nil)), ?_⟩)
  · obtain ⟨z, v, l, m, rfl, _⟩ := h
    rfl
  · skip
    obtain ⟨z, v, l, m, rfl, hz, q, qe⟩ := h
    walk_at "go"
    refine Gx.if_d (fun h => ?_) (fun h => ?_)
    · walk_at "go"
      exact Sx.mkO hz (qe (by omega)).now fun R h => by walk_at "go"; exact h
    walk_at "go"
    refine Gx.if_d (fun h2 => ?_) (fun h2 => ?_)
    · walk_at "go"
      exact Sx.mkO hz (qe (by omega)).now fun R h => by walk_at "go"; exact h
    walk_at "go"
    exact q (by omega) (by omega)

theorem cpx_check_range {C : Addr} {z : Str} {v l m : Int} {H : Hp} {Q : VK} {E : XK} (q : l ≤ v → v ≤ m → Q .non H) (qe : ¬ (l ≤ v ∧ v ≤ m) → Sx.Err C H z E) (hz : z.length ≤ 1000 := by decide) : Gx.CP (sp_check_range C) [.str z, .int v, .int l, .int m] [] H Q E := ⟨z, v, l, m, rfl, hz, q, qe⟩
theorem cs_check_range {C : Addr} {z : Str} {v l m : Int} {H : Hp} {Q : VK} {E : XK} (q : l ≤ v → v ≤ m → Q .non H) (qe : ¬ (l ≤ v ∧ v ≤ m) → Sx.Err C H z E) (hz : z.length ≤ 1000 := by decide) : Sx.CS (sp_check_range C) [.str z, .int v, .int l, .int m] H Q E := ⟨z, v, l, m, rfl, hz, q, qe⟩
theorem cp_check_range {C : Addr} {z : Str} {v l m : Int} {H : Hp} {Q : VK} {E : XK} (h1 : l ≤ v) (h2 : v ≤ m) (q : Q .non H) (hz : z.length ≤ 1000 := by decide) : Gx.CP (sp_check_range C) [.str z, .int v, .int l, .int m] [] H Q E := ⟨z, v, l, m, rfl, hz, fun _ _ => q, fun h => absurd ⟨h1, h2⟩ h⟩

def sp_Disk_init (CE C : Addr) : Sp := fun vs H Q E => ∃ (H0 R0 : Hp) (rest : List (Addr × HO)) (x dx : Addr) (n : Int), vs = [.ref x, .int n] ∧ H x = some (.ins C dx []) ∧ Same H0 H ∧ H0 x = none ∧ Mv.Hv R0 H0 rest ∧
  ((4 ≤ n ∧ n ≤ 400) → ∀ R H', Same R0 R → Dsk C R H' x rest (Dk.s0 n.toNat) → Q .non H') ∧ (¬ (4 ≤ n ∧ n ≤ 400) → Sx.Err CE H0 "blocks" E)

theorem sc_Disk___init__ : FnScope ["self", "blocks", "_"] ["self", "blocks"] (defScope s_Disk___init__) := ⟨rfl, rfl, rfl, by decide +kernel, rfl, by decide +kernel, by decide +kernel⟩
theorem ok_Disk___init__ (T : Tx P K mg) : FnOk P w K mg base (L2.CX P w) 4 T.Disk___init__.a T.Disk___init__.d ["self", "blocks"] (sp_Disk_init T.x_OutOfRange.C T.a_Disk) := by
  refine T.Disk___init__.f.okX sc_Disk___init__ (fun vs H Q E h => ?_) (fun cdv A outer s H vs Q E hr h => ⟨_, pss_cons (ps_expr (pe_callS (ok_check_range T) (hr.mono (by decide)) rfl T.check_range.g T.check_range.f.kp T.check_range.b (fun σ => passAt (takes_of rfl rfl rfl rfl) σ) (pa_cons (pe_str) (pa_cons (pv 1) (pa_cons (pe_glob (v := .int 4) rfl T.c_BLOCKS_LEAST ⟨_, rfl⟩) (pa_cons (pe_glob (v := .int 400) rfl T.c_BLOCKS_MOST ⟨_, rfl⟩) pa_nil))))))
      (pss_cons (ps_fld (pv 0) (pe_lc (own := [("_", 2)]) (g := (gName 2)) (tt := tYes) rfl sc_Disk___init__.nd (pi_range1 rfl T.n_range (pa_cons (pv 1) pa_nil)) (blkOk_by (own := [("_", 2)]) (N := ["self", "blocks", "_"]) (sc := defScope s_Disk___init__) (by decide +kernel)) (fun _ _ _ _ _ => (pg_name (i := 2) sc_Disk___init__.nd rfl (Or.inl rfl))) (fun _ _ _ _ _ => pts_nil) (fun _ _ _ _ _ => pe_op Gx.o_rep (pe_lst (pa_cons (pe_int) pa_nil)) (pe_glob (v := .int 32) rfl T.c_BLOCK ⟨_, rfl⟩))) rfl)
      (pss_cons (ps_fld (pv 0) (pe_lst pa_nil) rfl)
      (pss_cons (ps_fld (pv 0) (pe_int) rfl)
      (pss_cons (ps_fld (pv 0) (pe_non) rfl)
      (pss_one (ps_fld (pv 0) (pe_lst pa_nil) rfl)))))), ?_⟩)
  · obtain ⟨H0, R0, rest, x, dx, n, rfl, _⟩ := h
    rfl
  · skip
    obtain ⟨H0, R0, rest, x, dx, n, rfl, hx, s0, h0, hv0, q, qe⟩ := h
    walk_at "run"
    refine cs_check_range (fun a1 a2 => ?_) (fun a => (qe a).mono s0)
    have q := q ⟨a1, a2⟩
    obtain ⟨n, rfl⟩ : ∃ m : Nat, n = m := ⟨n.toNat, by omega⟩
    rw [Int.toNat_natCast] at q
    clear qe
    obtain ⟨R1, hv1, sR1⟩ := hv0.more h0 s0 hx
    walk_at "run"
    refine Gx.r1 (by omega) (by omega) ?_
    rw [Int.toNat_natCast]
    refine Pq.lcLN (K := K) walk_range (by omega) (fun _ => Dk.zs) (fun _ _ => trivial) Gx.sameFn ?_ ?_
    · rintro i y H3 H3' R R0 hi s3 ⟨rfl, hy⟩ hr2
      walk_at "run"
      refine Nx.lst0 (by show 1 ≤ sizeLine; decide) fun p1 H4 n4 s4 h4 => ?_
      refine Nx.repN0 (n := 32) h4 (by decide) fun p2 H5 n5 s5 h5 => ?_
      exact hr2 p2 _ (s4.free n5) (s4.trans s5) (by rw [h5]; unfold Dk.zs; rw [List.map_replicate])
    intro pb H2 np s2 ll
    have hx2 := s2 _ _ hx
    have hl2 : ∃ vs, H2 pb = some (.lst vs) := by obtain ⟨ps, e, _⟩ := id ll; exact ⟨_, e⟩
    obtain ⟨vb, hvb⟩ := hl2
    obtain ⟨R2, hv2, sR2, gR2⟩ := hv1.more3 np s2 hvb
    obtain ⟨vb', e1, hb2⟩ := Dk.BL.ofLN (R := R2) (bs := List.replicate n Dk.zs) ll (by simp) (fun j hj => by rw [List.getD_eq_getElem?_getD, List.getElem?_replicate, if_pos hj]; rfl) fun a o h1 h2 h3 => gR2 a o h2 h1 h3
    obtain rfl : vb = vb' := by rw [hvb] at e1; injection e1 with e1; injection e1
    walk_at "run"
    refine Gx.sfp hx2 T.cl_Disk T.na_Disk__blocks (by walk_at "few") rfl ?_
    have hv3 := hv2.p1 (u := .ins T.a_Disk dx (putF "_blocks" (.ref pb) []))
    generalize upd H2 x (.ins T.a_Disk dx (putF "_blocks" (.ref pb) [])) = H3 at hv3 ⊢
    walk_at "run"
    refine Nx.lst0 (by show 0 ≤ sizeLine; decide) fun pp H4 n4 s4 h4 => ?_
    obtain ⟨R4, hv4, sR4⟩ := hv3.more n4 s4 h4
    have hx4 := hv4.g2
    walk_at "run"
    refine Gx.sfp hx4 T.cl_Disk T.na_Disk__pending (by walk_at "few") rfl ?_
    have hv5 := hv4.p2 (u := .ins T.a_Disk dx (putF "_pending" (.ref pp) (putF "_blocks" (.ref pb) [])))
    have hx5 := hv5.g2
    walk_at "run"
    refine Gx.sfp hx5 T.cl_Disk T.na_Disk__cuts (by walk_at "few") rfl ?_
    have hv6 := hv5.p2 (u := .ins T.a_Disk dx (putF "_cuts" (.int 0) (putF "_pending" (.ref pp) (putF "_blocks" (.ref pb) []))))
    have hx6 := hv6.g2
    walk_at "run"
    refine Gx.sfp hx6 T.cl_Disk T.na_Disk__left (by walk_at "few") rfl ?_
    have hv7 := hv6.p2 (u := .ins T.a_Disk dx (putF "_left" .non (putF "_cuts" (.int 0) (putF "_pending" (.ref pp) (putF "_blocks" (.ref pb) [])))))
    walk_at "run"
    refine Nx.lst0 (by show 0 ≤ sizeLine; decide) fun pt H8 n8 s8 h8 => ?_
    obtain ⟨R8, hv8, sR8, gR8⟩ := hv7.grow s8
    have hx8 := hv8.g2
    walk_at "run"
    refine Gx.sfp hx8 T.cl_Disk T.na_Disk__torn (by walk_at "few") rfl ?_
    have hv9 := hv8.p2 (u := .ins T.a_Disk dx (putF "_torn" (.ref pt) (putF "_left" .non (putF "_cuts" (.int 0) (putF "_pending" (.ref pp) (putF "_blocks" (.ref pb) []))))))
    rw [ini_Disk] at hv9 ⊢
    exact q R8 _ (sR1.trans (sR2.trans (sR4.trans sR8))) ⟨dx, pb, pp, pt, vb, [], hv9.rot3, hb2.keep (sR4.trans sR8), Dk.PL.nil, gR8 _ _ n8 h8⟩

theorem mks_Disk {CE C : Addr} {R : Hp} {rest : List (Addr × HO)} {n : Int} {H : Hp} {Q : VK} {E : XK} (hv : Mv.Hv R H rest) (q : (4 ≤ n ∧ n ≤ 400) → ∀ x R' H2, Same R R' → Dsk C R' H2 x rest (Dk.s0 n.toNat) → Q (.ref x) H2) (qe : ¬ (4 ≤ n ∧ n ≤ 400) → Sx.Err CE H "blocks" E) :
    Sx.MkS C (sp_Disk_init CE C) [.int n] H Q E := by
  intro x dx hx hdx hne
  exact ⟨H, R, rest, x, dx, n, rfl, upd_same, Gx.same_up hx (Gx.same_new hdx), hx, hv, fun ok R' H2 s2 ds => ⟨rfl, q ok x R' H2 s2 ds⟩, qe⟩
theorem mk_Disk {CE C : Addr} {R : Hp} {rest : List (Addr × HO)} {n : Nat} {H : Hp} {Q : VK} {E : XK} (hv : Mv.Hv R H rest) (h4 : 4 ≤ n) (h5 : n ≤ 400) (q : ∀ x R' H2, Same R R' → Dsk C R' H2 x rest (Dk.s0 n) → Q (.ref x) H2) :
    Gx.MkP C (sp_Disk_init CE C) [.int (n : Int)] [] H Q E := by
  intro x dx hx hdx hne
  exact ⟨H, R, rest, x, dx, n, rfl, upd_same, Gx.same_up hx (Gx.same_new hdx), hx, hv, fun ok R' H2 s2 ds => ⟨rfl, q x R' H2 s2 ds⟩, fun e => absurd ⟨by omega, by omega⟩ e⟩

def sp_law_refusal : Sp := fun vs H Q _ => ∃ (n : Int), vs = [.int n] ∧ (¬ (4 ≤ n ∧ n ≤ 400) → ∀ H', Same H H' → Q (.str "blocks") H') ∧ ((4 ≤ n ∧ n ≤ 400) → ∀ H', Same H H' → Q (.str "") H')

theorem sc_law_refusal : FnScope ["blocks", "e"] ["blocks"] (defScope s_law_refusal) := ⟨rfl, rfl, rfl, by decide +kernel, rfl, by decide +kernel, by decide +kernel⟩
theorem ok_law_refusal (T : Tx P K mg) : FnOk P w K mg base CX0 6 T.law_refusal.a T.law_refusal.d ["blocks"] (sp_law_refusal) := by
  refine T.law_refusal.f.ok sc_law_refusal (fun vs H Q E h => ?_) (fun cdv A outer s H vs Q E hr h => ⟨_, pss_cons (ps_try_as (i := 1) rfl rfl sc_law_refusal.nd rfl rfl ⟨rfl, by decide, .inl T.x_OutOfRange.g⟩ takes0 (fun W pn xe tk po => pss_one (ps_expr (Sx.pe_makeS ⟨T.mk_Disk, T.Disk___init__.m.at_, T.Disk___init__.m.fn, T.kp_Disk⟩ (ok_Disk___init__ T) (hr.mono (by decide)) rfl T.g_Disk T.Disk___init__.b (fun σ => passAt tk σ) (pa_cons (pv 0) pa_nil))))
      (fun a oe cls d pn hz hf => pss_one (ps_ret (by exact pe_xf T.x_OutOfRange.xf T.nf_OutOfRange_name hz hf (pv 1) rfl))))
      (pss_one (ps_ret (pe_str))), ?_⟩)
  · obtain ⟨n, rfl, _⟩ := h
    rfl
  · skip
    obtain ⟨n, rfl, qe, q⟩ := h
    walk_at "run"
    refine mks_Disk Mv.Hv.nil (fun ok x R' H2 s2 ds => ?_) (fun e H1 dd s1 hd1 => ?_)
    · walk_at "run"
      exact q ok H2 (s2.trans ds.same)
    · refine Sx.took T.x_OutOfRange.te fun a ha => ?_
      have hX : upd H1 dd (.xd [("name", .str "blocks")]) dd = some (.xd [("name", .str "blocks")]) := upd_same
      have s2 := Gx.same_new (o := .xd [("name", .str "blocks")]) hd1
      generalize upd H1 dd (.xd [("name", .str "blocks")]) = H2 at hX s2 ⊢
      walk_at "run"
      refine Sx.xfp hX ?_
      walk_at "run"
      exact qe e H2 (s1.trans s2)

theorem cp_law_refusal {n : Int} {H : Hp} {Q : VK} {E : XK} (qe : ¬ (4 ≤ n ∧ n ≤ 400) → ∀ H', Same H H' → Q (.str "blocks") H') (q : (4 ≤ n ∧ n ≤ 400) → ∀ H', Same H H' → Q (.str "") H') : Gx.CP sp_law_refusal [.int n] [] H Q E := ⟨n, rfl, qe, q⟩

/-- a number from 0 on below the limit; the box's place moves -/
def sp_law_draw : Sp := fun vs H Q _ => ∃ (H0 : Hp) (b p : Addr) (xs : List Int) (m : Int), vs = [.ref b, .int m] ∧ 0 < m ∧ Bx.Box H0 H b p xs ∧ ∀ (r : Int) (H' : Hp), 0 ≤ r → r < m → Bx.Box H0 H' b p xs → (∀ c, c ≠ b → H' c = H c) → Q (.int r) H'

theorem sc_law_draw : FnScope ["box", "many", "at"] ["box", "many"] (defScope s_law_draw) := ⟨rfl, rfl, rfl, by decide +kernel, rfl, by decide +kernel, by decide +kernel⟩
theorem ok_law_draw (T : Tx P K mg) : FnOk P w K mg base CX0 1 T.law_draw.a T.law_draw.d ["box", "many"] (sp_law_draw) := by
  refine T.law_draw.f.ok sc_law_draw (fun vs H Q E h => ?_) (fun cdv A outer s H vs Q E hr h => ⟨_, pss_cons (ps_set (i := 2) sc_law_draw.nd rfl (Or.inl rfl) (pe_ix (Gx.ix_seqK (K := K) rfl) (pv 0) (pe_int) (fun _ _ => rfl)))
      (pss_cons (ps_asg (pe_op op_add (pv 2) (pe_int)) (pg_sub (pv 0) (pe_int) set_list))
      (pss_cons (ps_if (pt_cmpR op_lt (pv 2) (pe_callB (Gx.c_lenK (K := K) rfl) rfl T.n_len (by decide +kernel) (pa_cons (pe_ix (Gx.ix_seqK (K := K) rfl) (pv 0) (pe_int) (fun _ _ => rfl)) pa_nil)) (nomark _)) (pss_one (ps_ret (pe_op op_mod (pe_callTy Gx.c_int rfl T.n_int (by decide +kernel) (pa_cons (pe_ix (Gx.ix_seqK (K := K) rfl) (pe_ix (Gx.ix_seqK (K := K) rfl) (pv 0) (pe_int) (fun _ _ => rfl)) (pv 2) (fun _ _ => rfl)) pa_nil)) (pv 1)))) (pss_nil))
      (pss_one (ps_ret (pe_op op_mod (pe_callTy Gx.c_int rfl T.n_int (by decide +kernel) (pa_cons (pe_op op_add (pe_op op_mul (pv 2) (pe_int)) (pe_int)) pa_nil)) (pv 1)))))), ?_⟩)
  · obtain ⟨H0, b, p, xs, m, rfl, _⟩ := h
    rfl
  · skip
    obtain ⟨H0, b, p, xs, m, rfl, hm, B, q⟩ := h
    have hne := B.ne
    obtain ⟨hs, nb, np, ⟨k, hk⟩, hd⟩ := B
    walk_at "go"
    refine Gx.ixL (SqL.of hk) (at_of (j := 1) rfl rfl) ?_
    walk_at "go"
    refine Gx.setL (j := 1) hk rfl ?_
    have hk2 : upd H b (.lst [.ref p, .int ((k : Int) + 1)]) b = some (.lst [.ref p, .int ((k + 1 : Nat) : Int)]) := by rw [upd_same]; rfl
    have hd2 : upd H b (.lst [.ref p, .int ((k : Int) + 1)]) p = some (.lst (xs.map V.int)) := by rw [upd_ne hne]; exact hd
    have B2 : Bx.Box H0 (upd H b (.lst [.ref p, .int ((k : Int) + 1)])) b p xs := ⟨Gx.same_up nb hs, nb, np, ⟨k + 1, hk2⟩, hd2⟩
    have kp : ∀ c, c ≠ b → upd H b (.lst [.ref p, .int ((k : Int) + 1)]) c = H c := fun c hc => upd_ne hc
    walk_at "go"
    refine Gx.ixL (SqL.of hk2) (at_of (j := 0) rfl rfl) ?_
    walk_at "go"
    refine Gx.lenL (SqL.of hd2) ?_
    rw [List.length_map]
    walk_at "go"
    refine Gx.if_d (fun hlt => ?_) (fun hge => ?_)
    · walk_at "go"
      refine Gx.ixL (SqL.of hk2) (at_of (j := 0) rfl rfl) ?_
      walk_at "go"
      refine Gx.ixL (SqL.of hd2) (Gx.at_map (by omega)) ?_
      walk_at "go"
      refine Gx.ic hm ?_
      exact q _ _ (Int.emod_nonneg _ (by omega)) (Int.emod_lt_of_pos _ hm) B2 kp
    · walk_at "go"
      refine Gx.ic (.inr (by decide)) ?_
      walk_at "go"
      refine Gx.ic hm ?_
      exact q _ _ (Int.emod_nonneg _ (by omega)) (Int.emod_lt_of_pos _ hm) B2 kp

theorem cp_law_draw {H0 H : Hp} {b p : Addr} {xs : List Int} {m : Int} {Q : VK} {E : XK} (B : Bx.Box H0 H b p xs) (hm : 0 < m) (q : ∀ (r : Int) (H' : Hp), 0 ≤ r → r < m → Bx.Box H0 H' b p xs → (∀ c, c ≠ b → H' c = H c) → Q (.int r) H') :
    Gx.CP sp_law_draw [.ref b, .int m] [] H Q E := ⟨H0, b, p, xs, m, rfl, hm, B, q⟩
theorem drB {R H : Hp} {b p : Addr} {xs : List Int} {m : Int} {Q : VK} {E : XK} (B : Nx.Bo R H b p xs) (hm : 0 < m) (q : ∀ (r : Nat) (H' : Hp), (r : Int) < m → Nx.Bo R H' b p xs → Q (.int (r : Int)) H') :
    Gx.CP (Fx.fr sp_law_draw) [.ref b, .int m] [] H Q E := Nx.whole (cp_law_draw B.old hm fun r H' h0 h1 B' kp => by
  have := q r.toNat H' (by omega) (B.again B' kp)
  rw [Int.toNat_of_nonneg h0] at this
  exact this)
/-- a draw below a list that is being made -/
theorem drO {R R0 H : Hp} {b p D : Addr} {o : HO} {xs : List Int} {m : Int} {Q : VK} {E : XK} (O : Fx.Own R H (Nx.one D o)) (B : Nx.Bo R0 R b p xs) (hm : 0 < m) (q : ∀ (r : Nat) (R' H' : Hp), (r : Int) < m → Fx.Own R' H' (Nx.one D o) → Nx.Bo R0 R' b p xs → Q (.int (r : Int)) H') :
    Gx.CP (Fx.fr sp_law_draw) [.ref b, .int m] [] H Q E := Nx.inF O (cp_law_draw B.old hm fun r R' h0 h1 B' kp H' O' => by
  have := q r.toNat R' H' (by omega) O' (B.again B' kp)
  rw [Int.toNat_of_nonneg h0] at this
  exact this)
/-- a draw among what changes -/
theorem drV {R H : Hp} {l1 l2 : List (Addr × HO)} {b p : Addr} {k : Nat} {xs : List Int} {m : Int} {Q : VK} {E : XK} (hv : Mv.Hv R H (l1 ++ (b, .lst [.ref p, .int (k : Int)]) :: l2)) (hp : R p = some (.lst (xs.map V.int))) (hm : 0 < m) (q : ∀ (r k' : Nat) (H' : Hp), (r : Int) < m → Mv.Hv R H' (l1 ++ (b, .lst [.ref p, .int (k' : Int)]) :: l2) → Q (.int (r : Int)) H') : Gx.CP sp_law_draw [.ref b, .int m] [] H Q E := by
  have hb : H b = some (.lst [.ref p, .int (k : Int)]) := hv.at (by simp)
  have hp' := hv.same _ _ hp
  have ne : p ≠ b := fun e => by
    rw [e, hb] at hp'
    injection hp' with hp'
    injection hp' with hp'
    cases xs with
    | nil => cases hp'
    | cons x xs => cases hp'
  refine cp_law_draw (H0 := fun a => if a = p ∨ a = b then none else H a) ⟨fun a o e => ?_, if_pos (.inr rfl), if_pos (.inl rfl), ⟨k, hb⟩, hp'⟩ hm fun r H' h0 h1 B' kp => ?_
  · by_cases c : a = p ∨ a = b
    · rw [if_pos c] at e; cases e
    · rw [if_neg c] at e; exact e
  · obtain ⟨k', hk'⟩ := B'.bx
    have eH : H' = upd H b (.lst [.ref p, .int (k' : Int)]) := funext fun c => by
      by_cases e : c = b
      · rw [e, hk', upd_same]
      · rw [kp c e, upd_ne e]
    have := q r.toNat k' H' (by omega) (by rw [eH]; exact hv.put)
    rw [Int.toNat_of_nonneg h0] at this
    exact this
/-- any two ways to the same end -/
theorem or_then {p A B C : Prop} [Decidable p] (hC : ¬ p → A → C) (hA : A) : Gx.IfP (decide p) (Gx.IfP true A B) C := by
  by_cases h : p
  · exact Gx.if_y (decide_eq_true h) (Gx.if_t hA)
  · exact Gx.if_n (decide_eq_false h) (hC h hA)
theorem drD {C x : Addr} {R H : Hp} {l1 l2 : List (Addr × HO)} {s : Dk.St} {b p : Addr} {k : Nat} {xs : List Int} {m : Int} {Q : VK} {E : XK} (ds : Dsk C R H x (l1 ++ (b, .lst [.ref p, .int (k : Int)]) :: l2) s) (hp : R p = some (.lst (xs.map V.int))) (hm : 0 < m) (q : ∀ (r k' : Nat) (H' : Hp), (r : Int) < m → Dsk C R H' x (l1 ++ (b, .lst [.ref p, .int (k' : Int)]) :: l2) s → Q (.int (r : Int)) H') : Gx.CP sp_law_draw [.ref b, .int m] [] H Q E := by
  obtain ⟨dx, pb, pp, pt, vb, vp, hv, hb, h2, h3⟩ := ds
  exact drV (l1 := _ :: _ :: _ :: l1) hv hp hm fun r k' H' hr hv' => q r k' H' hr ⟨dx, pb, pp, pt, vb, vp, hv', hb, h2, h3⟩

def sp_Disk_size (C : Addr) : Sp := fun vs H Q _ => ∃ (R : Hp) (x : Addr) (rest : List (Addr × HO)) (s : Dk.St) (n m : Nat), vs = [.ref x] ∧ Dsk C R H x rest s ∧ Dk.Wf n m s ∧ Q (.int (n : Int)) H

theorem sc_Disk_size : FnScope ["self"] ["self"] (defScope s_Disk_size) := ⟨rfl, rfl, rfl, by decide +kernel, rfl, by decide +kernel, by decide +kernel⟩
theorem ok_Disk_size (T : Tx P K mg) : FnOk P w K mg base CX0 1 T.Disk_size.a T.Disk_size.d ["self"] (sp_Disk_size T.a_Disk) := by
  refine T.Disk_size.f.ok sc_Disk_size (fun vs H Q E h => ?_) (fun cdv A outer s H vs Q E hr h => ⟨_, pss_one (ps_ret (pe_callB (Gx.c_lenK (K := K) rfl) rfl T.n_len (by decide +kernel) (pa_cons (pe_fld (pv 0) rfl) pa_nil))), ?_⟩)
  · obtain ⟨R, x, rest, s, n, m, rfl, _⟩ := h
    rfl
  · skip
    obtain ⟨R, x, rest, s, n, m, rfl, ds, w, q⟩ := h
    obtain ⟨dx, pb, pp, pt, vb, vp, hv, b, p, t⟩ := ds
    have hx := hv.g0
    have hb := hv.g1
    walk_at "run"
    refine Gx.lenL (SqL.of hb) ?_
    rw [b.1, w.bn]
    exact q

theorem cp_Disk_size {C x : Addr} {R H : Hp} {rest : List (Addr × HO)} {s : Dk.St} {n m : Nat} {Q : VK} {E : XK} (ds : Dsk C R H x rest s) (w : Dk.Wf n m s) (q : Q (.int (n : Int)) H) : Gx.CP (sp_Disk_size C) [.ref x] [] H Q E := ⟨R, x, rest, s, n, m, rfl, ds, w, q⟩

def sp_Disk_cut_count (C : Addr) : Sp := fun vs H Q _ => ∃ (R : Hp) (x : Addr) (rest : List (Addr × HO)) (s : Dk.St), vs = [.ref x] ∧ Dsk C R H x rest s ∧ Q (.int (s.cu : Int)) H

theorem sc_Disk_cut_count : FnScope ["self"] ["self"] (defScope s_Disk_cut_count) := ⟨rfl, rfl, rfl, by decide +kernel, rfl, by decide +kernel, by decide +kernel⟩
theorem ok_Disk_cut_count (T : Tx P K mg) : FnOk P w K mg base CX0 1 T.Disk_cut_count.a T.Disk_cut_count.d ["self"] (sp_Disk_cut_count T.a_Disk) := by
  refine T.Disk_cut_count.f.ok sc_Disk_cut_count (fun vs H Q E h => ?_) (fun cdv A outer s H vs Q E hr h => ⟨_, pss_one (ps_ret (pe_fld (pv 0) rfl)), ?_⟩)
  · obtain ⟨R, x, rest, s, rfl, _⟩ := h
    rfl
  · skip
    obtain ⟨R, x, rest, s, rfl, ds, q⟩ := h
    obtain ⟨dx, pb, pp, pt, vb, vp, hv, b, p, t⟩ := ds
    have hx := hv.g0
    walk_at "run"
    exact q

theorem cp_Disk_cut_count {C x : Addr} {R H : Hp} {rest : List (Addr × HO)} {s : Dk.St} {Q : VK} {E : XK} (ds : Dsk C R H x rest s) (q : Q (.int (s.cu : Int)) H) : Gx.CP (sp_Disk_cut_count C) [.ref x] [] H Q E := ⟨R, x, rest, s, rfl, ds, q⟩

def sp_Disk_pending_count (C : Addr) : Sp := fun vs H Q _ => ∃ (R : Hp) (x : Addr) (rest : List (Addr × HO)) (s : Dk.St), vs = [.ref x] ∧ Dsk C R H x rest s ∧ Q (.int (s.pe.length : Int)) H

theorem sc_Disk_pending_count : FnScope ["self"] ["self"] (defScope s_Disk_pending_count) := ⟨rfl, rfl, rfl, by decide +kernel, rfl, by decide +kernel, by decide +kernel⟩
theorem ok_Disk_pending_count (T : Tx P K mg) : FnOk P w K mg base CX0 1 T.Disk_pending_count.a T.Disk_pending_count.d ["self"] (sp_Disk_pending_count T.a_Disk) := by
  refine T.Disk_pending_count.f.ok sc_Disk_pending_count (fun vs H Q E h => ?_) (fun cdv A outer s H vs Q E hr h => ⟨_, pss_one (ps_ret (pe_callB (Gx.c_lenK (K := K) rfl) rfl T.n_len (by decide +kernel) (pa_cons (pe_fld (pv 0) rfl) pa_nil))), ?_⟩)
  · obtain ⟨R, x, rest, s, rfl, _⟩ := h
    rfl
  · skip
    obtain ⟨R, x, rest, s, rfl, ds, q⟩ := h
    obtain ⟨dx, pb, pp, pt, vb, vp, hv, b, p, t⟩ := ds
    have hx := hv.g0
    have hp := hv.g2
    walk_at "run"
    refine Gx.lenL (SqL.of hp) ?_
    rw [p.1]
    exact q

theorem cp_Disk_pending_count {C x : Addr} {R H : Hp} {rest : List (Addr × HO)} {s : Dk.St} {Q : VK} {E : XK} (ds : Dsk C R H x rest s) (q : Q (.int (s.pe.length : Int)) H) : Gx.CP (sp_Disk_pending_count C) [.ref x] [] H Q E := ⟨R, x, rest, s, rfl, ds, q⟩

def sp_law_read : Sp := fun vs H Q _ => ∃ (R : Hp) (lb lp : Addr) (bv pv : List V) (s : Dk.St) (z : Nat), vs = [.ref lb, .ref lp, .int (z : Int)] ∧ Same R H ∧ H lb = some (.lst bv) ∧ H lp = some (.lst pv) ∧ Dk.BL R bv s.bl ∧ Dk.PL HO.lst R pv s.pe ∧ z < s.bl.length ∧ s.pe.length ≤ 1000 ∧ ∀ f, R f = some (.lst ((Dk.rd s z).map V.int)) → Q (.ref f) H

theorem sc_law_read : FnScope ["blocks", "pending", "at", "found", "entry"] ["blocks", "pending", "at"] (defScope s_law_read) := ⟨rfl, rfl, rfl, by decide +kernel, rfl, by decide +kernel, by decide +kernel⟩
theorem ok_law_read (T : Tx P K mg) : FnOk P w K mg base CX0 1 T.law_read.a T.law_read.d ["blocks", "pending", "at"] (sp_law_read) := by
  refine T.law_read.f.ok sc_law_read (fun vs H Q E h => ?_) (fun cdv A outer s H vs Q E hr h => ⟨_, pss_cons (ps_set (i := 3) sc_law_read.nd rfl (Or.inl rfl) (pe_ix (Gx.ix_seqK (K := K) rfl) (pv 0) (pv 2) (fun _ _ => rfl)))
      (pss_cons (ps_for PassesOwn.never rfl (pi_list (pv 1)) (pg_name (i := 4) sc_law_read.nd rfl (Or.inl rfl))
      (pss_one (ps_if (pt_cmpR op_eq (pe_ix (Gx.ix_seqK (K := K) rfl) (pv 4) (pe_int) (fun _ _ => rfl)) (pv 2) (nomark _)) (pss_one (ps_set (i := 3) sc_law_read.nd rfl (Or.inl rfl) (pe_ix (Gx.ix_seqK (K := K) rfl) (pv 4) (pe_int) (fun _ _ => rfl)))) (pss_nil))))
      (pss_one (ps_ret (pv 3)))), ?_⟩)
  · obtain ⟨R, lb, lp, bv, pv, s, z, rfl, _⟩ := h
    rfl
  · skip
    obtain ⟨R, lb, lp, bv, pv, s, z, rfl, sR, hlb, hlp, hb, hp, hz, hpl, q⟩ := h
    obtain ⟨ba, hba, hbv⟩ := hb.get hz
    have hpvl := hp.1
    walk_at "run"
    refine Gx.ixL (SqL.of hlb) (atI_nat hba) ?_
    walk_at "run"
    refine Gx.lp (SqL.of hlp) ?_
    refine Gx.fw (walk_list (xs := pv)) (fun i σ' H' => H' = H ∧ ∃ (fa : Addr) (v4 : Option V), R fa = some (.lst (((s.pe.take i).foldl (fun f e => if e.1 = z then e.2 else f) (s.bl.getD z [])).map V.int)) ∧ σ' = [some (.ref lb), some (.ref lp), some (.int (z : Int)), some (.ref fa), v4]) ⟨rfl, ba, none, hbv, rfl⟩ (fun i σ' H' _ hh => by rw [hh.1]; exact SqL.of hlp) ?_ ?_
    · rintro i y σ' H2 H2' hi ⟨rfl, fa, v4, hfa, rfl⟩ ⟨rfl, hy⟩
      obtain ⟨tq, aq, e, rfl, he, h1, h2⟩ := hp.2 i y hy
      have htk : s.pe.take (i + 1) = s.pe.take i ++ [e] := by rw [List.take_add_one, he]; rfl
      have h1' := sR _ _ h1
      obtain ⟨at', bq⟩ := e
      dsimp only at *
      walk_at "run"
      refine Gx.if_d (fun e => ?_) (fun e => ?_)
      · walk_at "run"
        refine ⟨rfl, aq, _, ?_, rfl⟩
        rw [htk, List.foldl_append]
        show R aq = some (.lst ((if at' = z then bq else _).map V.int))
        rw [if_pos (by omega)]
        exact h2
      · walk_at "run"
        refine ⟨rfl, fa, _, ?_, rfl⟩
        rw [htk, List.foldl_append]
        show R fa = some (.lst ((if at' = z then bq else _).map V.int))
        rw [if_neg (by omega)]
        exact hfa
    rintro σ' H2 ⟨rfl, fa, v4, hfa, rfl⟩
    rw [List.take_of_length_le (by omega)] at hfa
    walk_at "run"
    exact q fa hfa

theorem cp_law_read {R H : Hp} {lb lp : Addr} {bv pv : List V} {s : Dk.St} {z : Nat} {Q : VK} {E : XK} (sR : Same R H) (hlb : H lb = some (.lst bv)) (hlp : H lp = some (.lst pv)) (hb : Dk.BL R bv s.bl) (hp : Dk.PL HO.lst R pv s.pe) (hz : z < s.bl.length) (hl : s.pe.length ≤ 1000) (q : ∀ f, R f = some (.lst ((Dk.rd s z).map V.int)) → Q (.ref f) H) : Gx.CP sp_law_read [.ref lb, .ref lp, .int (z : Int)] [] H Q E := ⟨R, lb, lp, bv, pv, s, z, rfl, sR, hlb, hlp, hb, hp, hz, hl, q⟩

def sp_Disk__check_at (CE C : Addr) : Sp := fun vs H Q E => ∃ (R : Hp) (x : Addr) (rest : List (Addr × HO)) (s : Dk.St) (n m : Nat) (z : Int), vs = [.ref x, .int z] ∧ Dsk C R H x rest s ∧ Dk.Wf n m s ∧ (0 ≤ z → z < n → Q .non H) ∧ (¬ (0 ≤ z ∧ z < n) → Sx.Err CE H "at" E)

theorem sc_Disk__check_at : FnScope ["self", "at"] ["self", "at"] (defScope s_Disk__check_at) := ⟨rfl, rfl, rfl, by decide +kernel, rfl, by decide +kernel, by decide +kernel⟩
theorem ok_Disk__check_at (T : Tx P K mg) : FnOk P w K mg base (L2.CX P w) 4 T.Disk__check_at.a T.Disk__check_at.d ["self", "at"] (sp_Disk__check_at T.x_OutOfRange.C T.a_Disk) := by
  refine T.Disk__check_at.f.okX sc_Disk__check_at (fun vs H Q E h => ?_) (fun cdv A outer s H vs Q E hr h => ⟨_, pss_one (ps_expr (pe_callS (ok_check_range T) (hr.mono (by decide)) rfl T.check_range.g T.check_range.f.kp T.check_range.b (fun σ => passAt (takes_of rfl rfl rfl rfl) σ) (pa_cons (pe_str) (pa_cons (pv 1) (pa_cons (pe_int) (pa_cons (pe_op op_sub (pe_callB (Gx.c_lenK (K := K) rfl) rfl T.n_len (by decide +kernel) (pa_cons (pe_fld (pv 0) rfl) pa_nil)) (pe_int)) pa_nil)))))), ?_⟩)
  · obtain ⟨R, x, rest, s, n, m, z, rfl, _⟩ := h
    rfl
  · skip
    obtain ⟨R, x, rest, s, n, m, z, rfl, ds, w, q, qe⟩ := h
    obtain ⟨dx, pb, pp, pt, vb, vp, hv, b, p, t⟩ := ds
    have hx := hv.g0
    have hb := hv.g1
    walk_at "run"
    refine Gx.lenL (SqL.of hb) ?_
    rw [b.1, w.bn]
    walk_at "run"
    refine cs_check_range (fun e1 e2 => ?_) (fun e => qe (by omega))
    walk_at "run"
    exact q e1 (by omega)

theorem cs_Disk__check_at {CE C x : Addr} {R H : Hp} {rest : List (Addr × HO)} {s : Dk.St} {n m : Nat} {z : Int} {Q : VK} {E : XK} (ds : Dsk C R H x rest s) (w : Dk.Wf n m s) (q : 0 ≤ z → z < n → Q .non H) (qe : ¬ (0 ≤ z ∧ z < n) → Sx.Err CE H "at" E) : Sx.CS (sp_Disk__check_at CE C) [.ref x, .int z] H Q E := ⟨R, x, rest, s, n, m, z, rfl, ds, w, q, qe⟩

def sp_Disk_read (K : PySem.W.Frag) (CE C : Addr) : Sp := fun vs H Q E => ∃ (R : Hp) (x : Addr) (rest : List (Addr × HO)) (s : Dk.St) (n m : Nat) (z : Int), vs = [.ref x, .int z] ∧ Dsk C R H x rest s ∧ Dk.Wf n m s ∧ m ≤ 1000 ∧ (0 ≤ z → z < n → ∀ p H', H p = none → Same H H' → H' p = some (.lst ((Dk.rd s z.toNat).map V.int)) → Q (.ref p) H') ∧ (¬ (0 ≤ z ∧ z < n) → Sx.Err CE H "at" E)

theorem sc_Disk_read : FnScope ["self", "at", "found", "place", "block"] ["self", "at"] (defScope s_Disk_read) := ⟨rfl, rfl, rfl, by decide +kernel, rfl, by decide +kernel, by decide +kernel⟩
theorem ok_Disk_read (T : Tx P K mg) : FnOk P w K mg base (L2.CX P w) 5 T.Disk_read.a T.Disk_read.d ["self", "at"] (sp_Disk_read K T.x_OutOfRange.C T.a_Disk) := by
  refine T.Disk_read.f.okX sc_Disk_read (fun vs H Q E h => ?_) (fun cdv A outer s H vs Q E hr h => ⟨_, pss_cons (ps_expr (Sx.pe_methS (pv 0) T.cl_Disk T.Disk__check_at.m (ok_Disk__check_at T) (hr.mono (by decide)) T.Disk__check_at.b (fun σ => passAt (takes_of rfl rfl rfl rfl) σ) (pa_cons (pv 1) pa_nil)))
      (pss_cons (ps_set (i := 2) sc_Disk_read.nd rfl (Or.inl rfl) (pe_ix (Gx.ix_seqK (K := K) rfl) (pe_fld (pv 0) rfl) (pv 1) (fun _ _ => rfl)))
      (pss_cons (ps_for (passes_of rfl) rfl (pi_list (pe_fld (pv 0) rfl)) (pg_tup rfl (pgs_cons (pg_name (i := 3) sc_Disk_read.nd rfl (Or.inl rfl)) (pgs_cons (pg_name (i := 4) sc_Disk_read.nd rfl (Or.inl rfl)) pgs_nil)))
      (pss_one (ps_if (pt_cmpR op_eq (pv 3) (pv 1) (nomark _)) (pss_one (ps_set (i := 2) sc_Disk_read.nd rfl (Or.inl rfl) (pv 4))) (pss_nil))))
      (pss_one (ps_ret (pe_callTy (Gx.c_listK (K := K) rfl) rfl T.n_list (by decide +kernel) (pa_cons (pv 2) pa_nil)))))), ?_⟩)
  · obtain ⟨R, x, rest, s, n, m, z, rfl, _⟩ := h
    rfl
  · skip
    obtain ⟨R, x, rest, s, n, m, z, rfl, ds, w, hm, q, qe⟩ := h
    have ds0 := ds
    obtain ⟨dx, pb, pp, pt, vb, vp, hv, hb, hp, ht⟩ := ds
    have hx := hv.g0
    have hpb := hv.g1
    have hpp := hv.g2
    walk_at "run"
    refine Sx.mts hx no_Disk__check_at ?_
    walk_at "run"
    refine cs_Disk__check_at ds0 w (fun e1 e2 => ?_) qe
    obtain ⟨z, rfl⟩ : ∃ m : Nat, z = m := ⟨z.toNat, by omega⟩
    have q := q e1 e2
    rw [Int.toNat_natCast] at q
    obtain ⟨ba, hba, hbv⟩ := hb.get (i := z) (by rw [w.bn]; omega)
    walk_at "run"
    refine Gx.ixL (SqL.of hpb) (atI_nat hba) ?_
    walk_at "run"
    refine Gx.lp (SqL.of hpp) ?_
    refine Gx.fw (walk_list (xs := vp)) (fun i σ' H' => H' = H ∧ ∃ (fa : Addr) (v3 v4 : Option V), R fa = some (.lst (((s.pe.take i).foldl (fun f e => if e.1 = z then e.2 else f) (s.bl.getD z [])).map V.int)) ∧ σ' = [some (.ref x), some (.int (z : Int)), some (.ref fa), v3, v4]) ⟨rfl, ba, none, none, hbv, rfl⟩ (fun i σ' H' _ hh => by rw [hh.1]; exact SqL.of hpp) ?_ ?_
    · rintro i y σ' H2 H2' hi ⟨rfl, fa, v3, v4, hfa, rfl⟩ ⟨rfl, hy⟩
      obtain ⟨tq, aq, e, rfl, he, h1, h2⟩ := hp.2 i y hy
      have htk : s.pe.take (i + 1) = s.pe.take i ++ [e] := by rw [List.take_add_one, he]; rfl
      have h1' := hv.same _ _ h1
      obtain ⟨at', bq⟩ := e
      dsimp only at *
      walk_at "run"
      refine Gx.if_d (fun e => ?_) (fun e => ?_)
      · walk_at "run"
        refine ⟨rfl, aq, _, _, ?_, rfl⟩
        rw [htk, List.foldl_append]
        show R aq = some (.lst ((if at' = z then bq else _).map V.int))
        rw [if_pos (by omega)]
        exact h2
      · walk_at "run"
        refine ⟨rfl, fa, _, _, ?_, rfl⟩
        rw [htk, List.foldl_append]
        show R fa = some (.lst ((if at' = z then bq else _).map V.int))
        rw [if_neg (by omega)]
        exact hfa
    rintro σ' H2 ⟨rfl, fa, v3, v4, hfa, rfl⟩
    rw [List.take_of_length_le (by rw [hp.1]; exact Nat.le_refl _)] at hfa
    walk_at "run"
    exact Nx.listL0 (SqL.of (hv.same _ _ hfa)) fun p H' n' s' h' => q p H' n' s' h'

theorem cs_Disk_read {K : PySem.W.Frag} {CE C x : Addr} {R H : Hp} {rest : List (Addr × HO)} {s : Dk.St} {n m : Nat} {z : Int} {Q : VK} {E : XK} (ds : Dsk C R H x rest s) (w : Dk.Wf n m s) (hm : m ≤ 1000) (q : 0 ≤ z → z < n → ∀ p H', H p = none → Same H H' → H' p = some (.lst ((Dk.rd s z.toNat).map V.int)) → Q (.ref p) H') (qe : ¬ (0 ≤ z ∧ z < n) → Sx.Err CE H "at" E) : Sx.CS (sp_Disk_read K CE C) [.ref x, .int z] H Q E := ⟨R, x, rest, s, n, m, z, rfl, ds, w, hm, q, qe⟩
theorem cp_Disk_read {K : PySem.W.Frag} {CE C x : Addr} {R H : Hp} {rest : List (Addr × HO)} {s : Dk.St} {n m z : Nat} {Q : VK} {E : XK} (ds : Dsk C R H x rest s) (w : Dk.Wf n m s) (hm : m ≤ 1000) (hz : z < n) (q : ∀ p H', H p = none → Same H H' → H' p = some (.lst ((Dk.rd s z).map V.int)) → Q (.ref p) H') : Gx.CP (sp_Disk_read K CE C) [.ref x, .int (z : Int)] [] H Q E := ⟨R, x, rest, s, n, m, z, rfl, ds, w, hm, fun _ _ => q, fun e => absurd ⟨by omega, by omega⟩ e⟩

def sp_Disk__cut (C : Addr) : Sp := fun vs H Q _ => ∃ (R : Hp) (x tp : Addr) (rest : List (Addr × HO)) (s : Dk.St) (n m : Nat) (t : List Int), vs = [.ref x, .ref tp] ∧ Dsk C R H x rest s ∧ Dk.Wf n m s ∧ m ≤ 1000 ∧ R tp = some (.lst (t.map V.int)) ∧ Dk.TOk t ∧ t.length ≤ 100001 ∧ s.cu ≤ 1000000 ∧ ∀ R' H', Same R R' → Dsk C R' H' x rest (s.cut t) → Q .non H'

theorem sc_Disk__cut : FnScope ["self", "torn", "number", "at", "block", "count"] ["self", "torn"] (defScope s_Disk__cut) := ⟨rfl, rfl, rfl, by decide +kernel, rfl, by decide +kernel, by decide +kernel⟩
theorem ok_Disk__cut (T : Tx P K mg) : FnOk P w K mg base CX0 1 T.Disk__cut.a T.Disk__cut.d ["self", "torn"] (sp_Disk__cut T.a_Disk) := by
  refine T.Disk__cut.f.ok sc_Disk__cut (fun vs H Q E h => ?_) (fun cdv A outer s H vs Q E hr h => ⟨_, pss_cons (ps_for PassesOwn.never rfl (pi_enum rfl T.n_enumerate (pa_cons (pe_fld (pv 0) rfl) pa_nil)) (pg_tup rfl (pgs_cons (pg_name (i := 2) sc_Disk__cut.nd rfl (Or.inl rfl)) (pgs_cons (pg_tup rfl (pgs_cons (pg_name (i := 3) sc_Disk__cut.nd rfl (Or.inl rfl)) (pgs_cons (pg_name (i := 4) sc_Disk__cut.nd rfl (Or.inl rfl)) pgs_nil))) pgs_nil)))
      (pss_cons (ps_set (i := 5) sc_Disk__cut.nd rfl (Or.inl rfl) (pe_ifExp (pt_cmpR op_lt (pv 2) (pe_callB (Gx.c_lenK (K := K) rfl) rfl T.n_len (by decide +kernel) (pa_cons (pv 1) pa_nil)) (nomark _)) (pe_ix (Gx.ix_seqK (K := K) rfl) (pv 1) (pv 2) (fun _ _ => rfl)) (pe_int)))
      (pss_one (ps_asg (pe_op op_cat (pe_slice (Gx.sl_listK (K := K) rfl) (pv 4) po_none (po_some (pv 5))) (pe_slice (Gx.sl_listK (K := K) rfl) (pe_ix (Gx.ix_seqK (K := K) rfl) (pe_fld (pv 0) rfl) (pv 3) (fun _ _ => rfl)) (po_some (pv 5)) po_none)) (pg_sub (pe_fld (pv 0) rfl) (pv 3) set_list)))))
      (pss_cons (ps_fld (pv 0) (pe_lst pa_nil) rfl)
      (pss_cons (ps_fld (pv 0) (pe_non) rfl)
      (pss_one (ps_fldaug (pv 0) (pe_int) in_add)))), ?_⟩)
  · obtain ⟨R, x, tp, rest, s, n, m, t, rfl, _⟩ := h
    rfl
  · skip
    obtain ⟨R, x, tp, rest, s, n, m, t, rfl, ds, w, hm, htp, htk_, htl, hcu, q⟩ := h
    obtain ⟨dx, pb, pp, pt, vb, vp, hv, hb, hp, ht⟩ := ds
    have hx := hv.g0
    have hpb := hv.g1
    have hpp := hv.g2
    have htp' := hv.same _ _ htp
    walk_at "run"
    refine Nx.en (SqL.of hpp) ?_
    have hpl : vp.length = s.pe.length := hp.1
    have hpm := w.pn
    refine Gx.fw (walk_enum (xs := vp)) (fun i σ' H' => ∃ (R' : Hp) (vb' : List V) (v2 v3 v4 v5 : Option V), Same R R' ∧ Mv.Hv R' H' ((x, .ins T.a_Disk dx (fl_Disk (.ref pb) (.ref pp) (.int (s.cu : Int)) (Dk.lfV s.lf) (.ref pt))) :: (pb, .lst vb') :: (pp, .lst vp) :: rest) ∧ Dk.BL R' vb' (Dk.cutS t s.bl (s.pe.take i)) ∧ σ' = [some (.ref x), some (.ref tp), v2, v3, v4, v5]) ⟨R, vb, none, none, none, none, Same.refl _, hv, hb, rfl⟩ (fun i σ' H' _ ⟨R', vb', v2, v3, v4, v5, _, hv', _⟩ => SqL.of hv'.g2) ?_ ?_
    · rintro i tq σ' H4 H4' hi ⟨R', vb', v2, v3, v4, v5, sR, hv', hb', rfl⟩ ⟨ta, w1, w2, rfl, hn, rfl, q1, q2⟩
      cases q1
      dsimp only at q2
      obtain ⟨te, aq, e, rfl, he, h1, h2⟩ := hp.2 i _ q2
      have htk : s.pe.take (i + 1) = s.pe.take i ++ [e] := by rw [List.take_add_one, he]; rfl
      have hil : i < s.pe.length := by omega
      obtain ⟨g1, g2⟩ := w.pb e (List.mem_of_getElem? he)
      rw [htk, Dk.cutS_app, List.length_take, Nat.min_eq_left (by omega)]
      obtain ⟨at', bq⟩ := e
      dsimp only at *
      have hbn : (Dk.cutS t s.bl (s.pe.take i)).length = n := Dk.cutS_len.trans w.bn
      have hbk := Dk.cutS_ok (tn := t) w.bn w.bb (fun e he => w.pb e (List.mem_of_mem_take he : e ∈ s.pe)) (pe := s.pe.take i)
      generalize Dk.cutS t s.bl (s.pe.take i) = bs at *
      have htk0 := htk_
      have s5 := Gx.same_new (o := .tup [.int (i : Int), .ref te]) hn
      have ht5 : upd H4 ta (.tup [.int (i : Int), .ref te]) ta = some (.tup [.int (i : Int), .ref te]) := upd_same
      obtain ⟨R5, hv5, sR5, _⟩ := hv'.grow s5
      generalize upd H4 ta (.tup [.int (i : Int), .ref te]) = H5 at s5 ht5 hv5
      have hb5 := hb'.keep sR5
      have sR5 := sR.trans sR5
      clear hv' hb' sR
      have h15 := hv5.same _ _ (sR5 _ _ h1)
      have h25 := hv5.same _ _ (sR5 _ _ h2)
      have ht5' := hv5.same _ _ (sR5 _ _ htp)
      have hpb5 := hv5.g1
      have hx5 := hv5.g0
      have hbqk := (Dk.getD_ok (i := at') hbk (by omega))
      obtain ⟨ba, hba, hbv⟩ := hb5.get (i := at') (by omega)
      have hbv5 := hv5.same _ _ hbv
      have ck : ∃ ck : Nat, t.getD i 0 = (ck : Int) ∧ ck ≤ 32 := by
        rcases Nat.lt_or_ge i t.length with c | c
        · have hm := htk0 _ (Gd.getD_mem c)
          exact ⟨(t.getD i 0).toNat, by omega, by omega⟩
        · exact ⟨0, by rw [List.getD_eq_getElem?_getD, List.getElem?_eq_none c]; rfl, by omega⟩
      obtain ⟨ck, hck, hck2⟩ := ck
      rw [hck]
      have hlv : vb'.length = n := hb5.1.trans hbn
      walk_at "run"
      refine Gx.lenL (SqL.of ht5') ?_
      rw [List.length_map]
      walk_at "run"
      refine Gx.if_d (fun e => ?_) (fun e => ?_)
      · walk_at "run"
        refine Gx.ixL (SqL.of ht5') (Gx.at_map (by omega)) ?_
        rw [hck]
        walk_at "run"
        refine Nx.slL0 (SqL.of h25) fun p6 H6 n6 s6 h6 => ?_
        rw [show cutV (bq.map V.int) none (some ((ck : Nat) : Int)) = (bq.take ck).map V.int from (Dk.cutTo (bq.map V.int) ck (by rw [List.length_map, g2.1]; exact hck2)).trans List.map_take.symm] at h6
        have hpb6 := s6 _ _ hpb5
        have hx6 := s6 _ _ hx5
        walk_at "run"
        refine Gx.ixL (SqL.of hpb6) (atI_nat hba) ?_
        walk_at "run"
        refine Nx.slL0 (SqL.of (s6 _ _ hbv5)) fun p7 H7 n7 s7 h7 => ?_
        rw [show cutV ((bs.getD at' []).map V.int) (some ((ck : Nat) : Int)) none = ((bs.getD at' []).drop ck).map V.int from (Dk.cutFrom _ ck (by rw [List.length_map, hbqk.1]; exact hck2)).trans List.map_drop.symm] at h7
        have h67 := s7 _ _ h6
        have hx7 := s7 _ _ hx6
        walk_at "run"
        refine Nx.cat0 h67 h7 (by rw [List.length_map, List.length_map, List.length_take, List.length_drop, g2.1, hbqk.1, sizeLine_eq]; omega) fun p8 H8 n8 s8 h8 => ?_
        rw [← List.map_append] at h8
        have sB := s6.trans (s7.trans s8)
        obtain ⟨R8, hv8, sR8, gR8⟩ := hv5.grow sB
        have hp8 : R8 p8 = some (.lst ((Dk.tear (ck : Int) bq (bs.getD at' [])).map V.int)) := by
          rw [gR8 _ _ ((s6.trans s7).free n8) h8]
          unfold Dk.tear
          rw [Int.toNat_natCast]
        have hpb8 := hv8.g1
        have hx8 := hv8.g0
        walk_at "run"
        refine Gx.setL (j := at') hpb8 (Dk.ixN_nat (by omega)) ?_
        exact ⟨R8, _, _, _, _, _, sR5.trans sR8, hv8.p1, (hb5.keep sR8).set hp8, rfl⟩
      · obtain rfl : ck = 0 := by
          rw [List.getD_eq_getElem?_getD, List.getElem?_eq_none (by omega)] at hck
          have : (0 : Int) = (ck : Int) := hck
          omega
        walk_at "run"
        refine Nx.slL0 (SqL.of h25) fun p6 H6 n6 s6 h6 => ?_
        rw [show cutV (bq.map V.int) none (some (0 : Int)) = (bq.take 0).map V.int from (Dk.cutTo (bq.map V.int) 0 (by rw [List.length_map, g2.1]; exact hck2)).trans List.map_take.symm] at h6
        have hpb6 := s6 _ _ hpb5
        have hx6 := s6 _ _ hx5
        walk_at "run"
        refine Gx.ixL (SqL.of hpb6) (atI_nat hba) ?_
        walk_at "run"
        refine Nx.slL0 (SqL.of (s6 _ _ hbv5)) fun p7 H7 n7 s7 h7 => ?_
        rw [show cutV ((bs.getD at' []).map V.int) (some (0 : Int)) none = ((bs.getD at' []).drop 0).map V.int from (Dk.cutFrom _ 0 (by rw [List.length_map, hbqk.1]; exact hck2)).trans List.map_drop.symm] at h7
        have h67 := s7 _ _ h6
        have hx7 := s7 _ _ hx6
        walk_at "run"
        refine Nx.cat0 h67 h7 (by rw [List.length_map, List.length_map, List.length_take, List.length_drop, g2.1, hbqk.1, sizeLine_eq]; omega) fun p8 H8 n8 s8 h8 => ?_
        rw [← List.map_append] at h8
        have sB := s6.trans (s7.trans s8)
        obtain ⟨R8, hv8, sR8, gR8⟩ := hv5.grow sB
        have hp8 : R8 p8 = some (.lst ((Dk.tear ((0 : Nat) : Int) bq (bs.getD at' [])).map V.int)) := by
          rw [gR8 _ _ ((s6.trans s7).free n8) h8]
          unfold Dk.tear
          rw [Int.toNat_natCast]
        have hpb8 := hv8.g1
        have hx8 := hv8.g0
        walk_at "run"
        refine Gx.setL (j := at') hpb8 (Dk.ixN_nat (by omega)) ?_
        exact ⟨R8, _, _, _, _, _, sR5.trans sR8, hv8.p1, (hb5.keep sR8).set hp8, rfl⟩
    rintro σ' H4 ⟨R', vb', v2, v3, v4, v5, sR, hv', hb', rfl⟩
    rw [List.take_of_length_le (by omega)] at hb'
    have hx5 := hv'.g0
    walk_at "run"
    refine Nx.lst0 (by show 0 ≤ sizeLine; decide) fun p5 H5 n5 s5 h5 => ?_
    obtain ⟨R5, hv5, sR5⟩ := hv'.more n5 s5 h5
    have hb5 := hb'.keep sR5
    have hx5 := hv5.g1
    walk_at "run"
    refine Gx.sfp hx5 T.cl_Disk T.na_Disk__pending few_Disk put_Disk__pending ?_
    have hv6 := hv5.p1 (u := .ins T.a_Disk dx (fl_Disk (.ref pb) (.ref p5) (.int (s.cu : Int)) (Dk.lfV s.lf) (.ref pt)))
    have hx6 := hv6.g1
    walk_at "run"
    refine Gx.sfp hx6 T.cl_Disk T.na_Disk__left few_Disk put_Disk__left ?_
    have hv7 := hv6.p1 (u := .ins T.a_Disk dx (fl_Disk (.ref pb) (.ref p5) (.int (s.cu : Int)) .non (.ref pt)))
    have hx7 := hv7.g1
    walk_at "run"
    with_reducible refine Mv.fldaug ?_
    walk_at "run"
    refine Mv.afpA hx7 T.cl_Disk T.na_Disk__cuts lk_Disk__cuts few_Disk put_Disk__cuts ?_
    have hv8 := hv7.p1 (u := .ins T.a_Disk dx (fl_Disk (.ref pb) (.ref p5) (.int ((s.cu : Int) + 1)) .non (.ref pt)))
    obtain ⟨R9, hv9, sR9, _⟩ := hv8.rot4.less
    have sA := sR.trans (sR5.trans sR9)
    exact q R9 _ sA ⟨dx, pb, p5, pt, vb', [], hv9, hb5.keep sR9, Dk.PL.nil, sA _ _ ht⟩

theorem cp_Disk__cut {C x tp : Addr} {R H : Hp} {rest : List (Addr × HO)} {s : Dk.St} {n m : Nat} {t : List Int} {Q : VK} {E : XK} (ds : Dsk C R H x rest s) (w : Dk.Wf n m s) (hm : m ≤ 1000) (ht : R tp = some (.lst (t.map V.int))) (hk : Dk.TOk t) (hl : t.length ≤ 100001) (hc : s.cu ≤ 1000000) (q : ∀ R' H', Same R R' → Dsk C R' H' x rest (s.cut t) → Q .non H') : Gx.CP (sp_Disk__cut C) [.ref x, .ref tp] [] H Q E := ⟨R, x, tp, rest, s, n, m, t, rfl, ds, w, hm, ht, hk, hl, hc, q⟩

def sp_check_torn (CE : Addr) : Sp := fun vs H Q E => ∃ (a : Addr) (b : List Int), vs = [.ref a] ∧ H a = some (.lst (b.map V.int)) ∧ (Dk.TOk b → Q .non H) ∧ (¬ Dk.TOk b → Sx.Err CE H "torn" E)

theorem sc_check_torn : FnScope ["torn", "count"] ["torn"] (defScope s_check_torn) := ⟨rfl, rfl, rfl, by decide +kernel, rfl, by decide +kernel, by decide +kernel⟩
theorem ok_check_torn (T : Tx P K mg) : FnOk P w K mg base (L2.CX P w) 4 T.check_torn.a T.check_torn.d ["torn"] (sp_check_torn T.x_OutOfRange.C) := by
  refine T.check_torn.f.okX sc_check_torn (fun vs H Q E h => ?_) (fun cdv A outer s H vs Q E hr h => ⟨_, pss_one (ps_for (passes_of rfl) rfl (pi_list (pv 0)) (pg_name (i := 1) sc_check_torn.nd rfl (Or.inl rfl))
      (pss_one (ps_expr (pe_callS (ok_check_range T) (hr.mono (by decide)) rfl T.check_range.g T.check_range.f.kp T.check_range.b (fun σ => passAt (takes_of rfl rfl rfl rfl) σ) (pa_cons (pe_str) (pa_cons (pv 1) (pa_cons (pe_int) (pa_cons (pe_glob (v := .int 32) rfl T.c_BLOCK ⟨_, rfl⟩) pa_nil)))))))), ?_⟩)
  · obtain ⟨a, b, rfl, _⟩ := h
    rfl
  · skip
    obtain ⟨a, b, rfl, ha, q, qe⟩ := h
    walk_at "run"
    refine Gx.lp (SqL.of ha) ?_
    refine Gx.fw (walk_list (xs := b.map V.int)) (fun i σ' H' => H' = H ∧ (∀ j, j < i → 0 ≤ b.getD j 0 ∧ b.getD j 0 ≤ 32) ∧ ∃ v : Option V, σ' = [some (.ref a), v]) ⟨rfl, fun _ h => absurd h (Nat.not_lt_zero _), none, rfl⟩ (fun i σ' H' _ hh => by rw [hh.1]; exact SqL.of ha) ?_ ?_
    · rintro i y σ' H2 H2' hi ⟨rfl, hj, v, rfl⟩ ⟨rfl, hy⟩
      rw [List.length_map] at hi
      rw [List.getElem?_map, List.getElem?_eq_getElem hi] at hy
      have hy := Option.some.inj hy
      subst hy
      have eg : b.getD i 0 = b[i] := by rw [List.getD_eq_getElem?_getD, List.getElem?_eq_getElem hi]; rfl
      walk_at "run"
      refine cs_check_range (fun e1 e2 => ?_) (fun e => qe fun z => e (z _ (List.getElem_mem hi)))
      walk_at "run"
      refine ⟨rfl, fun j hj' => ?_, _, rfl⟩
      rcases Nat.lt_or_ge j i with c | c
      · exact hj j c
      · obtain rfl : j = i := by omega
        rw [eg]; exact ⟨e1, e2⟩
    rintro σ' H2 ⟨rfl, hj, v, rfl⟩
    refine q fun z hz => ?_
    obtain ⟨i, hi, rfl⟩ := List.getElem_of_mem hz
    have := hj i (by rw [List.length_map]; exact hi)
    rw [List.getD_eq_getElem?_getD, List.getElem?_eq_getElem hi] at this
    exact this

theorem cs_check_torn {CE a : Addr} {b : List Int} {H : Hp} {Q : VK} {E : XK} (h : H a = some (.lst (b.map V.int))) (q : Dk.TOk b → Q .non H) (qe : ¬ Dk.TOk b → Sx.Err CE H "torn" E) : Sx.CS (sp_check_torn CE) [.ref a] H Q E := ⟨a, b, rfl, h, q, qe⟩

def sp_Disk_cut_power (CE C : Addr) : Sp := fun vs H Q E => ∃ (R : Hp) (x tp : Addr) (rest : List (Addr × HO)) (s : Dk.St) (n m : Nat) (t : List Int), vs = [.ref x, .ref tp] ∧ Dsk C R H x rest s ∧ Dk.Wf n m s ∧ m ≤ 1000 ∧ s.cu ≤ 1000000 ∧ R tp = some (.lst (t.map V.int)) ∧ t.length ≤ 100001 ∧ (¬ Dk.TOk t → Sx.Err CE H "torn" E) ∧ (Dk.TOk t → ∀ R' H', Same R R' → Dsk C R' H' x rest (s.cut t) → Q .non H')

theorem sc_Disk_cut_power : FnScope ["self", "torn"] ["self", "torn"] (defScope s_Disk_cut_power) := ⟨rfl, rfl, rfl, by decide +kernel, rfl, by decide +kernel, by decide +kernel⟩
theorem ok_Disk_cut_power (T : Tx P K mg) : FnOk P w K mg base (L2.CX P w) 5 T.Disk_cut_power.a T.Disk_cut_power.d ["self", "torn"] (sp_Disk_cut_power T.x_OutOfRange.C T.a_Disk) := by
  refine T.Disk_cut_power.f.okX sc_Disk_cut_power (fun vs H Q E h => ?_) (fun cdv A outer s H vs Q E hr h => ⟨_, pss_cons (ps_expr (pe_callS (ok_check_torn T) (hr.mono (by decide)) rfl T.check_torn.g T.check_torn.f.kp T.check_torn.b (fun σ => passAt (takes_of rfl rfl rfl rfl) σ) (pa_cons (pv 1) pa_nil)))
      (pss_one (ps_expr (pe_meth (pv 0) T.cl_Disk T.Disk__cut.m (ok_Disk__cut T) (hr.mono (by decide)) T.Disk__cut.b .nil pass0 (pa_cons (pv 1) pa_nil)))), ?_⟩)
  · obtain ⟨R, x, tp, rest, s, n, m, t, rfl, _⟩ := h
    rfl
  · skip
    obtain ⟨R, x, tp, rest, s, n, m, t, rfl, ds, w, hm, hcu, htp, htl, qe, q⟩ := h
    have ds0 := ds
    obtain ⟨dx, pb, pp, pt, vb, vp, hv, hb, hp, ht⟩ := ds
    have hx := hv.g0
    walk_at "run"
    refine cs_check_torn (hv.same _ _ htp) (fun tk => ?_) qe
    walk_at "run"
    refine Gx.mp hx no_Disk__cut ?_
    walk_at "run"
    exact cp_Disk__cut ds0 w hm htp tk htl hcu fun R' H' sR ds' => q tk R' H' sR ds'

theorem cs_Disk_cut_power {CE C x tp : Addr} {R H : Hp} {rest : List (Addr × HO)} {s : Dk.St} {n m : Nat} {t : List Int} {Q : VK} {E : XK} (ds : Dsk C R H x rest s) (w : Dk.Wf n m s) (hm : m ≤ 1000) (hc : s.cu ≤ 1000000) (ht : R tp = some (.lst (t.map V.int))) (hl : t.length ≤ 100001) (qe : ¬ Dk.TOk t → Sx.Err CE H "torn" E) (q : Dk.TOk t → ∀ R' H', Same R R' → Dsk C R' H' x rest (s.cut t) → Q .non H') : Sx.CS (sp_Disk_cut_power CE C) [.ref x, .ref tp] H Q E := ⟨R, x, tp, rest, s, n, m, t, rfl, ds, w, hm, hc, ht, hl, qe, q⟩
theorem cp_Disk_cut_power {CE C x tp : Addr} {R H : Hp} {rest : List (Addr × HO)} {s : Dk.St} {n m : Nat} {t : List Int} {Q : VK} {E : XK} (ds : Dsk C R H x rest s) (w : Dk.Wf n m s) (hm : m ≤ 1000) (hc : s.cu ≤ 1000000) (ht : R tp = some (.lst (t.map V.int))) (hl : t.length ≤ 100001) (tk : Dk.TOk t) (q : ∀ R' H', Same R R' → Dsk C R' H' x rest (s.cut t) → Q .non H') : Gx.CP (sp_Disk_cut_power CE C) [.ref x, .ref tp] [] H Q E := ⟨R, x, tp, rest, s, n, m, t, rfl, ds, w, hm, hc, ht, hl, fun e => absurd tk e, fun _ => q⟩

def sp_Disk__use_power (CP C : Addr) : Sp := fun vs H Q E => ∃ (R : Hp) (x : Addr) (rest : List (Addr × HO)) (s : Dk.St) (n m : Nat), vs = [.ref x] ∧ Dsk C R H x rest s ∧ Dk.Wf n m s ∧ m ≤ 1000 ∧ s.cu ≤ 1000000 ∧ (s.lf ≠ some 0 → ∀ H', Dsk C R H' x rest s.use → Q .non H') ∧ (s.lf = some 0 → ∀ R' H', Same R R' → Dsk C R' H' x rest (s.cut s.tn) → Sx.ErrB CP H' E)

theorem sc_Disk__use_power : FnScope ["self"] ["self"] (defScope s_Disk__use_power) := ⟨rfl, rfl, rfl, by decide +kernel, rfl, by decide +kernel, by decide +kernel⟩
theorem ok_Disk__use_power (T : Tx P K mg) : FnOk P w K mg base (L2.CX P w) 2 T.Disk__use_power.a T.Disk__use_power.d ["self"] (sp_Disk__use_power T.y_PowerCut.C T.a_Disk) := by
  refine T.Disk__use_power.f.okX sc_Disk__use_power (fun vs H Q E h => ?_) (fun cdv A outer s H vs Q E hr h => ⟨_, pss_cons (ps_if (pt_cmpR op_isN (pe_fld (pv 0) rfl) (pe_non) (nomark _)) (pss_one (ps_retN)) (pss_nil))
      (pss_cons (ps_if (pt_cmpR op_eq (pe_fld (pv 0) rfl) (pe_int) (nomark _)) (pss_cons (ps_expr (pe_meth (pv 0) T.cl_Disk T.Disk__cut.m (ok_Disk__cut T) (hr.mono (by decide)) T.Disk__cut.b .nil pass0 (pa_cons (pe_fld (pv 0) rfl) pa_nil)))
      (pss_one (ps_raise rfl (takes_of rfl rfl rfl rfl) (pmk_own PySem.F.excBase_ValueError T.y_PowerCut.x T.y_PowerCut.g T.y_PowerCut.k (raises_own T.y_PowerCut.b T.y_PowerCut.t) rfl)))) (pss_nil))
      (pss_one (ps_fldaug (pv 0) (pe_int) in_sub))), ?_⟩)
  · obtain ⟨R, x, rest, s, n, m, rfl, _⟩ := h
    rfl
  · skip
    obtain ⟨R, x, rest, s, n, m, rfl, ds, w, hm, hcu, q, qe⟩ := h
    have ds0 := ds
    obtain ⟨dx, pb, pp, pt, vb, vp, hv, hb, hp, ht⟩ := ds
    have hx := hv.g0
    cases hlf : s.lf with
    | none =>
      rw [hlf] at hx hv
      dsimp only [Dk.lfV] at hx hv
      have hu : Dk.lfV s.use.lf = .non := by unfold Dk.St.use; dsimp only; rw [hlf]; rfl
      walk_at "run"
      exact q (by rw [hlf]; exact fun z => nomatch z) H ⟨dx, pb, pp, pt, vb, vp, by rw [hu]; exact hv, hb, hp, ht⟩
    | some k =>
      rw [hlf] at hx hv
      dsimp only [Dk.lfV] at hx hv
      walk_at "run"
      refine Gx.if_d (fun e => ?_) (fun e => ?_)
      · have k0 : k = 0 := by omega
        walk_at "run"
        refine Gx.mp hx no_Disk__cut ?_
        walk_at "run"
        refine cp_Disk__cut ds0 w hm ht w.tn (Nat.le_succ_of_le w.tl) hcu fun R' H' sR ds' => ?_
        walk_at "run"
        exact qe (by rw [hlf, k0]) R' H' sR ds' H' (Same.refl _)
      · have k0 : k ≠ 0 := by omega
        have hu : Dk.lfV s.use.lf = .int ((k : Int) - 1) := by unfold Dk.St.use; dsimp only; rw [hlf]; show V.int ((k - 1 : Nat) : Int) = _; congr 1; omega
        walk_at "run"
        with_reducible refine Mv.fldaug ?_
        walk_at "run"
        refine Mv.afpS hx T.cl_Disk T.na_Disk__left lk_Disk__left few_Disk put_Disk__left ?_
        exact q (by rw [hlf]; intro z; injection z with z; exact k0 z) _ ⟨dx, pb, pp, pt, vb, vp, by rw [hu]; exact hv.p0, hb, hp, ht⟩

theorem cs_Disk__use_power {CP C x : Addr} {R H : Hp} {rest : List (Addr × HO)} {s : Dk.St} {n m : Nat} {Q : VK} {E : XK} (ds : Dsk C R H x rest s) (w : Dk.Wf n m s) (hm : m ≤ 1000) (hc : s.cu ≤ 1000000) (q : s.lf ≠ some 0 → ∀ H', Dsk C R H' x rest s.use → Q .non H') (qe : s.lf = some 0 → ∀ R' H', Same R R' → Dsk C R' H' x rest (s.cut s.tn) → Sx.ErrB CP H' E) : Sx.CS (sp_Disk__use_power CP C) [.ref x] H Q E := ⟨R, x, rest, s, n, m, rfl, ds, w, hm, hc, q, qe⟩

def sp_check_block (CE : Addr) : Sp := fun vs H Q E => ∃ (a : Addr) (b : List Int), vs = [.ref a] ∧ H a = some (.lst (b.map V.int)) ∧ (Dk.BOk b → Q .non H) ∧ (¬ Dk.BOk b → Sx.Err CE H "block" E)

theorem sc_check_block : FnScope ["block", "byte"] ["block"] (defScope s_check_block) := ⟨rfl, rfl, rfl, by decide +kernel, rfl, by decide +kernel, by decide +kernel⟩
theorem ok_check_block (T : Tx P K mg) : FnOk P w K mg base (L2.CX P w) 3 T.check_block.a T.check_block.d ["block"] (sp_check_block T.x_OutOfRange.C) := by
  refine T.check_block.f.okX sc_check_block (fun vs H Q E h => ?_) (fun cdv A outer s H vs Q E hr h => ⟨_, pss_cons (ps_if (PW.pt (pw_or (pt_not (pt_val (pe_callB (Gx.c_isiK (K := K) rfl) rfl T.n_isinstance (by decide +kernel) (pa_cons (pv 0) (pa_cons (pe_bltn (v := .ty "list") rfl T.n_list (by decide +kernel) rfl) pa_nil))))) (pw_or1 (pt_cmpR op_ne (pe_callB (Gx.c_lenK (K := K) rfl) rfl T.n_len (by decide +kernel) (pa_cons (pv 0) pa_nil)) (pe_glob (v := .int 32) rfl T.c_BLOCK ⟨_, rfl⟩) (nomark _))))) (pss_one (ps_raise rfl (takes_of rfl rfl rfl rfl) (pmk_oex T.x_OutOfRange.o T.x_OutOfRange.i T.x_OutOfRange.t (ok_OutOfRange___init__ T) (hr.mono (by decide)) T.x_OutOfRange.b .nil pass0 rfl T.x_OutOfRange.g (pa_cons (pe_str) pa_nil)))) (pss_nil))
      (pss_one (ps_for (passes_of rfl) rfl (pi_list (pv 0)) (pg_name (i := 1) sc_check_block.nd rfl (Or.inl rfl))
      (pss_one (ps_if (PW.pt (pw_or (pt_not (pt_val (pe_callB (Gx.c_isiK (K := K) rfl) rfl T.n_isinstance (by decide +kernel) (pa_cons (pv 1) (pa_cons (pe_bltn (v := .ty "int") rfl T.n_int (by decide +kernel) rfl) pa_nil))))) (pw_or (pt_cmpR op_lt (pv 1) (pe_int) (nomark _)) (pw_or1 (pt_cmpR op_gt (pv 1) (pe_int) (nomark _)))))) (pss_one (ps_raise rfl (takes_of rfl rfl rfl rfl) (pmk_oex T.x_OutOfRange.o T.x_OutOfRange.i T.x_OutOfRange.t (ok_OutOfRange___init__ T) (hr.mono (by decide)) T.x_OutOfRange.b .nil pass0 rfl T.x_OutOfRange.g (pa_cons (pe_str) pa_nil)))) (pss_nil))))), ?_⟩)
  · obtain ⟨a, b, rfl, _⟩ := h
    rfl
  · skip
    obtain ⟨a, b, rfl, ha, q, qe⟩ := h
    walk_at "run"
    refine Mv.isiLst ha ?_
    walk_at "run"
    refine Gx.lenL (SqL.of ha) ?_
    rw [List.length_map]
    walk_at "run"
    refine Gx.if_dn (fun e => ?_) (fun e => ?_)
    · walk_at "run"
      exact Sx.mkO (by decide) (qe (fun z => e (by rw [z.1]; rfl))).now fun R h => by walk_at "run"; exact h
    have hl : b.length = 32 := by omega
    walk_at "run"
    refine Gx.lp (SqL.of ha) ?_
    refine Gx.fw (walk_list (xs := b.map V.int)) (fun i σ' H' => H' = H ∧ (∀ j, j < i → 0 ≤ b.getD j 0 ∧ b.getD j 0 ≤ 255) ∧ ∃ v : Option V, σ' = [some (.ref a), v]) ⟨rfl, fun _ h => absurd h (Nat.not_lt_zero _), none, rfl⟩ (fun i σ' H' _ hh => by rw [hh.1]; exact SqL.of ha) ?_ ?_
    · rintro i y σ' H2 H2' hi ⟨rfl, hj, v, rfl⟩ ⟨rfl, hy⟩
      rw [List.length_map] at hi
      rw [List.getElem?_map, List.getElem?_eq_getElem hi] at hy
      have hy := Option.some.inj hy
      subst hy
      have eg : b.getD i 0 = b[i] := by rw [List.getD_eq_getElem?_getD, List.getElem?_eq_getElem hi]; rfl
      walk_at "run"
      refine Gx.isiI ?_ rfl
      walk_at "lit"
      refine Gx.if_d (fun e => ?_) (fun e => ?_)
      · walk_at "run"
        exact Sx.mkO (by decide) (qe fun z => by have := z.2 _ (List.getElem_mem hi); omega).now fun R h => by walk_at "run"; exact h
      walk_at "run"
      refine Gx.if_d (fun e' => ?_) (fun e' => ?_)
      · walk_at "run"
        exact Sx.mkO (by decide) (qe fun z => by have := z.2 _ (List.getElem_mem hi); omega).now fun R h => by walk_at "run"; exact h
      walk_at "run"
      refine ⟨rfl, fun j hj' => ?_, _, rfl⟩
      rcases Nat.lt_or_ge j i with c | c
      · exact hj j c
      · obtain rfl : j = i := by omega
        rw [eg]; omega
    rintro σ' H2 ⟨rfl, hj, v, rfl⟩
    refine q ⟨hl, fun z hz => ?_⟩
    obtain ⟨i, hi, rfl⟩ := List.getElem_of_mem hz
    have := hj i (by rw [List.length_map]; exact hi)
    rw [List.getD_eq_getElem?_getD, List.getElem?_eq_getElem hi] at this
    exact this

theorem cs_check_block {CE a : Addr} {b : List Int} {H : Hp} {Q : VK} {E : XK} (h : H a = some (.lst (b.map V.int))) (q : Dk.BOk b → Q .non H) (qe : ¬ Dk.BOk b → Sx.Err CE H "block" E) : Sx.CS (sp_check_block CE) [.ref a] H Q E := ⟨a, b, rfl, h, q, qe⟩

def sp_Disk_write (K : PySem.W.Frag) (CE CP C : Addr) : Sp := fun vs H Q E => ∃ (R : Hp) (x bp : Addr) (rest : List (Addr × HO)) (s : Dk.St) (n m : Nat) (z : Int) (b : List Int), vs = [.ref x, .int z, .ref bp] ∧ Dsk C R H x rest s ∧ Dk.Wf n m s ∧ m ≤ 1000 ∧ s.cu ≤ 1000000 ∧ Dk.In R rest bp (.lst (b.map V.int)) ∧
  (¬ (0 ≤ z ∧ z < n) → Sx.Err CE H "at" E) ∧ ((0 ≤ z ∧ z < n) → (¬ Dk.BOk b → Sx.Err CE H "block" E) ∧ (Dk.BOk b → (s.lf ≠ some 0 → ∀ R' H', Same R R' → Dsk C R' H' x rest (s.use.write z.toNat b) → Q .non H') ∧ (s.lf = some 0 → ∀ R' H', Same R R' → Dsk C R' H' x rest (s.cut s.tn) → Sx.ErrB CP H' E)))

theorem sc_Disk_write : FnScope ["self", "at", "block"] ["self", "at", "block"] (defScope s_Disk_write) := ⟨rfl, rfl, rfl, by decide +kernel, rfl, by decide +kernel, by decide +kernel⟩
theorem ok_Disk_write (T : Tx P K mg) : FnOk P w K mg base (L2.CX P w) 5 T.Disk_write.a T.Disk_write.d ["self", "at", "block"] (sp_Disk_write K T.x_OutOfRange.C T.y_PowerCut.C T.a_Disk) := by
  refine T.Disk_write.f.okX sc_Disk_write (fun vs H Q E h => ?_) (fun cdv A outer s H vs Q E hr h => ⟨_, pss_cons (ps_expr (Sx.pe_methS (pv 0) T.cl_Disk T.Disk__check_at.m (ok_Disk__check_at T) (hr.mono (by decide)) T.Disk__check_at.b (fun σ => passAt (takes_of rfl rfl rfl rfl) σ) (pa_cons (pv 1) pa_nil)))
      (pss_cons (ps_expr (pe_callS (ok_check_block T) (hr.mono (by decide)) rfl T.check_block.g T.check_block.f.kp T.check_block.b (fun σ => passAt (takes_of rfl rfl rfl rfl) σ) (pa_cons (pv 2) pa_nil)))
      (pss_cons (ps_expr (Sx.pe_methS0 (pv 0) T.cl_Disk T.Disk__use_power.m (ok_Disk__use_power T) (hr.mono (by decide)) T.Disk__use_power.b (fun σ => passAt (takes_of rfl rfl rfl rfl) σ)))
      (pss_one (ps_expr (pe_bm PySem.F.plainAttrs_list PySem.F.slot_list_append PySem.F.type_list_append mt_append (pe_fld (pv 0) rfl) (pa_cons (pe_tup (pa_cons (pv 1) (pa_cons (pe_callTy (Gx.c_listK (K := K) rfl) rfl T.n_list (by decide +kernel) (pa_cons (pv 2) pa_nil)) pa_nil))) pa_nil)))))), ?_⟩)
  · obtain ⟨R, x, bp, rest, s, n, m, z, b, rfl, _⟩ := h
    rfl
  · skip
    obtain ⟨R, x, bp, rest, s, n, m, z, b, rfl, ds, w, hm, hcu, hi, qa, q⟩ := h
    have ds0 := ds
    obtain ⟨dx, pb, pp, pt, vb, vp, hv, hb, hp, ht⟩ := ds
    have hx := hv.g0
    walk_at "run"
    refine Sx.mts hx no_Disk__check_at ?_
    walk_at "run"
    refine cs_Disk__check_at ds0 w (fun e1 e2 => ?_) qa
    obtain ⟨qb, q⟩ := q ⟨e1, e2⟩
    walk_at "run"
    refine cs_check_block (ds0.got hi) (fun bok => ?_) qb
    obtain ⟨q, qe⟩ := q bok
    walk_at "run"
    refine Sx.mts hx no_Disk__use_power ?_
    walk_at "run"
    refine cs_Disk__use_power ds0 w hm hcu (fun nz H1 ds1 => ?_) qe
    have q := q nz
    have w1 := w.use
    have hbp := ds1.got hi
    clear hx hv hb hp ht ds0 qe qb qa
    obtain ⟨dx, pb, pp, pt, vb, vp, hv, hb, hp, ht⟩ := ds1
    have hx := hv.g0
    have hpp := hv.g2
    have hpl : vp.length = s.use.pe.length := hp.1
    have hpm := w1.pn
    obtain ⟨z, rfl⟩ : ∃ m : Nat, z = m := ⟨z.toNat, by omega⟩
    rw [Int.toNat_natCast] at q
    walk_at "run"
    refine Gx.bmS (Gx.tyL (SqL.of hpp)) ?_
    walk_at "run"
    refine Nx.listL0 (SqL.of hbp) fun p5 H5 n5 s5 h5 => ?_
    walk_at "run"
    refine Nx.tup0 (by show 2 ≤ sizeLine; decide) fun p6 H6 n6 s6 h6 => ?_
    have s56 := s5.trans s6
    obtain ⟨R6, hv6, sR6, gR6⟩ := hv.grow s56
    have hpp6 := hv6.g2
    walk_at "run"
    refine Gx.app hpp6 (by rw [sizeLine_eq]; omega) ?_
    exact q R6 _ sR6 ⟨dx, pb, pp, pt, vb, vp ++ [.ref p6], hv6.p2, hb.keep sR6, (hp.keep sR6).snoc (e := (z, b)) (gR6 _ _ (s5.free n6) h6) (gR6 _ _ n5 (s6 _ _ h5)), sR6 _ _ ht⟩

theorem cs_Disk_write {K : PySem.W.Frag} {CE CP C x bp : Addr} {R H : Hp} {rest : List (Addr × HO)} {s : Dk.St} {n m : Nat} {z : Int} {b : List Int} {Q : VK} {E : XK} (ds : Dsk C R H x rest s) (w : Dk.Wf n m s) (hm : m ≤ 1000) (hc : s.cu ≤ 1000000) (hi : Dk.In R rest bp (.lst (b.map V.int)))
  (qa : ¬ (0 ≤ z ∧ z < n) → Sx.Err CE H "at" E) (qb : (0 ≤ z ∧ z < n) → ¬ Dk.BOk b → Sx.Err CE H "block" E) (q : (0 ≤ z ∧ z < n) → Dk.BOk b → s.lf ≠ some 0 → ∀ R' H', Same R R' → Dsk C R' H' x rest (s.use.write z.toNat b) → Q .non H') (qe : (0 ≤ z ∧ z < n) → Dk.BOk b → s.lf = some 0 → ∀ R' H', Same R R' → Dsk C R' H' x rest (s.cut s.tn) → Sx.ErrB CP H' E) : Sx.CS (sp_Disk_write K CE CP C) [.ref x, .int z, .ref bp] H Q E := ⟨R, x, bp, rest, s, n, m, z, b, rfl, ds, w, hm, hc, hi, qa, fun e => ⟨qb e, fun f => ⟨q e f, qe e f⟩⟩⟩

def sp_law_call_raw (K : PySem.W.Frag) (CE C : Addr) : Sp := fun vs H Q E => ∃ (R : Hp) (x : Addr) (rest : List (Addr × HO)) (s : Dk.St) (n m : Nat) (wh : Int) (one two : V), vs = [.ref x, .int wh, one, two] ∧ Dsk C R H x rest s ∧ Dk.Wf n m s ∧ m ≤ 1000 ∧ s.cu ≤ 1000000 ∧ s.lf = none ∧ ((∃ (z : Int) (bp : Addr) (b : List Int), wh = 0 ∧ one = .int z ∧ two = .ref bp ∧ Dk.In R rest bp (.lst (b.map V.int)) ∧ (¬ (0 ≤ z ∧ z < n) → Sx.Err CE H "at" E) ∧ ((0 ≤ z ∧ z < n) → (¬ Dk.BOk b → Sx.Err CE H "block" E) ∧ (Dk.BOk b → ∀ R' H', Same R R' → Dsk C R' H' x rest (s.write z.toNat b) → Q .non H'))) ∨
  (∃ (tp : Addr) (t : List Int), wh = 1 ∧ one = .ref tp ∧ R tp = some (.lst (t.map V.int)) ∧ t.length ≤ 100001 ∧ (¬ Dk.TOk t → Sx.Err CE H "torn" E) ∧ (Dk.TOk t → ∀ R' H', Same R R' → Dsk C R' H' x rest (s.cut t) → Q .non H')) ∨
  (∃ (z : Int), wh = 2 ∧ one = .int z ∧ ¬ (0 ≤ z ∧ z < n) ∧ Sx.Err CE H "at" E))

theorem sc_law_call_raw : FnScope ["disk", "which", "one", "two"] ["disk", "which", "one", "two"] (defScope s_law_call_raw) := ⟨rfl, rfl, rfl, by decide +kernel, rfl, by decide +kernel, by decide +kernel⟩
theorem ok_law_call_raw (T : Tx P K mg) : FnOk P w K mg base (L2.CX P w) 6 T.law_call_raw.a T.law_call_raw.d ["disk", "which", "one", "two"] (sp_law_call_raw K T.x_OutOfRange.C T.a_Disk) := by
  refine T.law_call_raw.f.okX sc_law_call_raw (fun vs H Q E h => ?_) (fun cdv A outer s H vs Q E hr h => ⟨_, pss_cons (ps_if (pt_cmpR op_eq (pv 1) (pe_int) (nomark _)) (pss_one (ps_ret (Sx.pe_methS (pv 0) T.cl_Disk T.Disk_write.m (ok_Disk_write T) (hr.mono (by decide)) T.Disk_write.b (fun σ => passAt (takes_of rfl rfl rfl rfl) σ) (pa_cons (pv 2) (pa_cons (pv 3) pa_nil))))) (pss_nil))
      (pss_cons (ps_if (pt_cmpR op_eq (pv 1) (pe_int) (nomark _)) (pss_one (ps_ret (Sx.pe_methS (pv 0) T.cl_Disk T.Disk_cut_power.m (ok_Disk_cut_power T) (hr.mono (by decide)) T.Disk_cut_power.b (fun σ => passAt (takes_of rfl rfl rfl rfl) σ) (pa_cons (pv 2) pa_nil)))) (pss_nil))
      (pss_one (ps_ret (Sx.pe_methS (pv 0) T.cl_Disk T.Disk_read.m (ok_Disk_read T) (hr.mono (by decide)) T.Disk_read.b (fun σ => passAt (takes_of rfl rfl rfl rfl) σ) (pa_cons (pv 2) pa_nil))))), ?_⟩)
  · obtain ⟨R, x, rest, s, n, m, wh, one, two, rfl, _⟩ := h
    rfl
  · skip
    obtain ⟨R, x, rest, s, n, m, wh, one, two, rfl, ds, w, hm, hcu, hl, q⟩ := h
    obtain ⟨_, _, _, _, hx⟩ := ds.ins
    have nl : s.lf ≠ some 0 := by rw [hl]; exact fun z => nomatch z
    have hu : s.use = s := by
      unfold Dk.St.use
      rw [hl]
      show (⟨s.bl, s.pe, s.cu, none, s.tn⟩ : Dk.St) = s
      rw [← hl]
    rcases q with ⟨z, bp, b, rfl, rfl, rfl, hi, qa, q⟩ | ⟨tp, t, rfl, rfl, ht, htl, qe, q⟩ | ⟨z, rfl, rfl, hz, qe⟩
    · walk_at "run"
      refine Gx.if_y (decide_eq_true rfl) ?_
      walk_at "run"
      refine Sx.mts hx no_Disk_write ?_
      walk_at "run"
      exact cs_Disk_write ds w hm hcu hi qa (fun h => (q h).1) (fun h g _ R' H' sR ds' => (q h).2 g R' H' sR (by rw [hu] at ds'; exact ds')) (fun _ _ e => absurd e nl)
    · walk_at "run"
      refine Gx.if_n (decide_eq_false (by decide)) ?_
      walk_at "run"
      refine Gx.if_y (decide_eq_true rfl) ?_
      walk_at "run"
      refine Sx.mts hx no_Disk_cut_power ?_
      walk_at "run"
      exact cs_Disk_cut_power ds w hm hcu ht htl qe q
    · walk_at "run"
      refine Gx.if_n (decide_eq_false (by decide)) ?_
      walk_at "run"
      refine Gx.if_n (decide_eq_false (by decide)) ?_
      walk_at "run"
      refine Sx.mts hx no_Disk_read ?_
      walk_at "run"
      exact cs_Disk_read ds w hm (fun h1 h2 => absurd ⟨h1, h2⟩ hz) (fun _ => qe)

theorem cs_law_call_raw {K : PySem.W.Frag} {CE C : Addr} {x : Addr} {R H : Hp} {rest : List (Addr × HO)} {s : Dk.St} {n m : Nat} {wh : Int} {one two : V} {Q : VK} {E : XK} (ds : Dsk C R H x rest s) (w : Dk.Wf n m s) (hm : m ≤ 1000) (hc : s.cu ≤ 1000000) (hl : s.lf = none) (q : ((∃ (z : Int) (bp : Addr) (b : List Int), wh = 0 ∧ one = .int z ∧ two = .ref bp ∧ Dk.In R rest bp (.lst (b.map V.int)) ∧ (¬ (0 ≤ z ∧ z < n) → Sx.Err CE H "at" E) ∧ ((0 ≤ z ∧ z < n) → (¬ Dk.BOk b → Sx.Err CE H "block" E) ∧ (Dk.BOk b → ∀ R' H', Same R R' → Dsk C R' H' x rest (s.write z.toNat b) → Q .non H'))) ∨
  (∃ (tp : Addr) (t : List Int), wh = 1 ∧ one = .ref tp ∧ R tp = some (.lst (t.map V.int)) ∧ t.length ≤ 100001 ∧ (¬ Dk.TOk t → Sx.Err CE H "torn" E) ∧ (Dk.TOk t → ∀ R' H', Same R R' → Dsk C R' H' x rest (s.cut t) → Q .non H')) ∨
  (∃ (z : Int), wh = 2 ∧ one = .int z ∧ ¬ (0 ≤ z ∧ z < n) ∧ Sx.Err CE H "at" E))) : Sx.CS (sp_law_call_raw K CE C) [.ref x, .int wh, one, two] H Q E := ⟨R, x, rest, s, n, m, wh, one, two, rfl, ds, w, hm, hc, hl, q⟩

def sp_law_call (K : PySem.W.Frag) (C : Addr) : Sp := fun vs H Q _ => ∃ (R : Hp) (x : Addr) (rest : List (Addr × HO)) (s : Dk.St) (n m : Nat) (wh : Int) (one two : V), vs = [.ref x, .int wh, one, two] ∧ Dsk C R H x rest s ∧ Dk.Wf n m s ∧ m ≤ 1000 ∧ s.cu ≤ 1000000 ∧ s.lf = none ∧ ((∃ (z : Int) (bp : Addr) (b : List Int), wh = 0 ∧ one = .int z ∧ two = .ref bp ∧ Dk.In R rest bp (.lst (b.map V.int)) ∧ (¬ (0 ≤ z ∧ z < n) → (∀ R' H', Same R R' → Dsk C R' H' x rest s → Q (.str "at") H')) ∧ ((0 ≤ z ∧ z < n) → (¬ Dk.BOk b → (∀ R' H', Same R R' → Dsk C R' H' x rest s → Q (.str "block") H')) ∧ (Dk.BOk b → ∀ R' H', Same R R' → Dsk C R' H' x rest (s.write z.toNat b) → Q .non H'))) ∨
  (∃ (tp : Addr) (t : List Int), wh = 1 ∧ one = .ref tp ∧ R tp = some (.lst (t.map V.int)) ∧ t.length ≤ 100001 ∧ (¬ Dk.TOk t → (∀ R' H', Same R R' → Dsk C R' H' x rest s → Q (.str "torn") H')) ∧ (Dk.TOk t → ∀ R' H', Same R R' → Dsk C R' H' x rest (s.cut t) → Q .non H')) ∨
  (∃ (z : Int), wh = 2 ∧ one = .int z ∧ ¬ (0 ≤ z ∧ z < n) ∧ (∀ R' H', Same R R' → Dsk C R' H' x rest s → Q (.str "at") H')))

theorem sc_law_call : FnScope ["disk", "which", "one", "two", "told", "e"] ["disk", "which", "one", "two"] (defScope s_law_call) := ⟨rfl, rfl, rfl, by decide +kernel, rfl, by decide +kernel, by decide +kernel⟩
theorem ok_law_call (T : Tx P K mg) : FnOk P w K mg base CX0 7 T.law_call.a T.law_call.d ["disk", "which", "one", "two"] (sp_law_call K T.a_Disk) := by
  refine T.law_call.f.ok sc_law_call (fun vs H Q E h => ?_) (fun cdv A outer s H vs Q E hr h => ⟨_, pss_cons (Tm.ps_try rfl rfl sc_law_call.nd takes0 (fun W pn xe tk po => pss_one (ps_set (i := 4) sc_law_call.nd rfl (Or.inl rfl) (pe_callS (ok_law_call_raw T) (hr.mono (by decide)) rfl T.law_call_raw.g T.law_call_raw.f.kp T.law_call_raw.b (fun σ => passAt tk σ) (pa_cons (pv 0) (pa_cons (pv 1) (pa_cons (pv 2) (pa_cons (pv 3) pa_nil)))))))
      (Tm.Hd.named (i := 5) rfl rfl ⟨rfl, by decide, .inl T.x_OutOfRange.g⟩ (fun a oe cls d pn hz hf => pss_one (ps_ret (by exact pe_xf T.x_OutOfRange.xf T.nf_OutOfRange_name hz hf (pv 5) rfl)))
      (Tm.Hd.only ⟨rfl, by decide, .inl T.y_PictureError.g⟩ (fun a oe cls d pn hz hf => pss_one (ps_ret (pe_str))) Tm.Hd.nil)))
      (pss_cons (ps_if (pt_val (pe_callB (Gx.c_isiK (K := K) rfl) rfl T.n_isinstance (by decide +kernel) (pa_cons (pv 4) (pa_cons (pe_bltn (v := .ty "str") rfl T.n_str (by decide +kernel) rfl) pa_nil)))) (pss_one (ps_ret (pe_str))) (pss_nil))
      (pss_one (ps_ret (pv 4)))), ?_⟩)
  · obtain ⟨R, x, rest, s, n, m, wh, one, two, rfl, _⟩ := h
    rfl
  · skip
    obtain ⟨R, x, rest, s, n, m, wh, one, two, rfl, ds, w, hm, hcu, hl, q⟩ := h
    walk_at "run"
    rcases q with ⟨z, bp, b, rfl, rfl, rfl, hi, qa, q⟩ | ⟨tp, t, rfl, rfl, ht, htl, qe, q⟩ | ⟨z, rfl, rfl, hz, qe⟩
    · refine cs_law_call_raw ds w hm hcu hl (.inl ⟨z, bp, b, rfl, rfl, rfl, hi, fun f H1 dd s1 hd1 => ?_, fun f => ⟨fun g H1 dd s1 hd1 => ?_, fun g R' H' sR ds' => ?_⟩⟩)
      · refine Sx.took T.x_OutOfRange.te fun a ha => ?_
        have hX : upd H1 dd (.xd [("name", .str "at")]) dd = some (.xd [("name", .str "at")]) := upd_same
        have s2 := Gx.same_new (o := .xd [("name", .str "at")]) hd1
        generalize upd H1 dd (.xd [("name", .str "at")]) = H2 at hX s2 ⊢
        walk_at "run"
        refine Sx.xfp hX ?_
        walk_at "run"
        obtain ⟨R2, ds2, sR2, _⟩ := ds.grow (s1.trans s2)
        exact qa f R2 H2 sR2 ds2
      · refine Sx.took T.x_OutOfRange.te fun a ha => ?_
        have hX : upd H1 dd (.xd [("name", .str "block")]) dd = some (.xd [("name", .str "block")]) := upd_same
        have s2 := Gx.same_new (o := .xd [("name", .str "block")]) hd1
        generalize upd H1 dd (.xd [("name", .str "block")]) = H2 at hX s2 ⊢
        walk_at "run"
        refine Sx.xfp hX ?_
        walk_at "run"
        obtain ⟨R2, ds2, sR2, _⟩ := ds.grow (s1.trans s2)
        exact (q f).1 g R2 H2 sR2 ds2
      · walk_at "run"
        refine Gx.isiN ?_ (by decide +kernel : kitB "NoneType" "str" = some false)
        walk_at "lit"
        exact (q f).2 g R' H' sR ds'
    · refine cs_law_call_raw ds w hm hcu hl (.inr (.inl ⟨tp, t, rfl, rfl, ht, htl, fun g H1 dd s1 hd1 => ?_, fun g R' H' sR ds' => ?_⟩))
      · refine Sx.took T.x_OutOfRange.te fun a ha => ?_
        have hX : upd H1 dd (.xd [("name", .str "torn")]) dd = some (.xd [("name", .str "torn")]) := upd_same
        have s2 := Gx.same_new (o := .xd [("name", .str "torn")]) hd1
        generalize upd H1 dd (.xd [("name", .str "torn")]) = H2 at hX s2 ⊢
        walk_at "run"
        refine Sx.xfp hX ?_
        walk_at "run"
        obtain ⟨R2, ds2, sR2, _⟩ := ds.grow (s1.trans s2)
        exact qe g R2 H2 sR2 ds2
      · walk_at "run"
        refine Gx.isiN ?_ (by decide +kernel : kitB "NoneType" "str" = some false)
        walk_at "lit"
        exact q g R' H' sR ds'
    · refine cs_law_call_raw ds w hm hcu hl (.inr (.inr ⟨z, rfl, rfl, hz, fun H1 dd s1 hd1 => ?_⟩))
      · refine Sx.took T.x_OutOfRange.te fun a ha => ?_
        have hX : upd H1 dd (.xd [("name", .str "at")]) dd = some (.xd [("name", .str "at")]) := upd_same
        have s2 := Gx.same_new (o := .xd [("name", .str "at")]) hd1
        generalize upd H1 dd (.xd [("name", .str "at")]) = H2 at hX s2 ⊢
        walk_at "run"
        refine Sx.xfp hX ?_
        walk_at "run"
        obtain ⟨R2, ds2, sR2, _⟩ := ds.grow (s1.trans s2)
        exact qe R2 H2 sR2 ds2

theorem cp_law_call {K : PySem.W.Frag} {C : Addr} {x : Addr} {R H : Hp} {rest : List (Addr × HO)} {s : Dk.St} {n m : Nat} {wh : Int} {one two : V} {Q : VK} {E : XK} (ds : Dsk C R H x rest s) (w : Dk.Wf n m s) (hm : m ≤ 1000) (hc : s.cu ≤ 1000000) (hl : s.lf = none) (q : ((∃ (z : Int) (bp : Addr) (b : List Int), wh = 0 ∧ one = .int z ∧ two = .ref bp ∧ Dk.In R rest bp (.lst (b.map V.int)) ∧ (¬ (0 ≤ z ∧ z < n) → (∀ R' H', Same R R' → Dsk C R' H' x rest s → Q (.str "at") H')) ∧ ((0 ≤ z ∧ z < n) → (¬ Dk.BOk b → (∀ R' H', Same R R' → Dsk C R' H' x rest s → Q (.str "block") H')) ∧ (Dk.BOk b → ∀ R' H', Same R R' → Dsk C R' H' x rest (s.write z.toNat b) → Q .non H'))) ∨
  (∃ (tp : Addr) (t : List Int), wh = 1 ∧ one = .ref tp ∧ R tp = some (.lst (t.map V.int)) ∧ t.length ≤ 100001 ∧ (¬ Dk.TOk t → (∀ R' H', Same R R' → Dsk C R' H' x rest s → Q (.str "torn") H')) ∧ (Dk.TOk t → ∀ R' H', Same R R' → Dsk C R' H' x rest (s.cut t) → Q .non H')) ∨
  (∃ (z : Int), wh = 2 ∧ one = .int z ∧ ¬ (0 ≤ z ∧ z < n) ∧ (∀ R' H', Same R R' → Dsk C R' H' x rest s → Q (.str "at") H')))) : Gx.CP (sp_law_call K C) [.ref x, .int wh, one, two] [] H Q E := ⟨R, x, rest, s, n, m, wh, one, two, rfl, ds, w, hm, hc, hl, q⟩

def sp_law_block : Sp := fun vs H Q _ => ∃ (R : Hp) (l1 l2 : List (Addr × HO)) (b p : Addr) (k : Nat) (xs : List Int), vs = [.ref b] ∧ Mv.Hv R H (l1 ++ (b, .lst [.ref p, .int (k : Int)]) :: l2) ∧ R p = some (.lst (xs.map V.int)) ∧
  ∀ (q : Addr) (k' : Nat) (t : List Int) (R' H' : Hp), Same R R' → Mv.Hv R' H' (l1 ++ (b, .lst [.ref p, .int (k' : Int)]) :: l2) → R' q = some (.lst (t.map V.int)) → Dk.BOk t → Q (.ref q) H'

theorem sc_law_block : FnScope ["box", "kind", "k"] ["box"] (defScope s_law_block) := ⟨rfl, rfl, rfl, by decide +kernel, rfl, by decide +kernel, by decide +kernel⟩
theorem ok_law_block (T : Tx P K mg) : FnOk P w K mg base CX0 2 T.law_block.a T.law_block.d ["box"] (sp_law_block) := by
  refine T.law_block.f.ok sc_law_block (fun vs H Q E h => ?_) (fun cdv A outer s H vs Q E hr h => ⟨_, pss_cons (ps_set (i := 1) sc_law_block.nd rfl (Or.inl rfl) (pe_call (ok_law_draw T) (hr.mono (by decide)) rfl T.law_draw.g T.law_draw.f.kp T.law_draw.b .nil pass0 (pa_cons (pv 0) (pa_cons (pe_int) pa_nil))))
      (pss_cons (ps_if (pt_cmpR op_eq (pv 1) (pe_int) (nomark _)) (pss_one (ps_ret (pe_op Gx.o_rep (pe_lst (pa_cons (pe_int) pa_nil)) (pe_int)))) (pss_nil))
      (pss_cons (ps_if (pt_cmpR op_eq (pv 1) (pe_int) (nomark _)) (pss_one (ps_ret (pe_lc (own := [("k", 2)]) (g := (gName 2)) (tt := tYes) rfl sc_law_block.nd (pi_range1 rfl T.n_range (pa_cons (pe_int) pa_nil)) (blkOk_by (own := [("k", 2)]) (N := ["box", "kind", "k"]) (sc := defScope s_law_block) (by decide +kernel)) (fun _ _ _ _ _ => (pg_name (i := 2) sc_law_block.nd rfl (Or.inl rfl))) (fun _ _ _ _ _ => pts_nil) (fun _ _ _ _ _ => pe_op op_sub (pe_int) (pv 2))))) (pss_nil))
      (pss_one (ps_ret (pe_lc (own := [("k", 2)]) (g := (gName 2)) (tt := tYes) rfl sc_law_block.nd (pi_range1 rfl T.n_range (pa_cons (pe_int) pa_nil)) (blkOk_by (own := [("k", 2)]) (N := ["box", "kind", "k"]) (sc := defScope s_law_block) (by decide +kernel)) (fun _ _ _ _ _ => (pg_name (i := 2) sc_law_block.nd rfl (Or.inl rfl))) (fun _ _ _ _ _ => pts_nil) (fun _ _ _ _ _ => pe_call (ok_law_draw T) (hr.mono (by decide)) rfl T.law_draw.g T.law_draw.f.kp T.law_draw.b .nil pass0 (pa_cons (pv 0) (pa_cons (pe_int) pa_nil)))))))), ?_⟩)
  · obtain ⟨R, l1, l2, b, p, k, xs, rfl, _⟩ := h
    rfl
  · skip
    obtain ⟨R, l1, l2, b, p, k, xs, rfl, hv, hp, q⟩ := h
    walk_at "run"
    refine drV hv hp (by decide) fun kd k1 H1 hkd hv => ?_
    walk_at "run"
    refine Gx.if_d (fun e => ?_) (fun e => ?_)
    · walk_at "run"
      refine Nx.lst0 (by show 1 ≤ sizeLine; decide) fun p2 H2 n2 s2 h2 => ?_
      walk_at "run"
      refine Nx.repN0 (n := 32) h2 (by decide) fun p3 H3 n3 s3 h3 => ?_
      obtain ⟨R2, hv2, sR2, gR2⟩ := hv.grow (s2.trans s3)
      exact q p3 k1 Dk.zs R2 H3 sR2 hv2 (gR2 _ _ (s2.free n3) (by rw [h3]; unfold Dk.zs; rw [List.map_replicate])) Dk.zs_ok
    walk_at "run"
    refine Gx.if_d (fun e => ?_) (fun e => ?_)
    · walk_at "run"
      refine Gx.r1 (by omega) (by omega) ?_
      refine Gx.lcMap walk_range (by decide) (fun j => .int (255 - (j : Int))) (fun _ _ => trivial) Gx.sameFn ?_ ?_
      · rintro j y H9 H9' Rr R0 hj s9 ⟨rfl, hy⟩ hr
        have hy2 : y = .int (j : Int) := hy.trans (congrArg V.int (by omega))
        subst hy2
        have hr := hr H9' (Same.refl _)
        walk_at "run"
        exact hr
      intro p3 H3 n3 s3 h3
      obtain ⟨R2, hv2, sR2, gR2⟩ := hv.grow s3
      refine q p3 k1 ((List.range 32).map fun j : Nat => 255 - (j : Int)) R2 H3 sR2 hv2 (gR2 _ _ n3 (by rw [h3, List.map_map]; rfl)) ⟨by simp, fun z hz => ?_⟩
      obtain ⟨j, hj, rfl⟩ := List.mem_map.mp hz
      have := List.mem_range.mp hj
      omega
    · walk_at "run"
      refine Gx.r1 (by omega) (by omega) ?_
      refine Nx.lcO walk_range (fun i zs Rr => ∃ (k' : Nat) (t : List Int), Mv.Hv R Rr (l1 ++ (b, .lst [.ref p, .int (k' : Int)]) :: l2) ∧ zs = t.map V.int ∧ (∀ z ∈ t, 0 ≤ z ∧ z ≤ 255) ∧ t.length = i) (by decide) ⟨k1, [], hv, rfl, (fun z h => nomatch h), rfl⟩ (fun _ _ _ _ _ _ => trivial) ?_ ?_
      · rintro i y zs Rr D' H3 H3' Ry Rn hi ⟨k2, t, hv2, rfl, ht, htl⟩ O ⟨rfl, hy⟩ hr _
        have hvD := Mv.Hv.ofOwn O hv2
        walk_at "run"
        refine drV (l1 := (D', _) :: l1) hvD hp (by decide) fun r k3 H4 hr1 hv4 => ?_
        obtain ⟨R4, O4, hv4'⟩ := Mv.Hv.toOwn hv4
        walk_at "run"
        exact hr _ R4 H4 O4 ⟨k3, t ++ [(r : Int)], hv4', by rw [List.map_append]; rfl, (fun z hz => by
          rcases List.mem_append.mp hz with h | h
          · exact ht z h
          · rw [List.mem_singleton.mp h]; omega), by rw [List.length_append, htl]; rfl⟩
      rintro D' zs Rr H3 ⟨k2, t, hv2, rfl, ht, htl⟩ O
      obtain ⟨R3, hv3, sR3, hD⟩ := Mv.Hv.down O hv2
      exact q D' k2 t R3 H3 sR3 hv3 hD ⟨htl, ht⟩

theorem cpD_law_block {C x : Addr} {R H : Hp} {l1 l2 : List (Addr × HO)} {s : Dk.St} {b p : Addr} {k : Nat} {xs : List Int} {Q : VK} {E : XK} (ds : Dsk C R H x (l1 ++ (b, .lst [.ref p, .int (k : Int)]) :: l2) s) (hp : R p = some (.lst (xs.map V.int))) (q : ∀ (q : Addr) (k' : Nat) (t : List Int) (R' H' : Hp), Same R R' → Dsk C R' H' x (l1 ++ (b, .lst [.ref p, .int (k' : Int)]) :: l2) s → R' q = some (.lst (t.map V.int)) → Dk.BOk t → Q (.ref q) H') : Gx.CP sp_law_block [.ref b] [] H Q E := by
  obtain ⟨dx, pb, pp, pt, vb, vp, hv, hb, h2, h3⟩ := ds
  exact ⟨R, _ :: _ :: _ :: l1, l2, b, p, k, xs, rfl, hv, hp, fun q' k' t R' H' sR hv' ht tk => q q' k' t R' H' sR ⟨dx, pb, pp, pt, vb, vp, hv', hb.keep sR, h2.keep sR, sR _ _ h3⟩ ht tk⟩

def sp_law_wrong (K : PySem.W.Frag) (C : Addr) : Sp := fun vs H Q _ => ∃ (R : Hp) (x : Addr) (l1 l2 : List (Addr × HO)) (s : Dk.St) (n m : Nat) (b p : Addr) (k : Nat) (xs : List Int), vs = [.ref b, .ref x, .int (n : Int)] ∧ Dsk C R H x (l1 ++ (b, .lst [.ref p, .int (k : Int)]) :: l2) s ∧ Dk.Wf n m s ∧ m ≤ 1000 ∧ s.cu ≤ 1000000 ∧ s.lf = none ∧ R p = some (.lst (xs.map V.int)) ∧ ∀ (k' : Nat) R' H', Same R R' → Dsk C R' H' x (l1 ++ (b, .lst [.ref p, .int (k' : Int)]) :: l2) s → Q (.bl true) H'

theorem sc_law_wrong : FnScope ["box", "disk", "size", "bad"] ["box", "disk", "size"] (defScope s_law_wrong) := ⟨rfl, rfl, rfl, by decide +kernel, rfl, by decide +kernel, by decide +kernel⟩
theorem ok_law_wrong (T : Tx P K mg) : FnOk P w K mg base CX0 8 T.law_wrong.a T.law_wrong.d ["box", "disk", "size"] (sp_law_wrong K T.a_Disk) := by
  refine T.law_wrong.f.ok sc_law_wrong (fun vs H Q E h => ?_) (fun cdv A outer s H vs Q E hr h => ⟨_, pss_cons (ps_set (i := 3) sc_law_wrong.nd rfl (Or.inl rfl) (pe_ix (Gx.ix_seqK (K := K) rfl) (pe_lst (pa_cons (pe_op Gx.o_rep (pe_lst (pa_cons (pe_int) pa_nil)) (pe_int)) (pa_cons (pe_op Gx.o_rep (pe_lst (pa_cons (pe_int) pa_nil)) (pe_int)) (pa_cons (pe_op op_cat (pe_op Gx.o_rep (pe_lst (pa_cons (pe_int) pa_nil)) (pe_int)) (pe_lst (pa_cons (pe_int) pa_nil))) (pa_cons (pe_op op_cat (pe_lst (pa_cons (pe_op op_sub (pe_int) (pe_int)) pa_nil)) (pe_op Gx.o_rep (pe_lst (pa_cons (pe_int) pa_nil)) (pe_int))) pa_nil))))) (pe_call (ok_law_draw T) (hr.mono (by decide)) rfl T.law_draw.g T.law_draw.f.kp T.law_draw.b .nil pass0 (pa_cons (pv 0) (pa_cons (pe_int) pa_nil))) (fun _ _ => rfl)))
      (pss_cons (ps_if (PW.pt (pw_or (pt_cmpR op_ne (pe_call (ok_law_call T) (hr.mono (by decide)) rfl T.law_call.g T.law_call.f.kp T.law_call.b .nil pass0 (pa_cons (pv 1) (pa_cons (pe_int) (pa_cons (pe_ix (Gx.ix_seqK (K := K) rfl) (pe_lst (pa_cons (pe_op op_sub (pe_int) (pe_int)) (pa_cons (pv 2) pa_nil))) (pe_call (ok_law_draw T) (hr.mono (by decide)) rfl T.law_draw.g T.law_draw.f.kp T.law_draw.b .nil pass0 (pa_cons (pv 0) (pa_cons (pe_int) pa_nil))) (fun _ _ => rfl)) (pa_cons (pv 3) pa_nil))))) (pe_str) (nomark _)) (pw_or1 (pt_cmpR op_ne (pe_call (ok_law_call T) (hr.mono (by decide)) rfl T.law_call.g T.law_call.f.kp T.law_call.b .nil pass0 (pa_cons (pv 1) (pa_cons (pe_int) (pa_cons (pe_op op_sub (pv 2) (pe_int)) (pa_cons (pv 3) pa_nil))))) (pe_str) (nomark _))))) (pss_one (ps_ret (pe_bl))) (pss_nil))
      (pss_cons (ps_if (PW.pt (pw_or (pt_cmpR op_ne (pe_call (ok_law_call T) (hr.mono (by decide)) rfl T.law_call.g T.law_call.f.kp T.law_call.b .nil pass0 (pa_cons (pv 1) (pa_cons (pe_int) (pa_cons (pe_lst (pa_cons (pe_int) (pa_cons (pe_int) pa_nil))) (pa_cons (pe_int) pa_nil))))) (pe_str) (nomark _)) (pw_or1 (pt_cmpR op_ne (pe_call (ok_law_call T) (hr.mono (by decide)) rfl T.law_call.g T.law_call.f.kp T.law_call.b .nil pass0 (pa_cons (pv 1) (pa_cons (pe_int) (pa_cons (pe_lst (pa_cons (pe_op op_sub (pe_int) (pe_int)) pa_nil)) (pa_cons (pe_int) pa_nil))))) (pe_str) (nomark _))))) (pss_one (ps_ret (pe_bl))) (pss_nil))
      (pss_one (ps_ret (pe_cmpR op_eq (pe_call (ok_law_call T) (hr.mono (by decide)) rfl T.law_call.g T.law_call.f.kp T.law_call.b .nil pass0 (pa_cons (pv 1) (pa_cons (pe_int) (pa_cons (pe_ix (Gx.ix_seqK (K := K) rfl) (pe_lst (pa_cons (pe_op op_sub (pe_int) (pe_int)) (pa_cons (pv 2) pa_nil))) (pe_call (ok_law_draw T) (hr.mono (by decide)) rfl T.law_draw.g T.law_draw.f.kp T.law_draw.b .nil pass0 (pa_cons (pv 0) (pa_cons (pe_int) pa_nil))) (fun _ _ => rfl)) (pa_cons (pe_int) pa_nil))))) (pe_str) (nomark _)))))), ?_⟩)
  · obtain ⟨R, x, l1, l2, s, n, m, b, p, k, xs, rfl, _⟩ := h
    rfl
  · skip
    obtain ⟨R, x, l1, l2, s, n, m, b, p, k, xs, rfl, ds, w, hm, hcu, hl, hp, q⟩ := h
    have hn1 := w.n1
    walk_at "run"
    refine Nx.lst0 (by show 1 ≤ sizeLine; decide) fun a1 H1 n1 s1 h1 => ?_
    walk_at "run"
    refine Nx.repN0 (n := 31) h1 (by decide) fun a2 H2 n2 s2 h2 => ?_
    walk_at "run"
    refine Nx.lst0 (by show 1 ≤ sizeLine; decide) fun a3 H3 n3 s3 h3 => ?_
    walk_at "run"
    refine Nx.repN0 (n := 33) h3 (by decide) fun a4 H4 n4 s4 h4 => ?_
    walk_at "run"
    refine Nx.lst0 (by show 1 ≤ sizeLine; decide) fun a5 H5 n5 s5 h5 => ?_
    walk_at "run"
    refine Nx.repN0 (n := 31) h5 (by decide) fun a6 H6 n6 s6 h6 => ?_
    walk_at "run"
    refine Nx.lst0 (by show 1 ≤ sizeLine; decide) fun a7 H7 n7 s7 h7 => ?_
    refine Nx.cat0 (s7 _ _ h6) h7 (by rw [List.length_replicate]; decide) fun a8 H8 n8 s8 h8 => ?_
    walk_at "run"
    refine Nx.lst0 (by show 1 ≤ sizeLine; decide) fun a9 H9 n9 s9 h9 => ?_
    walk_at "run"
    refine Nx.lst0 (by show 1 ≤ sizeLine; decide) fun a10 H10 n10 s10 h10 => ?_
    walk_at "run"
    refine Nx.repN0 (n := 31) h10 (by decide) fun a11 H11 n11 s11 h11 => ?_
    refine Nx.cat0 (s11 _ _ (s10 _ _ h9)) h11 (by rw [List.length_replicate]; decide) fun a12 H12 n12 s12 h12 => ?_
    walk_at "run"
    refine Nx.lst0 (by show 4 ≤ sizeLine; decide) fun a13 H13 n13 s13 h13 => ?_
    have f48 := s5.trans (s6.trans (s7.trans s8))
    have f912 := s9.trans (s10.trans (s11.trans s12))
    have f813 := f912.trans s13
    have h2' := f813 _ _ (f48 _ _ (s4 _ _ (s3 _ _ h2)))
    have h4' := f813 _ _ (f48 _ _ h4)
    have h8' := f813 _ _ h8
    have h12' := s13 _ _ h12
    have sA := (s1.trans (s2.trans (s3.trans s4))).trans (f48.trans f813)
    have n2' := s1.free n2
    have n4' := (s1.trans (s2.trans s3)).free n4
    have n8' := (s1.trans (s2.trans (s3.trans (s4.trans (s5.trans (s6.trans s7)))))).free n8
    have n12' := ((s1.trans (s2.trans (s3.trans s4))).trans (f48.trans (s9.trans (s10.trans s11)))).free n12
    have n13' := ((s1.trans (s2.trans (s3.trans s4))).trans (f48.trans f912)).free n13
    obtain ⟨RA, ds, sRA, gR⟩ := ds.grow sA
    have hp := sRA _ _ hp
    have bads : ∀ j : Nat, j < 4 → ∃ (ba : Addr) (bl : List Int), [V.ref a2, V.ref a4, V.ref a8, V.ref a12][j]? = some (.ref ba) ∧ RA ba = some (.lst (bl.map V.int)) ∧ ¬ Dk.BOk bl := fun j hj => by
      rcases (show j = 0 ∨ j = 1 ∨ j = 2 ∨ j = 3 by omega) with rfl | rfl | rfl | rfl
      · exact ⟨a2, List.replicate 31 0, rfl, gR _ _ n2' (by rw [h2', List.map_replicate]), fun h => absurd h.1 (by simp)⟩
      · exact ⟨a4, List.replicate 33 0, rfl, gR _ _ n4' (by rw [h4', List.map_replicate]), fun h => absurd h.1 (by simp)⟩
      · exact ⟨a8, List.replicate 31 0 ++ [256], rfl, gR _ _ n8' (by rw [h8', List.map_append, List.map_replicate]; rfl), fun h => absurd (h.2 256 (by simp)) (by decide)⟩
      · exact ⟨a12, [-1] ++ List.replicate 31 0, rfl, gR _ _ n12' (by rw [h12', List.map_append, List.map_replicate]; rfl), fun h => absurd (h.2 (-1) (by simp)) (by decide)⟩
    have h13' := gR _ _ n13' h13
    clear s1 s2 s3 s4 s5 s6 s7 s8 s9 s10 s11 s12 s13 f48 f912 f813 n1 n2 n3 n4 n5 n6 n7 n8 n9 n10 n11 n12 n13 h1 h2 h3 h4 h5 h6 h7 h8 h9 h10 h11 h12 h13 h2' h4' h8' h12' gR n2' n4' n8' n12' n13' sA
    walk_at "run"
    refine drD ds hp (by decide) fun j k1 H14 hj ds => ?_
    obtain ⟨ba, bl, hba, hbl, hbk⟩ := bads j (by omega)
    walk_at "run"
    refine Gx.ixL (SqL.of (ds.same _ _ h13')) (atI_nat hba) ?_
    walk_at "run"
    refine Nx.lst0 (by show 2 ≤ sizeLine; decide) fun b1 H15 m1 t1 g1 => ?_
    obtain ⟨RB, ds, sRB, gB⟩ := ds.grow t1
    have g1 : RB b1 = some (.lst (([-1, (n : Int)] : List Int).map V.int)) := gB _ _ m1 g1
    have sX := sRA.trans sRB
    have hp := sRB _ _ hp
    have hbl := sRB _ _ hbl
    clear bads h13' gB t1
    have outs : ∀ j : Nat, j < 2 → ∃ z : Int, ([-1, (n : Int)] : List Int).getD j 0 = z ∧ ¬ (0 ≤ z ∧ z < n) := fun j hj => by
      rcases (show j = 0 ∨ j = 1 by omega) with rfl | rfl
      · exact ⟨-1, rfl, by omega⟩
      · exact ⟨(n : Int), rfl, by omega⟩
    walk_at "run"
    refine drD ds hp (by decide) fun j2 k2 H16 hj2 ds => ?_
    obtain ⟨z2, hz2, hzb2⟩ := outs j2 (by omega)
    walk_at "run"
    refine Gx.ixL (SqL.of (ds.same _ _ g1)) (Gx.at_map (show j2 < 2 by omega)) ?_
    rw [hz2]
    walk_at "run"
    refine cp_law_call ds w hm hcu hl (.inl ⟨z2, ba, bl, rfl, rfl, rfl, .inl hbl, fun _ RC HC sRC ds => ?_, fun f => absurd f hzb2⟩)
    have sX := sX.trans sRC
    have hp := sRC _ _ hp
    have hbl := sRC _ _ hbl
    walk_at "run"
    rw [decide_eq_true rfl]
    walk_at "lit"
    refine cp_law_call ds w hm hcu hl (.inl ⟨(n : Int) - 1, ba, bl, rfl, rfl, rfl, .inl hbl, fun f => absurd (by omega) f, fun _ => ⟨fun _ RD HD sRD ds => ?_, fun g => absurd g hbk⟩⟩)
    have sX := sX.trans sRD
    have hp := sRD _ _ hp
    walk_at "run"
    rw [decide_eq_true rfl]
    walk_at "lit"
    refine Nx.lst0 (by show 2 ≤ sizeLine; decide) fun b2 H17 m2 t2 g2 => ?_
    obtain ⟨RE, ds, sRE, gE⟩ := ds.grow t2
    have g2 : RE b2 = some (.lst (([32, 33] : List Int).map V.int)) := gE _ _ m2 g2
    have sX := sX.trans sRE
    have hp := sRE _ _ hp
    walk_at "run"
    refine cp_law_call ds w hm hcu hl (.inr (.inl ⟨b2, [32, 33], rfl, rfl, g2, by decide, fun _ RF HF sRF ds => ?_, fun f => absurd (f 33 (by simp)) (by decide)⟩))
    have sX := sX.trans sRF
    have hp := sRF _ _ hp
    walk_at "run"
    rw [decide_eq_true rfl]
    walk_at "lit"
    refine Nx.lst0 (by show 1 ≤ sizeLine; decide) fun b3 H18 m3 t3 g3 => ?_
    obtain ⟨RG, ds, sRG, gG⟩ := ds.grow t3
    have g3 : RG b3 = some (.lst (([-1] : List Int).map V.int)) := gG _ _ m3 g3
    have sX := sX.trans sRG
    have hp := sRG _ _ hp
    walk_at "run"
    refine cp_law_call ds w hm hcu hl (.inr (.inl ⟨b3, [-1], rfl, rfl, g3, by decide, fun _ RF HF sRF ds => ?_, fun f => absurd (f (-1) (by simp)) (by decide)⟩))
    have sX := sX.trans sRF
    have hp := sRF _ _ hp
    walk_at "run"
    rw [decide_eq_true rfl]
    walk_at "lit"
    refine Nx.lst0 (by show 2 ≤ sizeLine; decide) fun b4 H19 m4 t4 g4 => ?_
    obtain ⟨RH, ds, sRH, gH⟩ := ds.grow t4
    have g4 : RH b4 = some (.lst (([-1, (n : Int)] : List Int).map V.int)) := gH _ _ m4 g4
    have sX := sX.trans sRH
    have hp := sRH _ _ hp
    walk_at "run"
    refine drD ds hp (by decide) fun j3 k3 H20 hj3 ds => ?_
    obtain ⟨z3, hz3, hzb3⟩ := outs j3 (by omega)
    walk_at "run"
    refine Gx.ixL (SqL.of (ds.same _ _ g4)) (Gx.at_map (show j3 < 2 by omega)) ?_
    rw [hz3]
    walk_at "run"
    refine cp_law_call ds w hm hcu hl (.inr (.inr ⟨z3, rfl, rfl, hzb3, fun RJ HJ sRJ ds => ?_⟩))
    walk_at "run"
    rw [decide_eq_true rfl]
    exact q _ _ _ (sX.trans sRJ) ds

theorem cp_law_wrong {K : PySem.W.Frag} {C x : Addr} {R H : Hp} {l1 l2 : List (Addr × HO)} {s : Dk.St} {n m : Nat} {b p : Addr} {k : Nat} {xs : List Int} {Q : VK} {E : XK} (ds : Dsk C R H x (l1 ++ (b, .lst [.ref p, .int (k : Int)]) :: l2) s) (w : Dk.Wf n m s) (hm : m ≤ 1000) (hc : s.cu ≤ 1000000) (hl : s.lf = none) (hp : R p = some (.lst (xs.map V.int))) (q : ∀ (k' : Nat) R' H', Same R R' → Dsk C R' H' x (l1 ++ (b, .lst [.ref p, .int (k' : Int)]) :: l2) s → Q (.bl true) H') : Gx.CP (sp_law_wrong K C) [.ref b, .ref x, .int (n : Int)] [] H Q E := ⟨R, x, l1, l2, s, n, m, b, p, k, xs, rfl, ds, w, hm, hc, hl, hp, q⟩

def sp_law_torn : Sp := fun vs H Q _ => ∃ (R : Hp) (l1 l2 : List (Addr × HO)) (b p : Addr) (k m : Nat) (xs : List Int), vs = [.ref b, .int (m : Int)] ∧ Mv.Hv R H (l1 ++ (b, .lst [.ref p, .int (k : Int)]) :: l2) ∧ R p = some (.lst (xs.map V.int)) ∧ m ≤ 1000 ∧
  ∀ (q : Addr) (k' : Nat) (t : List Int) (R' H' : Hp), Same R R' → Mv.Hv R' H' (l1 ++ (b, .lst [.ref p, .int (k' : Int)]) :: l2) → R' q = some (.lst (t.map V.int)) → Dk.TOk t → t.length ≤ m → Q (.ref q) H'

theorem sc_law_torn : FnScope ["box", "many", "kind", "k"] ["box", "many"] (defScope s_law_torn) := ⟨rfl, rfl, rfl, by decide +kernel, rfl, by decide +kernel, by decide +kernel⟩
theorem ok_law_torn (T : Tx P K mg) : FnOk P w K mg base CX0 2 T.law_torn.a T.law_torn.d ["box", "many"] (sp_law_torn) := by
  refine T.law_torn.f.ok sc_law_torn (fun vs H Q E h => ?_) (fun cdv A outer s H vs Q E hr h => ⟨_, pss_cons (ps_set (i := 2) sc_law_torn.nd rfl (Or.inl rfl) (pe_call (ok_law_draw T) (hr.mono (by decide)) rfl T.law_draw.g T.law_draw.f.kp T.law_draw.b .nil pass0 (pa_cons (pv 0) (pa_cons (pe_int) pa_nil))))
      (pss_cons (ps_if (pt_cmpR op_eq (pv 2) (pe_int) (nomark _)) (pss_one (ps_ret (pe_lst pa_nil))) (pss_nil))
      (pss_cons (ps_if (pt_cmpR op_eq (pv 2) (pe_int) (nomark _)) (pss_one (ps_ret (pe_op Gx.o_rep (pe_lst (pa_cons (pe_int) pa_nil)) (pv 1)))) (pss_nil))
      (pss_cons (ps_if (pt_cmpR op_eq (pv 2) (pe_int) (nomark _)) (pss_one (ps_ret (pe_lc (own := [("k", 3)]) (g := (gName 3)) (tt := tYes) rfl sc_law_torn.nd (pi_range1 rfl T.n_range (pa_cons (pv 1) pa_nil)) (blkOk_by (own := [("k", 3)]) (N := ["box", "many", "kind", "k"]) (sc := defScope s_law_torn) (by decide +kernel)) (fun _ _ _ _ _ => (pg_name (i := 3) sc_law_torn.nd rfl (Or.inl rfl))) (fun _ _ _ _ _ => pts_nil) (fun _ _ _ _ _ => pe_op op_mul (pe_int) (pe_call (ok_law_draw T) (hr.mono (by decide)) rfl T.law_draw.g T.law_draw.f.kp T.law_draw.b .nil pass0 (pa_cons (pv 0) (pa_cons (pe_int) pa_nil))))))) (pss_nil))
      (pss_one (ps_ret (pe_lc (own := [("k", 3)]) (g := (gName 3)) (tt := tYes) rfl sc_law_torn.nd (pi_range1 rfl T.n_range (pa_cons (pv 1) pa_nil)) (blkOk_by (own := [("k", 3)]) (N := ["box", "many", "kind", "k"]) (sc := defScope s_law_torn) (by decide +kernel)) (fun _ _ _ _ _ => (pg_name (i := 3) sc_law_torn.nd rfl (Or.inl rfl))) (fun _ _ _ _ _ => pts_nil) (fun _ _ _ _ _ => pe_call (ok_law_draw T) (hr.mono (by decide)) rfl T.law_draw.g T.law_draw.f.kp T.law_draw.b .nil pass0 (pa_cons (pv 0) (pa_cons (pe_int) pa_nil))))))))), ?_⟩)
  · obtain ⟨R, l1, l2, b, p, k, m, xs, rfl, _⟩ := h
    rfl
  · skip
    obtain ⟨R, l1, l2, b, p, k, m, xs, rfl, hv, hp, hm, q⟩ := h
    walk_at "run"
    refine drV hv hp (by decide) fun kd k1 H1 hkd hv => ?_
    walk_at "run"
    refine Gx.if_d (fun e => ?_) (fun e => ?_)
    · walk_at "run"
      refine Nx.lst0 (by show 0 ≤ sizeLine; decide) fun p2 H2 n2 s2 h2 => ?_
      obtain ⟨R2, hv2, sR2, gR2⟩ := hv.grow s2
      exact q p2 k1 [] R2 H2 sR2 hv2 (gR2 _ _ n2 h2) (fun z h => nomatch h) (Nat.zero_le _)
    walk_at "run"
    refine Gx.if_d (fun e => ?_) (fun e => ?_)
    · walk_at "run"
      refine Nx.lst0 (by show 1 ≤ sizeLine; decide) fun p2 H2 n2 s2 h2 => ?_
      walk_at "run"
      refine Nx.repN0 (n := m) h2 (by omega) fun p3 H3 n3 s3 h3 => ?_
      obtain ⟨R2, hv2, sR2, gR2⟩ := hv.grow (s2.trans s3)
      exact q p3 k1 (List.replicate m 32) R2 H3 sR2 hv2 (gR2 _ _ (s2.free n3) (by rw [h3, List.map_replicate])) (fun z h => by rw [List.eq_of_mem_replicate h]; omega) (by rw [List.length_replicate]; exact Nat.le_refl _)
    walk_at "run"
    refine Gx.if_d (fun e => ?_) (fun e => ?_)
    · walk_at "run"
      refine Gx.r1 (by omega) (by omega) ?_
      rw [Int.toNat_natCast]
      refine Nx.lcO walk_range (fun i zs Rr => ∃ (k' : Nat) (t : List Int), Mv.Hv R Rr (l1 ++ (b, .lst [.ref p, .int (k' : Int)]) :: l2) ∧ zs = t.map V.int ∧ Dk.TOk t ∧ t.length = i) (by omega) ⟨k1, [], hv, rfl, (fun z h => nomatch h), rfl⟩ (fun _ _ _ _ _ _ => trivial) ?_ ?_
      · rintro i y zs Rr D' H3 H3' Ry Rn hi ⟨k2, t, hv2, rfl, ht, htl⟩ O ⟨rfl, hy⟩ hr _
        have hvD := Mv.Hv.ofOwn O hv2
        walk_at "run"
        refine drV (l1 := (D', _) :: l1) hvD hp (by decide) fun r k3 H4 hr1 hv4 => ?_
        obtain ⟨R4, O4, hv4'⟩ := Mv.Hv.toOwn hv4
        walk_at "run"
        exact hr _ R4 H4 O4 ⟨k3, t ++ [32 * (r : Int)], hv4', by rw [List.map_append]; rfl, (fun z hz => by
          rcases List.mem_append.mp hz with h | h
          · exact ht z h
          · rw [List.mem_singleton.mp h]; omega), by rw [List.length_append, htl]; rfl⟩
      rintro D' zs Rr H3 ⟨k2, t, hv2, rfl, ht, htl⟩ O
      obtain ⟨R3, hv3, sR3, hD⟩ := Mv.Hv.down O hv2
      exact q D' k2 t R3 H3 sR3 hv3 hD ht (by omega)
    · walk_at "run"
      refine Gx.r1 (by omega) (by omega) ?_
      rw [Int.toNat_natCast]
      refine Nx.lcO walk_range (fun i zs Rr => ∃ (k' : Nat) (t : List Int), Mv.Hv R Rr (l1 ++ (b, .lst [.ref p, .int (k' : Int)]) :: l2) ∧ zs = t.map V.int ∧ Dk.TOk t ∧ t.length = i) (by omega) ⟨k1, [], hv, rfl, (fun z h => nomatch h), rfl⟩ (fun _ _ _ _ _ _ => trivial) ?_ ?_
      · rintro i y zs Rr D' H3 H3' Ry Rn hi ⟨k2, t, hv2, rfl, ht, htl⟩ O ⟨rfl, hy⟩ hr _
        have hvD := Mv.Hv.ofOwn O hv2
        walk_at "run"
        refine drV (l1 := (D', _) :: l1) hvD hp (by decide) fun r k3 H4 hr1 hv4 => ?_
        obtain ⟨R4, O4, hv4'⟩ := Mv.Hv.toOwn hv4
        walk_at "run"
        exact hr _ R4 H4 O4 ⟨k3, t ++ [(r : Int)], hv4', by rw [List.map_append]; rfl, (fun z hz => by
          rcases List.mem_append.mp hz with h | h
          · exact ht z h
          · rw [List.mem_singleton.mp h]; omega), by rw [List.length_append, htl]; rfl⟩
      rintro D' zs Rr H3 ⟨k2, t, hv2, rfl, ht, htl⟩ O
      obtain ⟨R3, hv3, sR3, hD⟩ := Mv.Hv.down O hv2
      exact q D' k2 t R3 H3 sR3 hv3 hD ht (by omega)

theorem cp_law_torn {R H : Hp} {l1 l2 : List (Addr × HO)} {b p : Addr} {k m : Nat} {xs : List Int} {Q : VK} {E : XK} (hv : Mv.Hv R H (l1 ++ (b, .lst [.ref p, .int (k : Int)]) :: l2)) (hp : R p = some (.lst (xs.map V.int))) (hm : m ≤ 1000) (q : ∀ (q : Addr) (k' : Nat) (t : List Int) (R' H' : Hp), Same R R' → Mv.Hv R' H' (l1 ++ (b, .lst [.ref p, .int (k' : Int)]) :: l2) → R' q = some (.lst (t.map V.int)) → Dk.TOk t → t.length ≤ m → Q (.ref q) H') : Gx.CP sp_law_torn [.ref b, .int (m : Int)] [] H Q E := ⟨R, l1, l2, b, p, k, m, xs, rfl, hv, hp, hm, q⟩
theorem cpD_law_torn {C x : Addr} {R H : Hp} {l1 l2 : List (Addr × HO)} {s : Dk.St} {b p : Addr} {k m : Nat} {xs : List Int} {Q : VK} {E : XK} (ds : Dsk C R H x (l1 ++ (b, .lst [.ref p, .int (k : Int)]) :: l2) s) (hp : R p = some (.lst (xs.map V.int))) (hm : m ≤ 1000) (q : ∀ (q : Addr) (k' : Nat) (t : List Int) (R' H' : Hp), Same R R' → Dsk C R' H' x (l1 ++ (b, .lst [.ref p, .int (k' : Int)]) :: l2) s → R' q = some (.lst (t.map V.int)) → Dk.TOk t → t.length ≤ m → Q (.ref q) H') : Gx.CP sp_law_torn [.ref b, .int (m : Int)] [] H Q E := by
  obtain ⟨dx, pb, pp, pt, vb, vp, hv, hb, h2, h3⟩ := ds
  exact cp_law_torn (l1 := _ :: _ :: _ :: l1) hv hp hm fun q' k' t R' H' sR hv' ht tk tl => q q' k' t R' H' sR ⟨dx, pb, pp, pt, vb, vp, hv', hb.keep sR, h2.keep sR, sR _ _ h3⟩ ht tk tl

def sp_Disk_flush (CP C : Addr) : Sp := fun vs H Q E => ∃ (R : Hp) (x : Addr) (rest : List (Addr × HO)) (s : Dk.St) (n m : Nat), vs = [.ref x] ∧ Dsk C R H x rest s ∧ Dk.Wf n m s ∧ m ≤ 1000 ∧ s.cu ≤ 1000000 ∧ (s.lf ≠ some 0 → ∀ R' H', Same R R' → Dsk C R' H' x rest s.use.flush → Q .non H') ∧ (s.lf = some 0 → ∀ R' H', Same R R' → Dsk C R' H' x rest (s.cut s.tn) → Sx.ErrB CP H' E)

theorem sc_Disk_flush : FnScope ["self", "at", "block"] ["self"] (defScope s_Disk_flush) := ⟨rfl, rfl, rfl, by decide +kernel, rfl, by decide +kernel, by decide +kernel⟩
theorem ok_Disk_flush (T : Tx P K mg) : FnOk P w K mg base (L2.CX P w) 3 T.Disk_flush.a T.Disk_flush.d ["self"] (sp_Disk_flush T.y_PowerCut.C T.a_Disk) := by
  refine T.Disk_flush.f.okX sc_Disk_flush (fun vs H Q E h => ?_) (fun cdv A outer s H vs Q E hr h => ⟨_, pss_cons (ps_expr (Sx.pe_methS0 (pv 0) T.cl_Disk T.Disk__use_power.m (ok_Disk__use_power T) (hr.mono (by decide)) T.Disk__use_power.b (fun σ => passAt (takes_of rfl rfl rfl rfl) σ)))
      (pss_cons (ps_for (passes_of rfl) rfl (pi_list (pe_fld (pv 0) rfl)) (pg_tup rfl (pgs_cons (pg_name (i := 1) sc_Disk_flush.nd rfl (Or.inl rfl)) (pgs_cons (pg_name (i := 2) sc_Disk_flush.nd rfl (Or.inl rfl)) pgs_nil)))
      (pss_one (ps_asg (pv 2) (pg_sub (pe_fld (pv 0) rfl) (pv 1) set_list))))
      (pss_one (ps_fld (pv 0) (pe_lst pa_nil) rfl))), ?_⟩)
  · obtain ⟨R, x, rest, s, n, m, rfl, _⟩ := h
    rfl
  · skip
    obtain ⟨R, x, rest, s, n, m, rfl, ds, w, hm, hcu, q, qe⟩ := h
    have ds0 := ds
    obtain ⟨dx, pb, pp, pt, vb, vp, hv, hb, hp, ht⟩ := ds
    have hx := hv.g0
    walk_at "run"
    refine Sx.mts hx no_Disk__use_power ?_
    walk_at "run"
    refine cs_Disk__use_power ds0 w hm hcu (fun nz H1 ds1 => ?_) qe
    have q := q nz
    have w1 := w.use
    clear hx hv hb hp ht ds0 qe
    obtain ⟨dx, pb, pp, pt, vb, vp, hv, hb, hp, ht⟩ := ds1
    have hx := hv.g0
    have hpp := hv.g2
    have hpl : vp.length = s.use.pe.length := hp.1
    have hpm := w1.pn
    walk_at "run"
    refine Gx.lp (SqL.of hpp) ?_
    refine Gx.fw (walk_list (xs := vp)) (fun i σ' H' => ∃ (vb' : List V) (v1 v2 : Option V), Mv.Hv R H' ((x, .ins T.a_Disk dx (fl_Disk (.ref pb) (.ref pp) (.int (s.use.cu : Int)) (Dk.lfV s.use.lf) (.ref pt))) :: (pb, .lst vb') :: (pp, .lst vp) :: rest) ∧ Dk.BL R vb' (Dk.flB s.use.bl (s.use.pe.take i)) ∧ σ' = [some (.ref x), v1, v2]) ⟨vb, none, none, hv, hb, rfl⟩ (fun i σ' H' _ ⟨_, _, _, hv', _⟩ => SqL.of hv'.g2) ?_ ?_
    · rintro i y σ' H4 H4' hi ⟨vb', v1, v2, hv', hb', rfl⟩ ⟨rfl, hy⟩
      obtain ⟨te, aq, e, rfl, he, h1, h2⟩ := hp.2 i y hy
      have htk : s.use.pe.take (i + 1) = s.use.pe.take i ++ [e] := by rw [List.take_add_one, he]; rfl
      obtain ⟨g1, g2⟩ := w1.pb e (List.mem_of_getElem? he)
      rw [htk, Dk.flB_app]
      have hbn : (Dk.flB s.use.bl (s.use.pe.take i)).length = n := Dk.flB_len.trans w1.bn
      obtain ⟨at', bq⟩ := e
      dsimp only at *
      generalize Dk.flB s.use.bl (s.use.pe.take i) = bs at *
      have h1' := hv'.same _ _ h1
      have hx' := hv'.g0
      have hpb' := hv'.g1
      have hlv : vb'.length = n := hb'.1.trans hbn
      walk_at "run"
      refine Gx.setL (j := at') hpb' (Dk.ixN_nat (by omega)) ?_
      exact ⟨_, _, _, hv'.p1, hb'.set h2, rfl⟩
    rintro σ' H4 ⟨vb', v1, v2, hv', hb', rfl⟩
    rw [List.take_of_length_le (by omega)] at hb'
    have hx' := hv'.g0
    walk_at "run"
    refine Nx.lst0 (by show 0 ≤ sizeLine; decide) fun p5 H5 n5 s5 h5 => ?_
    obtain ⟨R5, hv5, sR5⟩ := hv'.more n5 s5 h5
    have hx5 := hv5.g1
    walk_at "run"
    refine Gx.sfp hx5 T.cl_Disk T.na_Disk__pending few_Disk put_Disk__pending ?_
    have hv6 := hv5.p1 (u := .ins T.a_Disk dx (fl_Disk (.ref pb) (.ref p5) (.int (s.use.cu : Int)) (Dk.lfV s.use.lf) (.ref pt)))
    obtain ⟨R9, hv9, sR9, _⟩ := hv6.rot4.less
    have sA := sR5.trans sR9
    exact q R9 _ sA ⟨dx, pb, p5, pt, vb', [], hv9, hb'.keep sA, Dk.PL.nil, sA _ _ ht⟩

theorem cs_Disk_flush {CP C x : Addr} {R H : Hp} {rest : List (Addr × HO)} {s : Dk.St} {n m : Nat} {Q : VK} {E : XK} (ds : Dsk C R H x rest s) (w : Dk.Wf n m s) (hm : m ≤ 1000) (hc : s.cu ≤ 1000000) (q : s.lf ≠ some 0 → ∀ R' H', Same R R' → Dsk C R' H' x rest s.use.flush → Q .non H') (qe : s.lf = some 0 → ∀ R' H', Same R R' → Dsk C R' H' x rest (s.cut s.tn) → Sx.ErrB CP H' E) : Sx.CS (sp_Disk_flush CP C) [.ref x] H Q E := ⟨R, x, rest, s, n, m, rfl, ds, w, hm, hc, q, qe⟩
theorem cp_Disk_flush {CP C x : Addr} {R H : Hp} {rest : List (Addr × HO)} {s : Dk.St} {n m : Nat} {Q : VK} {E : XK} (ds : Dsk C R H x rest s) (w : Dk.Wf n m s) (hm : m ≤ 1000) (hc : s.cu ≤ 1000000) (hl : s.lf ≠ some 0) (q : ∀ R' H', Same R R' → Dsk C R' H' x rest s.use.flush → Q .non H') : Gx.CP (sp_Disk_flush CP C) [.ref x] [] H Q E := ⟨R, x, rest, s, n, m, rfl, ds, w, hm, hc, fun _ => q, fun e => absurd e hl⟩

/-- a cell of the script, 0 beyond its end -/
def sp_law_cell (K : PySem.W.Frag) : Sp := fun vs H Q _ => ∃ (a : Addr) (ns : List Int) (k : Nat), vs = [.ref a, .int (k : Int)] ∧ SqL K H a (ns.map V.int) ∧ k < 100000 ∧ Q (.int (ns.getD k 0)) H

theorem sc_law_cell : FnScope ["script", "k"] ["script", "k"] (defScope s_law_cell) := ⟨rfl, rfl, rfl, by decide +kernel, rfl, by decide +kernel, by decide +kernel⟩
theorem ok_law_cell (T : Tx P K mg) : FnOk P w K mg base CX0 1 T.law_cell.a T.law_cell.d ["script", "k"] (sp_law_cell K) := by
  refine T.law_cell.f.ok sc_law_cell (fun vs H Q E h => ?_) (fun cdv A outer s H vs Q E hr h => ⟨_, pss_cons (ps_if (pt_cmpR op_lt (pv 1) (pe_callB (Gx.c_lenK (K := K) rfl) rfl T.n_len (by decide +kernel) (pa_cons (pv 0) pa_nil)) (nomark _)) (pss_one (ps_ret (pe_ix (Gx.ix_seqK (K := K) rfl) (pv 0) (pv 1) (fun _ _ => rfl)))) (pss_nil))
      (pss_one (ps_ret (pe_int))), ?_⟩)
  · obtain ⟨a, ns, k, rfl, _⟩ := h
    rfl
  · skip
    obtain ⟨a, ns, k, rfl, hs, hk, q⟩ := h
    walk_at "go"
    refine Gx.lenL hs ?_
    walk_at "go"
    refine Gx.if_d (fun hlt => ?_) (fun hge => ?_)
    · rw [List.length_map] at hlt
      walk_at "go"
      exact Gx.ixL hs (Gx.at_map (by omega)) q
    · rw [List.length_map] at hge
      walk_at "go"
      have e : ns.getD k 0 = 0 := by
        rw [List.getD_eq_getElem?_getD, List.getElem?_eq_none (by omega)]; rfl
      rw [e] at q
      exact q

theorem cp_law_cell {K : PySem.W.Frag} {a : Addr} {ns : List Int} {k : Int} {H : Hp} {Q : VK} {E : XK} (hs : SqL K H a (ns.map V.int)) (h0 : 0 ≤ k) (h1 : k < 100000) (q : ∀ z : Int, (z ∈ ns ∨ z = 0) → Q (.int z) H) : Gx.CP (sp_law_cell K) [.ref a, .int k] [] H Q E := by
  refine ⟨a, ns, k.toNat, by rw [List.append_nil, Int.toNat_of_nonneg h0], hs, by omega, q _ ?_⟩
  rw [List.getD_eq_getElem?_getD]
  by_cases h : k.toNat < ns.length
  · rw [List.getElem?_eq_getElem h]; exact .inl (List.getElem_mem h)
  · rw [List.getElem?_eq_none (by omega)]; exact .inr rfl

/-- a new list of ints, as the script has them -/
def sp_law_digits (K : PySem.W.Frag) : Sp := fun vs H Q _ => ∃ (a : Addr) (ns : List Int) (f l : Nat), vs = [.ref a, .int (f : Int), .int (l : Int)] ∧ SqL K H a (ns.map V.int) ∧ f ≤ l ∧ l ≤ 1000 ∧
  ∀ (xs : List Int) (p : Addr) (H' : Hp), H p = none → Same H H' → H' p = some (.lst (xs.map V.int)) → Q (.ref p) H'

theorem sc_law_digits : FnScope ["script", "first", "last", "digits", "k", "cell", "turn", "seed"] ["script", "first", "last"] (defScope s_law_digits) := ⟨rfl, rfl, rfl, by decide +kernel, rfl, by decide +kernel, by decide +kernel⟩
theorem ok_law_digits (T : Tx P K mg) : FnOk P w K mg base CX0 2 T.law_digits.a T.law_digits.d ["script", "first", "last"] (sp_law_digits K) := by
  refine T.law_digits.f.ok sc_law_digits (fun vs H Q E h => ?_) (fun cdv A outer s H vs Q E hr h => ⟨_, pss_cons (ps_set (i := 3) sc_law_digits.nd rfl (Or.inl rfl) (pe_lst pa_nil))
      (pss_cons (ps_for PassesOwn.never rfl (pi_range2 rfl T.n_range (pa_cons (pv 1) (pa_cons (pv 2) pa_nil))) (pg_name (i := 4) sc_law_digits.nd rfl (Or.inl rfl))
      (pss_cons (ps_set (i := 5) sc_law_digits.nd rfl (Or.inl rfl) (pe_call (ok_law_cell T) (hr.mono (by decide)) rfl T.law_cell.g T.law_cell.f.kp T.law_cell.b .nil pass0 (pa_cons (pv 0) (pa_cons (pv 4) pa_nil))))
      (C8.pss_cut (ps_if (pt_cmpR op_lt (pv 5) (pe_int) (nomark _)) (pss_one (ps_set (i := 5) sc_law_digits.nd rfl (Or.inl rfl) (pe_op op_sub (pe_int) (pe_op op_mul (pe_int) (pv 5))))) (pss_nil))
      (pss_one (ps_if (pt_cmpR op_ge (pv 5) (pe_int) (nomark _)) (pss_one (ps_for PassesOwn.never rfl (pi_range1 rfl T.n_range (pa_cons (pe_int) pa_nil)) (pg_name (i := 6) sc_law_digits.nd rfl (Or.inl rfl))
      (pss_one (ps_if (pt_cmpR op_gt (pv 5) (pe_int) (nomark _)) (pss_cons (ps_expr (pe_bm PySem.F.plainAttrs_list PySem.F.slot_list_append PySem.F.type_list_append mt_append (pv 3) (pa_cons (pe_op op_mod (pe_callTy Gx.c_int rfl T.n_int (by decide +kernel) (pa_cons (pv 5) pa_nil)) (pe_int)) pa_nil)))
      (pss_one (ps_set (i := 5) sc_law_digits.nd rfl (Or.inl rfl) (pe_op op_fdiv (pv 5) (pe_int))))) (pss_nil))))) (pss_cons (ps_set (i := 7) sc_law_digits.nd rfl (Or.inl rfl) (pe_op op_mod (pe_callTy Gx.c_int rfl T.n_int (by decide +kernel) (pa_cons (pe_op op_add (pe_op op_add (pe_op op_mul (pv 5) (pe_int)) (pe_op op_mul (pv 4) (pe_int))) (pe_int)) pa_nil)) (pe_int)))
      (pss_one (ps_for PassesOwn.never rfl (pi_range1 rfl T.n_range (pa_cons (pe_int) pa_nil)) (pg_name (i := 6) sc_law_digits.nd rfl (Or.inl rfl))
      (pss_cons (ps_set (i := 7) sc_law_digits.nd rfl (Or.inl rfl) (pe_op op_mod (pe_callTy Gx.c_int rfl T.n_int (by decide +kernel) (pa_cons (pe_op op_add (pe_op op_add (pe_op op_mul (pv 7) (pe_int)) (pe_op op_mul (pe_int) (pv 6))) (pe_int)) pa_nil)) (pe_int)))
      (pss_one (ps_expr (pe_bm PySem.F.plainAttrs_list PySem.F.slot_list_append PySem.F.type_list_append mt_append (pv 3) (pa_cons (pe_op op_mod (pe_callTy Gx.c_int rfl T.n_int (by decide +kernel) (pa_cons (pe_op op_fdiv (pv 7) (pe_int)) pa_nil)) (pe_int)) pa_nil)))))))))))))
      (pss_one (ps_ret (pv 3)))), ?_⟩)
  · obtain ⟨a, ns, f, l, rfl, _⟩ := h
    rfl
  · skip
    obtain ⟨a, ns, f, l, rfl, hs, hfl, hl, q⟩ := h
    walk_at "go"
    refine Gx.lstP (Nat.zero_le _) fun p hp => ?_
    walk_at "go"
    refine Gx.r2 (by omega) ?_
    refine Gx.fw walk_range (fun i σ' H' => ∃ (xs : List Int) (k c t sd : Option V), xs.length ≤ 60 * i ∧ Same H H' ∧ H' p = some (.lst (xs.map V.int)) ∧
      σ' = [some (.ref a), some (.int (f : Int)), some (.int (l : Int)), some (.ref p), k, c, t, sd]) ?_ (fun _ _ _ _ _ => trivial) ?_ ?_
    · exact ⟨[], none, none, none, none, Nat.zero_le _, Gx.same_new hp, upd_same, rfl⟩
    · rintro i x σ' H1 H1' hi ⟨xs, k, c, t, sd, hx, s1, hL, rfl⟩ ⟨rfl, hxi⟩
      have hxi2 : x = .int ((f + i : Nat) : Int) := hxi.trans (congrArg V.int (by omega))
      subst hxi2
      have hz : ∀ ys : List Int, ys.length ≤ 60 * i + 60 → (ys.map V.int).length < sizeLine := fun ys h => by rw [List.length_map, sizeLine_eq]; omega
      walk_at "go"
      refine cp_law_cell (s1.seq hs) (by omega) (by omega) fun c0 _ => ?_
      walk_at "go"
      refine Gx.cut (fun σ' H' => H' = H1' ∧ ∃ c1 : Int, σ' = [some (.ref a), some (.int (f : Int)), some (.int (l : Int)), some (.ref p), some (.int ((f + i : Nat) : Int)), some (.int c1), t, sd]) ?_ ?_
      · walk_at "go"
        refine Gx.if_d (fun _ => ?_) (fun _ => ?_)
        · walk_at "go"
          refine Gx.ic (.inl (by decide)) ?_
          walk_at "go"
          exact ⟨rfl, _, rfl⟩
        · walk_at "go"
          exact ⟨rfl, _, rfl⟩
      · rintro σ' H' ⟨rfl, c1, rfl⟩
        walk_at "go"
        refine Gx.if_b (fun _ => ?_) (fun _ => ?_)
        · walk_at "go"
          refine Gx.r1 (by decide) (by decide) ?_
          refine Gx.fw walk_range (fun j σ' H' => ∃ (ys : List Int) (c t : Option V) (cc : Int), ys.length ≤ 60 * i + j ∧ Same H H' ∧ H' p = some (.lst (ys.map V.int)) ∧
            σ' = [some (.ref a), some (.int (f : Int)), some (.int (l : Int)), some (.ref p), some (.int ((f + i : Nat) : Int)), some (.int cc), t, sd]) ⟨xs, none, t, c1, by omega, s1, hL, rfl⟩ (fun _ _ _ _ _ => trivial) ?_ ?_
          · rintro j x σ' H2 H2' hj ⟨ys, _, t, cc, hy, s2, hL2, rfl⟩ ⟨rfl, hxj⟩
            walk_at "go"
            refine Gx.if_b (fun _ => ?_) (fun _ => ?_)
            · walk_at "go"
              refine Gx.bmS (Gx.tyL (SqL.of hL2)) ?_
              walk_at "go"
              refine Gx.ic (by decide) ?_
              walk_at "go"
              refine Gx.app hL2 (hz ys (by omega)) ?_
              walk_at "go"
              refine Gx.ic ⟨by decide, by decide⟩ ?_
              walk_at "go"
              exact ⟨ys ++ [cc % 1000], none, some x, _, by rw [List.length_append, List.length_singleton]; omega, Gx.same_up hp s2, Gx.snoc, rfl⟩
            · walk_at "go"
              exact ⟨ys, none, some x, cc, by omega, s2, hL2, rfl⟩
          · rintro σ' H' ⟨ys, _, t, cc, hy, s2, hL2, rfl⟩
            walk_at "go"
            exact ⟨ys, _, _, _, _, by omega, s2, hL2, rfl⟩
        · walk_at "go"
          refine Gx.ic (.inr (by decide)) ?_
          walk_at "go"
          refine Gx.ic (.inr (by decide)) ?_
          walk_at "go"
          refine Gx.ic (by decide) ?_
          walk_at "go"
          refine Gx.r1 (by decide) (by decide) ?_
          refine Gx.fw walk_range (fun j σ' H' => ∃ (ys : List Int) (t : Option V) (s0 : Int), ys.length ≤ 60 * i + j ∧ Same H H' ∧ H' p = some (.lst (ys.map V.int)) ∧ 
            σ' = [some (.ref a), some (.int (f : Int)), some (.int (l : Int)), some (.ref p), some (.int ((f + i : Nat) : Int)), some (.int c1), t, some (.int s0)]) ⟨xs, t, _, by omega, s1, hL, rfl⟩ (fun _ _ _ _ _ => trivial) ?_ ?_
          · rintro j x σ' H2 H2' hj ⟨ys, t, s0, hy, s2, hL2, rfl⟩ ⟨rfl, hxj⟩
            subst hxj
            walk_at "go"
            refine Gx.ic (.inr (by decide)) ?_
            walk_at "go"
            refine Gx.ic (.inl (by decide)) ?_
            walk_at "go"
            refine Gx.ic (by decide) ?_
            walk_at "go"
            refine Gx.bmS (Gx.tyL (SqL.of hL2)) ?_
            walk_at "go"
            refine Gx.ic ⟨by decide, by decide⟩ ?_
            walk_at "go"
            refine Gx.ic (by decide) ?_
            walk_at "go"
            refine Gx.app hL2 (hz ys (by omega)) ?_
            exact ⟨ys ++ [_], _, _, by rw [List.length_append, List.length_singleton]; omega, Gx.same_up hp s2, Gx.snoc, rfl⟩
          · rintro σ' H' ⟨ys, t, s0, hy, s2, hL2, rfl⟩
            walk_at "go"
            exact ⟨ys, _, _, _, _, by omega, s2, hL2, rfl⟩
    · rintro σ' H' ⟨xs, k, c, t, sd, hx, s1, hL, rfl⟩
      walk_at "go"
      exact q xs p H' hp s1 hL

theorem cp_law_digits {K : PySem.W.Frag} {a : Addr} {ns : List Int} {f l : Int} {H : Hp} {Q : VK} {E : XK} (hs : SqL K H a (ns.map V.int)) (h0 : 0 ≤ f) (h1 : f ≤ l) (h2 : l ≤ 1000)
    (q : ∀ (xs : List Int) (p : Addr) (H' : Hp), H p = none → Same H H' → H' p = some (.lst (xs.map V.int)) → Q (.ref p) H') : Gx.CP (sp_law_digits K) [.ref a, .int f, .int l] [] H Q E :=
  ⟨a, ns, f.toNat, l.toNat, by rw [List.append_nil, Int.toNat_of_nonneg h0, Int.toNat_of_nonneg (Int.le_trans h0 h1)], hs, by omega, by omega, q⟩

/-- what holds between the turns -/
def Inv74 (C : Addr) (H : Hp) (x b p lb lp : Addr) (xs : List Int) (n i cu : Nat) : Prop := ∃ (R : Hp) (s : Dk.St) (k : Nat) (bv pv : List V), Dsk C R H x [(lp, .lst pv), (lb, .lst bv), (b, .lst [.ref p, .int (k : Int)])] s ∧ Dk.Wf n i s ∧ R p = some (.lst (xs.map V.int)) ∧ Dk.BL R bv s.bl ∧ Dk.PL HO.lst R pv s.pe ∧ s.lf = none ∧ s.cu = cu ∧ cu ≤ i

theorem sc_law : FnScope ["script", "box", "size", "disk", "blocks", "k", "pending", "cuts", "turn", "kind", "entry", "torn", "at", "block", "handed", "place", "told", "far"] ["script"] (defScope s_law) := ⟨rfl, rfl, rfl, by decide +kernel, rfl, by decide +kernel, by decide +kernel⟩
theorem ok_law (T : Tx P K mg) : FnOk P w K mg base CX0 9 T.law.a T.law.d ["script"] (spLaw K) := by
  refine T.law.f.ok sc_law (fun vs H Q E h => ?_) (fun cdv A outer s H vs Q E hr h => ⟨_, pss_cons (ps_set (i := 1) sc_law.nd rfl (Or.inl rfl) (pe_lst (pa_cons (pe_call (ok_law_digits T) (hr.mono (by decide)) rfl T.law_digits.g T.law_digits.f.kp T.law_digits.b .nil pass0 (pa_cons (pv 0) (pa_cons (pe_int) (pa_cons (pe_int) pa_nil)))) (pa_cons (pe_int) pa_nil))))
      (pss_cons (ps_set (i := 2) sc_law.nd rfl (Or.inl rfl) (pe_op op_add (pe_int) (pe_call (ok_law_draw T) (hr.mono (by decide)) rfl T.law_draw.g T.law_draw.f.kp T.law_draw.b .nil pass0 (pa_cons (pv 1) (pa_cons (pe_int) pa_nil)))))
      (C8.pss_cut (ps_if (pt_cmpR op_eq (pe_call (ok_law_draw T) (hr.mono (by decide)) rfl T.law_draw.g T.law_draw.f.kp T.law_draw.b .nil pass0 (pa_cons (pv 1) (pa_cons (pe_int) pa_nil))) (pe_int) (nomark _)) (pss_one (ps_set (i := 2) sc_law.nd rfl (Or.inl rfl) (pe_int))) (pss_nil))
      (pss_cons (ps_set (i := 3) sc_law.nd rfl (Or.inl rfl) (pe_make ⟨T.mk_Disk, T.Disk___init__.m.at_, T.Disk___init__.m.fn, T.kp_Disk⟩ (ok_Disk___init__ T) (hr.mono (by decide)) rfl T.g_Disk T.Disk___init__.b .nil passL (pa_cons (pv 2) pa_nil)))
      (pss_cons (ps_setLc (i := 4) (own := [("k", 5)]) (g := (gName 5)) (tt := tYes) rfl sc_law.nd rfl rfl (sw_true rfl rfl rfl (by decide +kernel)) (pi_range1 rfl T.n_range (pa_cons (pv 2) pa_nil)) (blkOk_by (own := [("k", 5)]) (N := ["script", "box", "size", "disk", "blocks", "k", "pending", "cuts", "turn", "kind", "entry", "torn", "at", "block", "handed", "place", "told", "far"]) (sc := defScope s_law) (by decide +kernel)) (fun _ _ _ _ _ => (pg_name (i := 5) sc_law.nd rfl (Or.inl rfl))) (fun _ _ _ _ _ => pts_nil) (fun _ _ _ _ _ => pe_op Gx.o_rep (pe_lst (pa_cons (pe_int) pa_nil)) (pe_int)))
      (pss_cons (ps_set (i := 6) sc_law.nd rfl (Or.inl rfl) (pe_lst pa_nil))
      (pss_cons (ps_set (i := 7) sc_law.nd rfl (Or.inl rfl) (pe_int))
      (pss_cons (ps_for PassesOwn.never rfl (pi_range1 rfl T.n_range (pa_cons (pe_callB (Gx.c_min2 rfl) rfl T.n_min (by decide +kernel) (pa_cons (pe_callB (Gx.c_max2 rfl) rfl T.n_max (by decide +kernel) (pa_cons (pe_int) (pa_cons (pe_op op_sub (pe_callB (Gx.c_lenK (K := K) rfl) rfl T.n_len (by decide +kernel) (pa_cons (pv 0) pa_nil)) (pe_int)) pa_nil))) (pa_cons (pe_int) pa_nil))) pa_nil)) (pg_name (i := 8) sc_law.nd rfl (Or.inl rfl))
      (pss_cons (ps_set (i := 9) sc_law.nd rfl (Or.inl rfl) (pe_call (ok_law_draw T) (hr.mono (by decide)) rfl T.law_draw.g T.law_draw.f.kp T.law_draw.b .nil pass0 (pa_cons (pv 1) (pa_cons (pe_int) pa_nil))))
      (C8.pss_cut (ps_if (pt_cmpR op_eq (pv 9) (pe_int) (nomark _)) (pss_cons (ps_if (pt_cmpR op_notN (pe_meth0 (pv 3) T.cl_Disk T.Disk_flush.m (ok_Disk_flush T) (hr.mono (by decide)) T.Disk_flush.b .nil passL) (pe_non) (nomark _)) (pss_one (ps_ret (pe_bl))) (pss_nil))
      (pss_cons (ps_for PassesOwn.never rfl (pi_list (pv 6)) (pg_name (i := 10) sc_law.nd rfl (Or.inl rfl))
      (pss_one (ps_asg (pe_ix (Gx.ix_seqK (K := K) rfl) (pv 10) (pe_int) (fun _ _ => rfl)) (pg_sub (pv 4) (pe_ix (Gx.ix_seqK (K := K) rfl) (pv 10) (pe_int) (fun _ _ => rfl)) set_list))))
      (pss_one (ps_set (i := 6) sc_law.nd rfl (Or.inl rfl) (pe_lst pa_nil))))) (pss_one (ps_if (pt_cmpR op_eq (pv 9) (pe_int) (nomark _)) (pss_cons (ps_set (i := 11) sc_law.nd rfl (Or.inl rfl) (pe_call (ok_law_torn T) (hr.mono (by decide)) rfl T.law_torn.g T.law_torn.f.kp T.law_torn.b .nil pass0 (pa_cons (pv 1) (pa_cons (pe_call (ok_law_draw T) (hr.mono (by decide)) rfl T.law_draw.g T.law_draw.f.kp T.law_draw.b .nil pass0 (pa_cons (pv 1) (pa_cons (pe_op op_add (pe_callB (Gx.c_lenK (K := K) rfl) rfl T.n_len (by decide +kernel) (pa_cons (pv 6) pa_nil)) (pe_int)) pa_nil))) pa_nil))))
      (pss_cons (ps_if (pt_cmpR op_notN (pe_call (ok_law_call T) (hr.mono (by decide)) rfl T.law_call.g T.law_call.f.kp T.law_call.b .nil pass0 (pa_cons (pv 3) (pa_cons (pe_int) (pa_cons (pe_callTy (Gx.c_listK (K := K) rfl) rfl T.n_list (by decide +kernel) (pa_cons (pv 11) pa_nil)) (pa_cons (pe_int) pa_nil))))) (pe_non) (nomark _)) (pss_one (ps_ret (pe_bl))) (pss_nil))
      (pss_cons (ps_for PassesOwn.never rfl (pi_range1 rfl T.n_range (pa_cons (pe_callB (Gx.c_min2 rfl) rfl T.n_min (by decide +kernel) (pa_cons (pe_callB (Gx.c_lenK (K := K) rfl) rfl T.n_len (by decide +kernel) (pa_cons (pv 11) pa_nil)) (pa_cons (pe_callB (Gx.c_lenK (K := K) rfl) rfl T.n_len (by decide +kernel) (pa_cons (pv 6) pa_nil)) pa_nil))) pa_nil)) (pg_name (i := 5) sc_law.nd rfl (Or.inl rfl))
      (pss_cons (ps_set (i := 12) sc_law.nd rfl (Or.inl rfl) (pe_ix (Gx.ix_seqK (K := K) rfl) (pe_ix (Gx.ix_seqK (K := K) rfl) (pv 6) (pv 5) (fun _ _ => rfl)) (pe_int) (fun _ _ => rfl)))
      (pss_one (ps_asg (pe_op op_cat (pe_slice (Gx.sl_listK (K := K) rfl) (pe_ix (Gx.ix_seqK (K := K) rfl) (pe_ix (Gx.ix_seqK (K := K) rfl) (pv 6) (pv 5) (fun _ _ => rfl)) (pe_int) (fun _ _ => rfl)) po_none (po_some (pe_ix (Gx.ix_seqK (K := K) rfl) (pv 11) (pv 5) (fun _ _ => rfl)))) (pe_slice (Gx.sl_listK (K := K) rfl) (pe_ix (Gx.ix_seqK (K := K) rfl) (pv 4) (pv 12) (fun _ _ => rfl)) (po_some (pe_ix (Gx.ix_seqK (K := K) rfl) (pv 11) (pv 5) (fun _ _ => rfl))) po_none)) (pg_sub (pv 4) (pv 12) set_list)))))
      (pss_cons (ps_set (i := 6) sc_law.nd rfl (Or.inl rfl) (pe_lst pa_nil))
      (pss_one (ps_set (i := 7) sc_law.nd rfl (Or.inl rfl) (pe_op op_add (pv 7) (pe_int)))))))) (pss_one (ps_if (pt_cmpR op_eq (pv 9) (pe_int) (nomark _)) (pss_one (ps_if (pt_not (pt_val (pe_call (ok_law_wrong T) (hr.mono (by decide)) rfl T.law_wrong.g T.law_wrong.f.kp T.law_wrong.b .nil pass0 (pa_cons (pv 1) (pa_cons (pv 3) (pa_cons (pv 2) pa_nil)))))) (pss_one (ps_ret (pe_bl))) (pss_nil))) (pss_cons (ps_set (i := 12) sc_law.nd rfl (Or.inl rfl) (pe_call (ok_law_draw T) (hr.mono (by decide)) rfl T.law_draw.g T.law_draw.f.kp T.law_draw.b .nil pass0 (pa_cons (pv 1) (pa_cons (pv 2) pa_nil))))
      (pss_cons (ps_set (i := 13) sc_law.nd rfl (Or.inl rfl) (pe_call (ok_law_block T) (hr.mono (by decide)) rfl T.law_block.g T.law_block.f.kp T.law_block.b .nil pass0 (pa_cons (pv 1) pa_nil)))
      (pss_cons (ps_set (i := 14) sc_law.nd rfl (Or.inl rfl) (pe_callTy (Gx.c_listK (K := K) rfl) rfl T.n_list (by decide +kernel) (pa_cons (pv 13) pa_nil)))
      (pss_cons (ps_if (PW.pt (pw_or (pt_cmpR op_notN (pe_call (ok_law_call T) (hr.mono (by decide)) rfl T.law_call.g T.law_call.f.kp T.law_call.b .nil pass0 (pa_cons (pv 3) (pa_cons (pe_int) (pa_cons (pv 12) (pa_cons (pv 14) pa_nil))))) (pe_non) (nomark _)) (pw_or1 (pt_cmpR (op_neD hr.units) (pv 14) (pv 13) (nomark _))))) (pss_one (ps_ret (pe_bl))) (pss_nil))
      (pss_cons (ps_asg (pe_op op_sub (pe_int) (pe_ix (Gx.ix_seqK (K := K) rfl) (pv 14) (pe_int) (fun _ _ => rfl))) (pg_sub (pv 14) (pe_int) set_list))
      (pss_one (ps_expr (pe_bm PySem.F.plainAttrs_list PySem.F.slot_list_append PySem.F.type_list_append mt_append (pv 6) (pa_cons (pe_lst (pa_cons (pv 12) (pa_cons (pv 13) pa_nil))) pa_nil))))))))))))))
      (pss_cons (ps_set (i := 12) sc_law.nd rfl (Or.inl rfl) (pe_call (ok_law_draw T) (hr.mono (by decide)) rfl T.law_draw.g T.law_draw.f.kp T.law_draw.b .nil pass0 (pa_cons (pv 1) (pa_cons (pv 2) pa_nil))))
      (pss_cons (ps_for PassesOwn.never rfl (pi_list (pe_lst (pa_cons (pe_int) (pa_cons (pv 12) (pa_cons (pe_op op_sub (pv 2) (pe_int)) pa_nil))))) (pg_name (i := 15) sc_law.nd rfl (Or.inl rfl))
      (pss_cons (ps_set (i := 16) sc_law.nd rfl (Or.inl rfl) (pe_meth (pv 3) T.cl_Disk T.Disk_read.m (ok_Disk_read T) (hr.mono (by decide)) T.Disk_read.b .nil passL (pa_cons (pv 15) pa_nil)))
      (pss_cons (ps_if (PW.pt (pw_or (pt_not (pt_val (pe_callB (Gx.c_isiK (K := K) rfl) rfl T.n_isinstance (by decide +kernel) (pa_cons (pv 16) (pa_cons (pe_bltn (v := .ty "list") rfl T.n_list (by decide +kernel) rfl) pa_nil))))) (pw_or1 (pt_cmpR (op_neD hr.units) (pv 16) (pe_call (ok_law_read T) (hr.mono (by decide)) rfl T.law_read.g T.law_read.f.kp T.law_read.b .nil pass0 (pa_cons (pv 4) (pa_cons (pv 6) (pa_cons (pv 15) pa_nil)))) (nomark _))))) (pss_one (ps_ret (pe_bl))) (pss_nil))
      (pss_one (ps_asg (pe_int) (pg_sub (pv 16) (pe_int) set_list))))))
      (pss_one (ps_if (PW.pt (pw_or (pt_cmpR op_ne (pe_meth0 (pv 3) T.cl_Disk T.Disk_pending_count.m (ok_Disk_pending_count T) (hr.mono (by decide)) T.Disk_pending_count.b .nil pass0) (pe_callB (Gx.c_lenK (K := K) rfl) rfl T.n_len (by decide +kernel) (pa_cons (pv 6) pa_nil)) (nomark _)) (pw_or (pt_cmpR op_ne (pe_meth0 (pv 3) T.cl_Disk T.Disk_cut_count.m (ok_Disk_cut_count T) (hr.mono (by decide)) T.Disk_cut_count.b .nil pass0) (pv 7) (nomark _)) (pw_or1 (pt_cmpR op_ne (pe_meth0 (pv 3) T.cl_Disk T.Disk_size.m (ok_Disk_size T) (hr.mono (by decide)) T.Disk_size.b .nil pass0) (pv 2) (nomark _)))))) (pss_one (ps_ret (pe_bl))) (pss_nil))))))))
      (pss_cons (ps_set (i := 17) sc_law.nd rfl (Or.inl rfl) (pe_call (ok_law_draw T) (hr.mono (by decide)) rfl T.law_draw.g T.law_draw.f.kp T.law_draw.b .nil pass0 (pa_cons (pv 1) (pa_cons (pe_int) pa_nil))))
      (pss_one (ps_ret (pe_and (pe_cmpR op_eq (pe_call (ok_law_refusal T) (hr.mono (by decide)) rfl T.law_refusal.g T.law_refusal.f.kp T.law_refusal.b .nil pass0 (pa_cons (pe_op op_sub (pe_int) (pv 17)) pa_nil)) (pe_str) (nomark _)) (pe_and (pe_cmpR op_eq (pe_call (ok_law_refusal T) (hr.mono (by decide)) rfl T.law_refusal.g T.law_refusal.f.kp T.law_refusal.b .nil pass0 (pa_cons (pe_op op_add (pe_int) (pv 17)) pa_nil)) (pe_str) (nomark _)) (pe_one (pe_cmpR op_eq (pe_call (ok_law_refusal T) (hr.mono (by decide)) rfl T.law_refusal.g T.law_refusal.f.kp T.law_refusal.b .nil pass0 (pa_cons (pe_int) pa_nil)) (pe_str) (nomark _))))))))))))))), ?_⟩)
  · obtain ⟨a, ns, rfl, _⟩ := h
    rfl
  · skip
    obtain ⟨a, ns, rfl, hs, hlen, hbits, q⟩ := h
    walk_at "run"
    refine cp_law_digits hs (by decide) (by decide) (by decide) fun xs p H1 np s1 hd => ?_
    walk_at "run"
    refine Nx.lst0 (by show 2 ≤ sizeLine; decide) fun b H2 nb s2 hb => ?_
    have hb : H2 b = some (.lst [.ref p, .int ((0 : Nat) : Int)]) := hb
    obtain ⟨R2, hv2, sR2⟩ := (Mv.Hv.nil (H := H1)).more nb s2 hb
    have hp2 := sR2 _ _ hd
    have hs := (s1.trans sR2).seq hs
    clear s1 s2 hb nb np hd
    walk_at "run"
    refine drV (l1 := []) hv2 hp2 (by decide) fun r0 k0 H3 hr0 hv3 => ?_
    walk_at "run"
    refine Gx.cut (fun σ' H' => ∃ (n k : Nat), 4 ≤ n ∧ n ≤ 400 ∧ Mv.Hv R2 H' [(b, .lst [.ref p, .int (k : Int)])] ∧ σ' = [some (.ref a), some (.ref b), some (.int (n : Int)), none, none, none, none, none, none, none, none, none, none, none, none, none, none, none]) ?_ ?_
    · walk_at "run"
      refine drV (l1 := []) hv3 hp2 (by decide) fun r1 k1 H4 hr1 hv4 => ?_
      walk_at "run"
      refine Gx.if_d (fun e => ?_) (fun e => ?_)
      · walk_at "run"
        exact ⟨400, k1, by decide, by decide, hv4, rfl⟩
      · walk_at "run"
        exact ⟨4 + r0, k1, by omega, by omega, hv4, rfl⟩
    clear hv3 hv2
    rintro σ' H3 ⟨n, k0, hn1, hn2, hv3, rfl⟩
    walk_at "run"
    refine mk_Disk hv3 hn1 hn2 fun x R4 H4 sR4 ds => ?_
    have hp4 := sR4 _ _ hp2
    have hs := sR4.seq hs
    clear hv3 sR4 hp2
    walk_at "run"
    refine Gx.r1 (by omega) (by omega) ?_
    rw [Int.toNat_natCast]
    refine Pq.lcLN (K := K) walk_range (by omega) (fun _ => Dk.zs) (fun _ _ => trivial) Gx.sameFn ?_ ?_
    · rintro i y H3 H3' R R0 hi s3 ⟨rfl, hy⟩ hr2
      walk_at "run"
      refine Nx.lst0 (by show 1 ≤ sizeLine; decide) fun p1 H4 n4 s4 h4 => ?_
      refine Nx.repN0 (n := 32) h4 (by decide) fun p2 H5 n5 s5 h5 => ?_
      exact hr2 p2 _ (s4.free n5) (s4.trans s5) (by rw [h5]; unfold Dk.zs; rw [List.map_replicate])
    intro lb H5 nlb s5 ll
    obtain ⟨bv, hbv⟩ : ∃ vs, H5 lb = some (.lst vs) := by obtain ⟨ps, e, _⟩ := id ll; exact ⟨_, e⟩
    obtain ⟨R5, ds, sR5, gR5⟩ := ds.more nlb s5 hbv
    obtain ⟨bv', e1, hB⟩ := Dk.BL.ofLN (R := R5) (bs := (Dk.s0 n).bl) ll (by show (List.replicate n Dk.zs).length = n; simp) (fun j hj => by show _ = (List.replicate n Dk.zs).getD j []; rw [List.getD_eq_getElem?_getD, List.getElem?_replicate, if_pos hj]; rfl) fun a o h1 h2 h3 => gR5 a o h2 h1 h3
    obtain rfl : bv = bv' := by rw [hbv] at e1; injection e1 with e1; injection e1
    have hp5 := sR5 _ _ hp4
    have hs := sR5.seq hs
    clear ll s5 e1 gR5 sR5 hp4 hbv nlb
    walk_at "run"
    refine Nx.lst0 (by show 0 ≤ sizeLine; decide) fun lp H6 nlp s6 hlp => ?_
    obtain ⟨R6, ds, sR6, _⟩ := ds.more nlp s6 hlp
    have hp6 := sR6 _ _ hp5
    have hB := hB.keep sR6
    have hs := ds.same.seq (sR6.seq hs)
    have I0 : Inv74 T.a_Disk H6 x b p lb lp xs n 0 0 := ⟨R6, Dk.s0 n, k0, bv, [], ds, Dk.wf0 hn1 (by omega), hp6, hB, Dk.PL.nil, rfl, rfl, Nat.zero_le _⟩
    clear s6 sR6 hp5 hlp nlp ds hB hp6
    walk_at "run"
    refine Gx.lenL hs ?_
    rw [List.length_map]
    walk_at "run"
    refine Gx.max2 ?_
    obtain ⟨M1, hM1, hM2⟩ : ∃ N : Nat, (if ((ns.length : Nat) : Int) - 4 > 0 then ((ns.length : Nat) : Int) - 4 else 0) = (N : Int) ∧ N ≤ 63 := by
      by_cases e : ((ns.length : Nat) : Int) - 4 > 0
      · exact ⟨ns.length - 4, by rw [if_pos e]; omega, by omega⟩
      · exact ⟨0, by rw [if_neg e]; rfl, by omega⟩
    rw [hM1]
    walk_at "run"
    refine Gx.min2 ?_
    obtain ⟨N, hN, hN2⟩ : ∃ N : Nat, (if (40 : Int) < ((M1 : Nat) : Int) then (40 : Int) else ((M1 : Nat) : Int)) = (N : Int) ∧ N ≤ 40 := by
      by_cases e : (40 : Int) < ((M1 : Nat) : Int)
      · exact ⟨40, by rw [if_pos e]; rfl, by omega⟩
      · exact ⟨M1, by rw [if_neg e], by omega⟩
    rw [hN]
    walk_at "run"
    refine Gx.r1 (by omega) (by omega) ?_
    rw [Int.toNat_natCast]
    refine Gx.fw walk_range (fun i σ' H' => ∃ (lp : Addr) (cu : Nat) (v5 v8 v9 v10 v11 v12 v13 v14 v15 v16 v17 : Option V), Inv74 T.a_Disk H' x b p lb lp xs n i cu ∧ σ' = [some (.ref a), some (.ref b), some (.int (n : Int)), some (.ref x), some (.ref lb), v5, some (.ref lp), some (.int (cu : Int)), v8, v9, v10, v11, v12, v13, v14, v15, v16, v17]) ⟨lp, 0, none, none, none, none, none, none, none, none, none, none, none, I0, rfl⟩ (fun _ _ _ _ _ => trivial) ?_ ?_
    · clear I0
      rintro i y σ' H8 H8' hi ⟨lp, cu, v5, v8, v9, v10, v11, v12, v13, v14, v15, v16, v17, I, rfl⟩ ⟨rfl, hy⟩
      have hy2 : y = .int (i : Int) := hy.trans (congrArg V.int (by omega))
      subst hy2
      have hi : i < 40 := by omega
      obtain ⟨R, s, k, bv, pv, ds, w, hp, hB, hP, hl, hcu, hcl⟩ := I
      have nl0 : s.lf ≠ some 0 := by rw [hl]; exact fun z => nomatch z
      have huse : s.use = s := by
        unfold Dk.St.use
        rw [hl]
        show (⟨s.bl, s.pe, s.cu, none, s.tn⟩ : Dk.St) = s
        rw [← hl]
      walk_at "run"
      refine drD (l1 := [_, _]) ds hp (by decide) fun kd k1 H9 hkd ds => ?_
      walk_at "run"
      refine Gx.cut (fun σ' H' => ∃ (lp : Addr) (cu : Nat) (v5 v8 v9 v10 v11 v12 v13 v14 v15 v16 v17 : Option V), Inv74 T.a_Disk H' x b p lb lp xs n (i + 1) cu ∧ σ' = [some (.ref a), some (.ref b), some (.int (n : Int)), some (.ref x), some (.ref lb), v5, some (.ref lp), some (.int (cu : Int)), v8, v9, v10, v11, v12, v13, v14, v15, v16, v17]) ?_ ?_
      · walk_at "run"
        refine Gx.if_d (fun e0 => ?_) (fun e0 => ?_)
        · walk_at "run"
          obtain ⟨_, _, _, _, hx⟩ := ds.ins
          refine Gx.mp hx no_Disk_flush ?_
          walk_at "run"
          refine cp_Disk_flush ds w (by omega) (by omega) nl0 fun R13 H13 sR13 ds => ?_
          rw [huse] at ds
          have hp := sR13 _ _ hp
          have hB := hB.keep sR13
          have hP := hP.keep sR13
          walk_at "run"
          refine Gx.lp (SqL.of (ds.on (List.mem_cons_self ..))) ?_
          have hpl := hP.1
          refine Gx.fw (walk_list (xs := pv)) (fun j σ' H' => ∃ (bv' : List V) (v10 : Option V), Dsk T.a_Disk R13 H' x [(lp, .lst pv), (lb, .lst bv'), (b, .lst [.ref p, .int (k1 : Int)])] s.flush ∧ Dk.BL R13 bv' (Dk.flB s.bl (s.pe.take j)) ∧ σ' = [some (.ref a), some (.ref b), some (.int (n : Int)), some (.ref x), some (.ref lb), v5, some (.ref lp), some (.int (cu : Int)), some (.int (i : Int)), some (.int (kd : Int)), v10, v11, v12, v13, v14, v15, v16, v17]) ⟨bv, v10, ds, hB, rfl⟩ (fun j σ' H' _ ⟨_, _, ds, _⟩ => SqL.of (ds.on (List.mem_cons_self ..))) ?_ ?_
          · clear ds hB
            rintro j y σ' H14 H14' hj ⟨bv', v10, ds, hB, rfl⟩ ⟨rfl, hy⟩
            obtain ⟨te, aq, e, rfl, he, h1, h2⟩ := hP.2 j y hy
            have htk' : s.pe.take (j + 1) = s.pe.take j ++ [e] := by rw [List.take_add_one, he]; rfl
            obtain ⟨g1, g2⟩ := w.pb e (List.mem_of_getElem? he)
            rw [htk', Dk.flB_app]
            have hcn : (Dk.flB s.bl (s.pe.take j)).length = n := Dk.flB_len.trans w.bn
            generalize Dk.flB s.bl (s.pe.take j) = bs at *
            obtain ⟨at', bq⟩ := e
            dsimp only at *
            have h1 := ds.same _ _ h1
            have hlb := ds.on (a := lb) (o := .lst bv') (by simp)
            have hlv : bv'.length = n := hB.1.trans hcn
            walk_at "run"
            refine Gx.setL (j := at') hlb (Dk.ixN_nat (by omega)) ?_
            exact ⟨_, _, ds.put (l1 := [_]), hB.set h2, rfl⟩
          clear ds hB
          rintro σ' H14 ⟨bv', v10, ds, hB, rfl⟩
          rw [List.take_of_length_le (by omega)] at hB
          walk_at "run"
          refine Nx.lst0 (by show 0 ≤ sizeLine; decide) fun lq HP nlq sP hlq => ?_
          obtain ⟨RP, dsP, sRP, _⟩ := ds.more nlq sP hlq
          obtain ⟨RQ, ds, sRQ, _⟩ := (dsP.perm (.swap _ _ _)).less
          have sRP := sRP.trans sRQ
          exact ⟨lq, cu, _, _, _, _, _, _, _, _, _, _, _, ⟨RQ, s.flush, _, bv', [], ds, w.flush.mono (Nat.zero_le _), sRP _ _ hp, hB.keep sRP, Dk.PL.nil, hl, hcu, by omega⟩, rfl⟩
        walk_at "run"
        refine Gx.if_d (fun e1 => ?_) (fun e1 => ?_)
        · walk_at "run"
          refine Gx.lenL (SqL.of (ds.on (List.mem_cons_self ..))) ?_
          rw [hP.1]
          have hpm := w.pn
          walk_at "run"
          refine drD (l1 := [_, _]) ds hp (by omega) fun mm k2 H10 hmm ds => ?_
          walk_at "run"
          refine cpD_law_torn (l1 := [_, _]) (m := mm) ds hp (by omega) fun tq k3 t R11 H11 sR11 ds htq tk tl => ?_
          have hp := sR11 _ _ hp
          have hB := hB.keep sR11
          have hP := hP.keep sR11
          walk_at "run"
          refine Nx.listL0 (SqL.of (ds.same _ _ htq)) fun hd H12 nhd s12 hhd => ?_
          obtain ⟨R12, ds, sR12, gR12⟩ := ds.grow s12
          have hhd := gR12 _ _ nhd hhd
          have hp := sR12 _ _ hp
          have hB := hB.keep sR12
          have hP := hP.keep sR12
          have htq := sR12 _ _ htq
          walk_at "run"
          refine cp_law_call ds w (by omega) (by omega) hl (.inr (.inl ⟨hd, t, rfl, rfl, hhd, by omega, fun g => absurd tk g, fun _ R13 H13 sR13 ds => ?_⟩))
          have hp := sR13 _ _ hp
          have hB := hB.keep sR13
          have hP := hP.keep sR13
          have htq := sR13 _ _ htq
          walk_at "run"
          refine Gx.lenL (SqL.of (ds.same _ _ htq)) ?_
          rw [List.length_map]
          walk_at "run"
          refine Gx.lenL (SqL.of (ds.on (List.mem_cons_self ..))) ?_
          rw [hP.1]
          walk_at "run"
          refine Gx.min2 ?_
          obtain ⟨mn, hmn, hmn2⟩ : ∃ mn : Nat, (if ((s.pe.length : Nat) : Int) < ((t.length : Nat) : Int) then ((s.pe.length : Nat) : Int) else ((t.length : Nat) : Int)) = (mn : Int) ∧ mn = min t.length s.pe.length := by
            by_cases e : ((s.pe.length : Nat) : Int) < ((t.length : Nat) : Int)
            · exact ⟨s.pe.length, if_pos e, by omega⟩
            · exact ⟨t.length, if_neg e, by omega⟩
          rw [hmn]
          walk_at "run"
          refine Gx.r1 (by omega) (by omega) ?_
          rw [Int.toNat_natCast]
          have hbn : s.bl.length = n := w.bn
          refine Gx.fw walk_range (fun j σ' H' => ∃ (R' : Hp) (bv' : List V) (v5 v12 : Option V), Dsk T.a_Disk R' H' x [(lp, .lst pv), (lb, .lst bv'), (b, .lst [.ref p, .int (k3 : Int)])] (s.cut t) ∧ Same R13 R' ∧ Dk.BL R' bv' (Dk.cutS t s.bl (s.pe.take j)) ∧ σ' = [some (.ref a), some (.ref b), some (.int (n : Int)), some (.ref x), some (.ref lb), v5, some (.ref lp), some (.int (cu : Int)), some (.int (i : Int)), some (.int (kd : Int)), v10, some (.ref tq), v12, v13, v14, v15, v16, v17]) ⟨R13, bv, v5, v12, ds, Same.refl _, hB, rfl⟩ (fun _ _ _ _ _ => trivial) ?_ ?_
          · clear ds hB
            rintro j y σ' H14 H14' hj ⟨R14, bv', v5, v12, ds, sR14, hB, rfl⟩ ⟨rfl, hy⟩
            have hy2 : y = .int (j : Int) := hy.trans (congrArg V.int (by omega))
            subst hy2
            have hjp : j < s.pe.length := by omega
            have hjt : j < t.length := by omega
            obtain ⟨te, aq, e, hpv, he, h1, h2⟩ := hP.get hjp
            have h1 := ds.same _ _ (sR14 _ _ h1)
            have h2 := sR14 _ _ h2
            have h2' := ds.same _ _ h2
            have ht' := ds.same _ _ (sR14 _ _ htq)
            have htk' : s.pe.take (j + 1) = s.pe.take j ++ [e] := by rw [List.take_add_one, he]; rfl
            obtain ⟨g1, g2⟩ := w.pb e (List.mem_of_getElem? he)
            have hcn : (Dk.cutS t s.bl (s.pe.take j)).length = n := Dk.cutS_len.trans hbn
            have hck := Dk.cutS_ok (tn := t) hbn w.bb (fun e he => w.pb e (List.mem_of_mem_take he : e ∈ s.pe)) (pe := s.pe.take j)
            rw [htk', Dk.cutS_app, List.length_take, Nat.min_eq_left (by omega)]
            generalize Dk.cutS t s.bl (s.pe.take j) = bs at *
            obtain ⟨at', bq⟩ := e
            dsimp only at *
            have hcr := tk _ (Gd.getD_mem hjt)
            obtain ⟨ck, hckv⟩ : ∃ ck : Nat, t.getD j 0 = (ck : Int) := ⟨(t.getD j 0).toNat, by omega⟩
            rw [hckv] at hcr ⊢
            have hlp := ds.on (List.mem_cons_self ..)
            have hlb := ds.on (a := lb) (o := .lst bv') (by simp)
            obtain ⟨ba, hba, hbv⟩ := hB.get (i := at') (by omega)
            have hbv := ds.same _ _ hbv
            have hbq := Dk.getD_ok (i := at') hck (by omega)
            have hlv : bv'.length = n := hB.1.trans hcn
            walk_at "run"
            refine Gx.ixL (SqL.of hlp) (atI_nat hpv) ?_
            walk_at "run"
            refine Gx.ixL (SqL.of hlp) (atI_nat hpv) ?_
            walk_at "run"
            refine Gx.ixL (SqL.of ht') (Gx.at_map hjt) ?_
            rw [hckv]
            walk_at "run"
            refine Nx.slL0 (SqL.of h2') fun p6 H6 n6 s6 h6 => ?_
            rw [Dk.cutTo (bq.map V.int) ck (by rw [List.length_map, g2.1]; omega)] at h6
            walk_at "run"
            refine Gx.ixL (SqL.of (s6 _ _ hlb)) (atI_nat hba) ?_
            walk_at "run"
            refine Gx.ixL (SqL.of (s6 _ _ ht')) (Gx.at_map hjt) ?_
            rw [hckv]
            walk_at "run"
            refine Nx.slL0 (SqL.of (s6 _ _ hbv)) fun p7 H7 n7 s7 h7 => ?_
            rw [Dk.cutFrom ((bs.getD at' []).map V.int) ck (by rw [List.length_map, hbq.1]; omega)] at h7
            walk_at "run"
            refine Nx.cat0 (s7 _ _ h6) h7 (by rw [List.length_take, List.length_drop, List.length_map, List.length_map, g2.1, hbq.1, sizeLine_eq]; omega) fun p8 H8 n8 s8 h8 => ?_
            rw [← List.map_take, ← List.map_drop, ← List.map_append] at h8
            have sB := s6.trans (s7.trans s8)
            obtain ⟨R8, ds8, sR8, gR8⟩ := ds.grow sB
            have hp8 : R8 p8 = some (.lst ((Dk.tear (ck : Int) bq (bs.getD at' [])).map V.int)) := by
              rw [gR8 _ _ ((s6.trans s7).free n8) h8]
              unfold Dk.tear
              rw [Int.toNat_natCast]
            walk_at "run"
            refine Gx.setL (j := at') (ds8.on (a := lb) (o := .lst bv') (by simp)) (Dk.ixN_nat (by omega)) ?_
            exact ⟨R8, _, _, _, ds8.put (l1 := [_]), sR14.trans sR8, (hB.keep sR8).set hp8, rfl⟩
          clear ds hB
          rintro σ' H14 ⟨R14, bv', v5, v12, ds, sR14, hB, rfl⟩
          rw [hmn2, Dk.cutS_min hbn (fun e he => (w.pb e he).1)] at hB
          walk_at "run"
          refine Nx.lst0 (by show 0 ≤ sizeLine; decide) fun lq HP nlq sP hlq => ?_
          obtain ⟨RP, dsP, sRP, _⟩ := ds.more nlq sP hlq
          obtain ⟨RQ, ds, sRQ, _⟩ := (dsP.perm (.swap _ _ _)).less
          have sRP := sRP.trans sRQ
          walk_at "run"
          have sA := sR14.trans sRP
          exact ⟨lq, cu + 1, _, _, _, _, _, _, _, _, _, _, _, ⟨RQ, s.cut t, _, bv', [], ds, w.cut.mono (Nat.zero_le _), sA _ _ hp, hB.keep sRP, Dk.PL.nil, rfl, by show s.cu + 1 = _; omega, by omega⟩, rfl⟩
        walk_at "run"
        refine Gx.if_d (fun e2 => ?_) (fun e2 => ?_)
        · walk_at "run"
          refine cp_law_wrong (l1 := [_, _]) ds w (by omega) (by omega) hl hp fun k2 R11 H11 sR11 ds => ?_
          walk_at "lit"
          exact ⟨lp, cu, _, _, _, _, _, _, _, _, _, _, _, ⟨R11, s, _, bv, pv, ds, w.mono (Nat.le_succ i), sR11 _ _ hp, hB.keep sR11, hP.keep sR11, hl, hcu, by omega⟩, rfl⟩
        walk_at "run"
        refine drD (l1 := [_, _]) ds hp (by omega) fun z k2 H10 hz ds => ?_
        walk_at "run"
        refine cpD_law_block (l1 := [_, _]) ds hp fun tq k3 t R11 H11 sR11 ds htq bok => ?_
        have hp := sR11 _ _ hp
        have hB := hB.keep sR11
        have hP := hP.keep sR11
        walk_at "run"
        refine Nx.listL0 (SqL.of (ds.same _ _ htq)) fun hd H12 nhd s12 hhd => ?_
        obtain ⟨R12, ds, sR12, _⟩ := ds.more nhd s12 hhd
        have hp := sR12 _ _ hp
        have hB := hB.keep sR12
        have hP := hP.keep sR12
        have htq := sR12 _ _ htq
        walk_at "run"
        refine cp_law_call ds w (by omega) (by omega) hl (.inl ⟨(z : Int), hd, t, rfl, rfl, rfl, .inr (List.mem_cons_self ..), fun f => absurd ⟨by omega, hz⟩ f, fun _ => ⟨fun g => absurd bok g, fun _ R13 H13 sR13 ds => ?_⟩⟩)
        rw [Int.toNat_natCast] at ds
        have hp := sR13 _ _ hp
        have hB := hB.keep sR13
        have hP := hP.keep sR13
        have htq := sR13 _ _ htq
        have hhd := ds.on (List.mem_cons_self ..)
        walk_at "run"
        refine Gx.neDI (SqL.of hhd) (SqL.of (ds.same _ _ htq)) ?_
        rw [decide_eq_true rfl]
        walk_at "lit"
        have hbl := bok.1
        refine Gx.ixL (SqL.of hhd) (Gx.at_map (show 1 < t.length by omega)) ?_
        walk_at "run"
        refine Gx.setL (j := 0) hhd (by rw [List.length_map, hbl]; rfl) ?_
        have ds := ds.put (l1 := []) (o' := .lst ((t.map V.int).set 0 (.int (77 - t.getD 1 0))))
        generalize upd H13 hd (.lst ((t.map V.int).set 0 (.int (77 - t.getD 1 0)))) = H14 at ds ⊢
        obtain ⟨R14, ds, sR14, _⟩ := Dsk.less ds
        have hp := sR14 _ _ hp
        have hB := hB.keep sR14
        have hP := hP.keep sR14
        have htq := sR14 _ _ htq
        walk_at "run"
        refine Gx.bmS (Gx.tyL (SqL.of (ds.on (List.mem_cons_self ..)))) ?_
        walk_at "run"
        refine Nx.lst0 (by show 2 ≤ sizeLine; decide) fun pe H15 n15 s15 h15 => ?_
        obtain ⟨R15, ds, sR15, gR15⟩ := ds.grow s15
        have hpl := hP.1
        have hpm := w.pn
        walk_at "run"
        refine Gx.app (ds.on (List.mem_cons_self ..)) (by rw [sizeLine_eq]; omega) ?_
        exact ⟨lp, cu, _, _, _, _, _, _, _, _, _, _, _, ⟨R15, s.write z t, _, bv, _, ds.put (l1 := []), w.write (by omega) bok, sR15 _ _ hp, hB.keep sR15, (hP.keep sR15).snoc (e := (z, t)) (gR15 _ _ n15 h15) (sR15 _ _ htq), hl, hcu, by omega⟩, rfl⟩
      clear hl hcl hcu hP hB hp w ds nl0 huse
      rintro σ' H10 ⟨lp, cu, v5, v8, v9, v10, v11, v12, v13, v14, v15, v16, v17, I, rfl⟩
      obtain ⟨R, s, k, bv, pv, ds, w, hp, hB, hP, hl, hcu, hcl⟩ := I
      have hbn := w.bn
      have hpm := w.pn
      walk_at "run"
      refine drD (l1 := [_, _]) ds hp (by omega) fun z k2 H10 hz ds => ?_
      walk_at "run"
      refine Nx.lst0 (by show 3 ≤ sizeLine; decide) fun pc H12 n12 s12 h12 => ?_
      have h12 : H12 pc = some (.lst (([0, z, n - 1] : List Nat).map fun j : Nat => V.int (j : Int))) := by rw [h12]; show some (HO.lst [V.int 0, V.int (z : Int), V.int ((n : Int) - 1)]) = some (HO.lst [V.int 0, V.int (z : Int), V.int ((n - 1 : Nat) : Int)]); rw [show ((n - 1 : Nat) : Int) = (n : Int) - 1 by omega]
      obtain ⟨R12, ds, sR12, gR12⟩ := ds.grow s12
      have hpc := gR12 _ _ n12 h12
      have hp := sR12 _ _ hp
      have hB := hB.keep sR12
      have hP := hP.keep sR12
      have hcs : ∀ j ∈ ([0, z, n - 1] : List Nat), j < n := fun j hj => by
        simp only [List.mem_cons, List.not_mem_nil, or_false] at hj
        omega
      generalize ([0, z, n - 1] : List Nat) = cs at hpc hcs
      clear s12 h12 n12 gR12 sR12
      walk_at "run"
      refine Gx.lp (SqL.of (ds.same _ _ hpc)) ?_
      refine Gx.fw (walk_list (xs := cs.map fun j : Nat => V.int (j : Int))) (fun j σ' H' => ∃ (R' : Hp) (v15 v16 : Option V), Dsk T.a_Disk R' H' x [(lp, .lst pv), (lb, .lst bv), (b, .lst [.ref p, .int (k2 : Int)])] s ∧ Same R12 R' ∧ σ' = [some (.ref a), some (.ref b), some (.int (n : Int)), some (.ref x), some (.ref lb), v5, some (.ref lp), some (.int (cu : Int)), v8, v9, v10, v11, some (.int (z : Int)), v13, v14, v15, v16, v17]) ⟨R12, _, _, ds, Same.refl _, rfl⟩ (fun j σ' H' _ ⟨_, _, _, ds, s', _⟩ => SqL.of (ds.same _ _ (s' _ _ hpc))) ?_ ?_
      · clear ds
        rintro j y σ' H14 H14' hj ⟨R14, v15, v16, ds, sR14, rfl⟩ ⟨rfl, hy⟩
        rw [List.length_map] at hj
        rw [List.getElem?_map, List.getElem?_eq_getElem hj] at hy
        have hy := Option.some.inj hy
        subst hy
        have hjn := hcs _ (List.getElem_mem hj)
        generalize cs[j] = pl at *
        have hB := hB.keep sR14
        have hP := hP.keep sR14
        obtain ⟨_, _, _, _, hx⟩ := ds.ins
        walk_at "run"
        refine Gx.mp hx no_Disk_read ?_
        walk_at "run"
        refine cp_Disk_read ds w (by omega) hjn fun p15 H15 n15 s15 h15 => ?_
        obtain ⟨R15, ds, sR15, _⟩ := ds.more n15 s15 h15
        have hB := hB.keep sR15
        have hP := hP.keep sR15
        have h15 := ds.on (List.mem_cons_self ..)
        walk_at "run"
        refine Mv.isiLst h15 ?_
        walk_at "lit"
        refine cp_law_read ds.same (ds.on (a := lb) (o := .lst bv) (by simp)) (ds.on (a := lp) (o := .lst pv) (by simp)) hB hP (by omega) (by omega) fun f hf => ?_
        walk_at "run"
        refine Gx.neDI (SqL.of h15) (SqL.of (ds.same _ _ hf)) ?_
        rw [decide_eq_true rfl]
        walk_at "lit"
        have hrl := (Dk.rd_ok w hjn).1
        refine Gx.setL (j := 0) h15 (by rw [List.length_map, hrl]; rfl) ?_
        have ds := ds.put (l1 := []) (o' := .lst (((Dk.rd s pl).map V.int).set 0 (.int 1)))
        obtain ⟨R16, ds, sR16, _⟩ := Dsk.less ds
        exact ⟨R16, _, _, ds, sR14.trans (sR15.trans sR16), rfl⟩
      clear ds
      rintro σ' H14 ⟨R14, v15, v16, ds, sR14, rfl⟩
      have hp := sR14 _ _ hp
      have hB := hB.keep sR14
      have hP := hP.keep sR14
      obtain ⟨_, _, _, _, hx⟩ := ds.ins
      walk_at "run"
      refine Gx.mp hx no_Disk_pending_count ?_
      walk_at "run"
      refine cp_Disk_pending_count ds ?_
      walk_at "run"
      refine Gx.lenL (SqL.of (ds.on (List.mem_cons_self ..))) ?_
      rw [hP.1]
      walk_at "run"
      rw [decide_eq_true rfl]
      walk_at "lit"
      refine Gx.mp hx no_Disk_cut_count ?_
      walk_at "run"
      refine cp_Disk_cut_count ds ?_
      rw [hcu]
      walk_at "run"
      rw [decide_eq_true rfl]
      walk_at "lit"
      refine Gx.mp hx no_Disk_size ?_
      walk_at "run"
      refine cp_Disk_size ds w ?_
      walk_at "run"
      rw [decide_eq_true rfl]
      walk_at "lit"
      exact ⟨lp, cu, _, _, _, _, _, _, _, _, _, _, _, ⟨R14, s, k2, bv, pv, ds, w, hp, hB, hP, hl, hcu, hcl⟩, rfl⟩
    rintro σ' H8 ⟨lp, cu, v5, v8, v9, v10, v11, v12, v13, v14, v15, v16, v17, I, rfl⟩
    obtain ⟨R, s, k, bv, pv, ds, w, hp, hB, hP, hl, hcu, hcl⟩ := I
    walk_at "run"
    refine drD (l1 := [_, _]) ds hp (by decide) fun far k1 H9 hfar ds => ?_
    walk_at "run"
    refine cp_law_refusal (fun _ H10 _ => ?_) (fun e => absurd e (by omega))
    walk_at "run"
    rw [decide_eq_true rfl]
    walk_at "lit"
    refine cp_law_refusal (fun _ H11 _ => ?_) (fun e => absurd e (by omega))
    walk_at "run"
    rw [decide_eq_true rfl]
    walk_at "lit"
    refine cp_law_refusal (fun e => absurd ⟨by decide, by decide⟩ e) (fun _ H12 _ => ?_)
    walk_at "run"
    rw [decide_eq_true rfl]
    exact q _


end
theorem all_mk {l : PySem.W.OpenLaw} {w : World} {K : PySem.W.Frag} {h : Heap} {mg : Str → Option Value} {fa : Addr} (X : K.In h) (G : h.Ns mainGlobals mg) (hfa : mg "law" = some (.ref fa))
    {C_Disk : Addr}
    {C_OutOfRange f_OutOfRange cda_OutOfRange cc_OutOfRange N_OutOfRange : Addr} {nm_OutOfRange q_OutOfRange fi_OutOfRange : Str} {bs_OutOfRange bm_OutOfRange sub_OutOfRange : List Value} {sn_OutOfRange : List Str} {ab_OutOfRange : Bool} {col_OutOfRange : Option Bool} {dd_OutOfRange od_OutOfRange an_OutOfRange cdd_OutOfRange cld_OutOfRange : Option Addr} {k0_OutOfRange k1_OutOfRange k2_OutOfRange k3_OutOfRange k5_OutOfRange : Option Value} {oc_OutOfRange kV_OutOfRange dc_OutOfRange pm_OutOfRange ct_OutOfRange ccl_OutOfRange cl_OutOfRange : Value} {sl_OutOfRange ccs_OutOfRange csl_OutOfRange : Array (Option Value)} {vs_OutOfRange : Array Value} {tf_OutOfRange : Tok}
    {C_PictureError : Addr}
    {C_PowerCut : Addr}
    {f_check_range : Addr} {od_check_range an_check_range : Option Addr} {sl_check_range : Array (Option Value)} {oc_check_range kV_check_range dc_check_range pm_check_range cd_check_range ct_check_range : Value}
    {f_Disk___init__ : Addr} {od_Disk___init__ an_Disk___init__ : Option Addr} {sl_Disk___init__ : Array (Option Value)} {oc_Disk___init__ kV_Disk___init__ dc_Disk___init__ pm_Disk___init__ cd_Disk___init__ ct_Disk___init__ : Value}
    {f_law_refusal : Addr} {od_law_refusal an_law_refusal : Option Addr} {sl_law_refusal : Array (Option Value)} {oc_law_refusal kV_law_refusal dc_law_refusal pm_law_refusal cd_law_refusal ct_law_refusal : Value}
    {f_law_draw : Addr} {od_law_draw an_law_draw : Option Addr} {sl_law_draw : Array (Option Value)} {oc_law_draw kV_law_draw dc_law_draw pm_law_draw cd_law_draw ct_law_draw : Value}
    {f_Disk_size : Addr} {od_Disk_size an_Disk_size : Option Addr} {sl_Disk_size : Array (Option Value)} {oc_Disk_size kV_Disk_size dc_Disk_size pm_Disk_size cd_Disk_size ct_Disk_size : Value}
    {f_Disk_cut_count : Addr} {od_Disk_cut_count an_Disk_cut_count : Option Addr} {sl_Disk_cut_count : Array (Option Value)} {oc_Disk_cut_count kV_Disk_cut_count dc_Disk_cut_count pm_Disk_cut_count cd_Disk_cut_count ct_Disk_cut_count : Value}
    {f_Disk_pending_count : Addr} {od_Disk_pending_count an_Disk_pending_count : Option Addr} {sl_Disk_pending_count : Array (Option Value)} {oc_Disk_pending_count kV_Disk_pending_count dc_Disk_pending_count pm_Disk_pending_count cd_Disk_pending_count ct_Disk_pending_count : Value}
    {f_law_read : Addr} {od_law_read an_law_read : Option Addr} {sl_law_read : Array (Option Value)} {oc_law_read kV_law_read dc_law_read pm_law_read cd_law_read ct_law_read : Value}
    {f_Disk__check_at : Addr} {od_Disk__check_at an_Disk__check_at : Option Addr} {sl_Disk__check_at : Array (Option Value)} {oc_Disk__check_at kV_Disk__check_at dc_Disk__check_at pm_Disk__check_at cd_Disk__check_at ct_Disk__check_at : Value}
    {f_Disk_read : Addr} {od_Disk_read an_Disk_read : Option Addr} {sl_Disk_read : Array (Option Value)} {oc_Disk_read kV_Disk_read dc_Disk_read pm_Disk_read cd_Disk_read ct_Disk_read : Value}
    {f_Disk__cut : Addr} {od_Disk__cut an_Disk__cut : Option Addr} {sl_Disk__cut : Array (Option Value)} {oc_Disk__cut kV_Disk__cut dc_Disk__cut pm_Disk__cut cd_Disk__cut ct_Disk__cut : Value}
    {f_check_torn : Addr} {od_check_torn an_check_torn : Option Addr} {sl_check_torn : Array (Option Value)} {oc_check_torn kV_check_torn dc_check_torn pm_check_torn cd_check_torn ct_check_torn : Value}
    {f_Disk_cut_power : Addr} {od_Disk_cut_power an_Disk_cut_power : Option Addr} {sl_Disk_cut_power : Array (Option Value)} {oc_Disk_cut_power kV_Disk_cut_power dc_Disk_cut_power pm_Disk_cut_power cd_Disk_cut_power ct_Disk_cut_power : Value}
    {f_Disk__use_power : Addr} {od_Disk__use_power an_Disk__use_power : Option Addr} {sl_Disk__use_power : Array (Option Value)} {oc_Disk__use_power kV_Disk__use_power dc_Disk__use_power pm_Disk__use_power cd_Disk__use_power ct_Disk__use_power : Value}
    {f_check_block : Addr} {od_check_block an_check_block : Option Addr} {sl_check_block : Array (Option Value)} {oc_check_block kV_check_block dc_check_block pm_check_block cd_check_block ct_check_block : Value}
    {f_Disk_write : Addr} {od_Disk_write an_Disk_write : Option Addr} {sl_Disk_write : Array (Option Value)} {oc_Disk_write kV_Disk_write dc_Disk_write pm_Disk_write cd_Disk_write ct_Disk_write : Value}
    {f_law_call_raw : Addr} {od_law_call_raw an_law_call_raw : Option Addr} {sl_law_call_raw : Array (Option Value)} {oc_law_call_raw kV_law_call_raw dc_law_call_raw pm_law_call_raw cd_law_call_raw ct_law_call_raw : Value}
    {f_law_call : Addr} {od_law_call an_law_call : Option Addr} {sl_law_call : Array (Option Value)} {oc_law_call kV_law_call dc_law_call pm_law_call cd_law_call ct_law_call : Value}
    {f_law_block : Addr} {od_law_block an_law_block : Option Addr} {sl_law_block : Array (Option Value)} {oc_law_block kV_law_block dc_law_block pm_law_block cd_law_block ct_law_block : Value}
    {f_law_wrong : Addr} {od_law_wrong an_law_wrong : Option Addr} {sl_law_wrong : Array (Option Value)} {oc_law_wrong kV_law_wrong dc_law_wrong pm_law_wrong cd_law_wrong ct_law_wrong : Value}
    {f_law_torn : Addr} {od_law_torn an_law_torn : Option Addr} {sl_law_torn : Array (Option Value)} {oc_law_torn kV_law_torn dc_law_torn pm_law_torn cd_law_torn ct_law_torn : Value}
    {f_Disk_flush : Addr} {od_Disk_flush an_Disk_flush : Option Addr} {sl_Disk_flush : Array (Option Value)} {oc_Disk_flush kV_Disk_flush dc_Disk_flush pm_Disk_flush cd_Disk_flush ct_Disk_flush : Value}
    {f_law_cell : Addr} {od_law_cell an_law_cell : Option Addr} {sl_law_cell : Array (Option Value)} {oc_law_cell kV_law_cell dc_law_cell pm_law_cell cd_law_cell ct_law_cell : Value}
    {f_law_digits : Addr} {od_law_digits an_law_digits : Option Addr} {sl_law_digits : Array (Option Value)} {oc_law_digits kV_law_digits dc_law_digits pm_law_digits cd_law_digits ct_law_digits : Value}
    {f_law : Addr} {od_law an_law : Option Addr} {sl_law : Array (Option Value)} {oc_law kV_law dc_law pm_law cd_law ct_law : Value}
    {t_BLOCK : Tok}
    {t_BLOCKS_LEAST : Tok}
    {t_BLOCKS_MOST : Tok}
    (g_Disk : PySem.W.nsIn K mainGlobals "Disk" = some (some (.ref C_Disk)))
    (pg_Disk : PySem.W.plainGet K C_Disk Str.empty = true)
    (hd_Disk : PySem.W.hasDictIn K C_Disk = true)
    (po_Disk : PySem.W.plainOver K C_Disk = true)
    (sa_Disk : PySem.W.findIn K (.ref C_Disk) "__setattr__" = some (some (.builtin "object.__setattr__")))
    (mk_Disk : PySem.W.makesIn K C_Disk = true)
    (kc_Disk : PySem.W.keepIn K (.ref C_Disk) = true)
    (na_Disk__blocks : PySem.W.findIn K (.ref C_Disk) "_blocks" = some none)
    (na_Disk__pending : PySem.W.findIn K (.ref C_Disk) "_pending" = some none)
    (na_Disk__cuts : PySem.W.findIn K (.ref C_Disk) "_cuts" = some none)
    (na_Disk__left : PySem.W.findIn K (.ref C_Disk) "_left" = some none)
    (na_Disk__torn : PySem.W.findIn K (.ref C_Disk) "_torn" = some none)
    (topS : (l.prog.main.scope.names.lookup ("super" : Str)).isSome = false)
    (nsS : PySem.W.nsIn K mainGlobals "super" = some none)
    (opS : PySem.W.nsIn K cStatics "thirdparty.any" = some none)
    (spS : PySem.W.specialIn K (.builtin "object.__class__") "__get__" = some (some (.builtin "getset_descriptor.__get__")))
    (tkS : PySem.W.takesIn K (.builtin "object.__class__") = some true)
    (g_OutOfRange : PySem.W.nsIn K mainGlobals "OutOfRange" = some (some (.ref C_OutOfRange)))
    (lC_OutOfRange : K.lookup C_OutOfRange = some (excClassObj nm_OutOfRange q_OutOfRange C_OutOfRange N_OutOfRange bs_OutOfRange bm_OutOfRange true sn_OutOfRange sub_OutOfRange ab_OutOfRange col_OutOfRange dd_OutOfRange k0_OutOfRange k1_OutOfRange k2_OutOfRange k3_OutOfRange k5_OutOfRange "ValueError.__new__"))
    (rv_OutOfRange : PySem.HandSPX.refsVE bm_OutOfRange = true)
    (sa_OutOfRange : PySem.W.findIn K (.ref C_OutOfRange) "__setattr__" = some (some (.builtin "object.__setattr__")))
    (bb_OutOfRange : PySem.W.subIn K (.ref C_OutOfRange) (.type "BaseException") = some true)
    (ty_OutOfRange : PySem.W.typeIn K (.ref C_OutOfRange) = some (.type "type"))
    (kC_OutOfRange : PySem.W.keepIn K (.ref C_OutOfRange) = true)
    (iC_OutOfRange : PySem.W.findIn K (.ref C_OutOfRange) "__init__" = some (some (.ref f_OutOfRange)))
    (tI_OutOfRange : PySem.W.typeIn K (.ref f_OutOfRange) = some (.type "function"))
    (lf_OutOfRange : K.lookup f_OutOfRange = some ⟨oc_OutOfRange, od_OutOfRange, .func (PySem.W.ksFn "__init__" "OutOfRange.__init__" (defArgs s_OutOfRange___init__) (defBody s_OutOfRange___init__) (defScope s_OutOfRange___init__) .none kV_OutOfRange dc_OutOfRange pm_OutOfRange an_OutOfRange (.ref cda_OutOfRange) ct_OutOfRange cc_OutOfRange), sl_OutOfRange⟩)
    (cf_OutOfRange : PySem.W.codeIn K (.ref cda_OutOfRange) "OutOfRange.__init__" = true)
    (lcd_OutOfRange : K.lookup cda_OutOfRange = some ⟨ccl_OutOfRange, cdd_OutOfRange, .fields vs_OutOfRange, ccs_OutOfRange⟩)
    (vs2_OutOfRange : vs_OutOfRange[2]? = some (.str fi_OutOfRange tf_OutOfRange))
    (fil_OutOfRange : ((l.prog.main.file : Str) == fi_OutOfRange) = true)
    (lcc_OutOfRange : K.lookup cc_OutOfRange = some ⟨cl_OutOfRange, cld_OutOfRange, .cell (some (.ref C_OutOfRange)), csl_OutOfRange⟩)
    (su_OutOfRange : PySem.W.mroIn K C_OutOfRange (.ref C_OutOfRange) = some true)
    (sup_OutOfRange : PySem.W.ks_superIn K C_OutOfRange C_OutOfRange "__init__" = some (some (.builtin "ValueError.__init__")))
    (isV_OutOfRange : PySem.W.subIn K (.ref C_OutOfRange) (.type "ValueError") = some true)
    (ga_OutOfRange : PySem.W.findIn K (.ref C_OutOfRange) "__getattribute__" = some (some (.builtin "BaseException.__getattribute__")))
    (gg_OutOfRange : PySem.W.findIn K (.ref C_OutOfRange) "__getattr__" = some none)
    (ca_OutOfRange : PySem.W.findIn K (.ref C_OutOfRange) "__class__" = some (some (.builtin "object.__class__")))
    (ob_OutOfRange : PySem.W.mroIn K C_OutOfRange (.type "object") = some true)
    (hd_OutOfRange : PySem.W.hasDictIn K C_OutOfRange = true)
    (ss_OutOfRange : PySem.W.subIn K (.ref C_OutOfRange) (.ref C_OutOfRange) = some true)
    (g_PictureError : PySem.W.nsIn K mainGlobals "PictureError" = some (some (.ref C_PictureError)))
    (kC_PictureError : PySem.W.keepIn K (.ref C_PictureError) = true)
    (ex_PictureError : PySem.W.excIn K C_PictureError [.type "ValueError", .type "Exception", .type "BaseException", .type "object"] "ValueError.__new__" = true)
    (bb_PictureError : PySem.W.subIn K (.ref C_PictureError) (.type "BaseException") = some true)
    (ty_PictureError : PySem.W.typeIn K (.ref C_PictureError) = some (.type "type"))
    (hd_PictureError : PySem.W.hasDictIn K C_PictureError = true)
    (ss_PictureError : PySem.W.subIn K (.ref C_PictureError) (.ref C_PictureError) = some true)
    (g_PowerCut : PySem.W.nsIn K mainGlobals "PowerCut" = some (some (.ref C_PowerCut)))
    (kC_PowerCut : PySem.W.keepIn K (.ref C_PowerCut) = true)
    (ex_PowerCut : PySem.W.excIn K C_PowerCut [.type "ValueError", .type "Exception", .type "BaseException", .type "object"] "ValueError.__new__" = true)
    (bb_PowerCut : PySem.W.subIn K (.ref C_PowerCut) (.type "BaseException") = some true)
    (ty_PowerCut : PySem.W.typeIn K (.ref C_PowerCut) = some (.type "type"))
    (hd_PowerCut : PySem.W.hasDictIn K C_PowerCut = true)
    (ss_PowerCut : PySem.W.subIn K (.ref C_PowerCut) (.ref C_PowerCut) = some true)
    (nf_OutOfRange_name : PySem.W.findIn K (.ref C_OutOfRange) "name" = some none)
    (em_OutOfRange_PictureError : PySem.W.subIn K (.ref C_OutOfRange) (.ref C_PictureError) = some true)
    (em_PowerCut_OutOfRange : PySem.W.subIn K (.ref C_PowerCut) (.ref C_OutOfRange) = some false)
    (em_PowerCut_PictureError : PySem.W.subIn K (.ref C_PowerCut) (.ref C_PictureError) = some true)
    (a_check_range : PySem.W.nsIn K mainGlobals "check_range" = some (some (.ref f_check_range)))
    (l_check_range : K.lookup f_check_range = some ⟨oc_check_range, od_check_range, .func (PySem.W.fnOf "check_range" "check_range" (defArgs s_check_range) (defBody s_check_range) (defScope s_check_range) .none kV_check_range dc_check_range pm_check_range an_check_range cd_check_range ct_check_range), sl_check_range⟩)
    (c_check_range : PySem.W.codeIn K cd_check_range "check_range" = true)
    (k_check_range : PySem.W.keepIn K (.ref f_check_range) = true)
    (a_Disk___init__ : PySem.W.findIn K (.ref C_Disk) "__init__" = some (some (.ref f_Disk___init__)))
    (i_Disk___init__ : PySem.W.isFn K (.ref f_Disk___init__) = true)
    (l_Disk___init__ : K.lookup f_Disk___init__ = some ⟨oc_Disk___init__, od_Disk___init__, .func (PySem.W.fnOf "__init__" "Disk.__init__" (defArgs s_Disk___init__) (defBody s_Disk___init__) (defScope s_Disk___init__) .none kV_Disk___init__ dc_Disk___init__ pm_Disk___init__ an_Disk___init__ cd_Disk___init__ ct_Disk___init__), sl_Disk___init__⟩)
    (c_Disk___init__ : PySem.W.codeIn K cd_Disk___init__ "Disk.__init__" = true)
    (k_Disk___init__ : PySem.W.keepIn K (.ref f_Disk___init__) = true)
    (a_law_refusal : PySem.W.nsIn K mainGlobals "_law_refusal" = some (some (.ref f_law_refusal)))
    (l_law_refusal : K.lookup f_law_refusal = some ⟨oc_law_refusal, od_law_refusal, .func (PySem.W.fnOf "_law_refusal" "_law_refusal" (defArgs s_law_refusal) (defBody s_law_refusal) (defScope s_law_refusal) .none kV_law_refusal dc_law_refusal pm_law_refusal an_law_refusal cd_law_refusal ct_law_refusal), sl_law_refusal⟩)
    (c_law_refusal : PySem.W.codeIn K cd_law_refusal "_law_refusal" = true)
    (k_law_refusal : PySem.W.keepIn K (.ref f_law_refusal) = true)
    (a_law_draw : PySem.W.nsIn K mainGlobals "_law_draw" = some (some (.ref f_law_draw)))
    (l_law_draw : K.lookup f_law_draw = some ⟨oc_law_draw, od_law_draw, .func (PySem.W.fnOf "_law_draw" "_law_draw" (defArgs s_law_draw) (defBody s_law_draw) (defScope s_law_draw) .none kV_law_draw dc_law_draw pm_law_draw an_law_draw cd_law_draw ct_law_draw), sl_law_draw⟩)
    (c_law_draw : PySem.W.codeIn K cd_law_draw "_law_draw" = true)
    (k_law_draw : PySem.W.keepIn K (.ref f_law_draw) = true)
    (a_Disk_size : PySem.W.findIn K (.ref C_Disk) "size" = some (some (.ref f_Disk_size)))
    (i_Disk_size : PySem.W.isFn K (.ref f_Disk_size) = true)
    (l_Disk_size : K.lookup f_Disk_size = some ⟨oc_Disk_size, od_Disk_size, .func (PySem.W.fnOf "size" "Disk.size" (defArgs s_Disk_size) (defBody s_Disk_size) (defScope s_Disk_size) .none kV_Disk_size dc_Disk_size pm_Disk_size an_Disk_size cd_Disk_size ct_Disk_size), sl_Disk_size⟩)
    (c_Disk_size : PySem.W.codeIn K cd_Disk_size "Disk.size" = true)
    (k_Disk_size : PySem.W.keepIn K (.ref f_Disk_size) = true)
    (a_Disk_cut_count : PySem.W.findIn K (.ref C_Disk) "cut_count" = some (some (.ref f_Disk_cut_count)))
    (i_Disk_cut_count : PySem.W.isFn K (.ref f_Disk_cut_count) = true)
    (l_Disk_cut_count : K.lookup f_Disk_cut_count = some ⟨oc_Disk_cut_count, od_Disk_cut_count, .func (PySem.W.fnOf "cut_count" "Disk.cut_count" (defArgs s_Disk_cut_count) (defBody s_Disk_cut_count) (defScope s_Disk_cut_count) .none kV_Disk_cut_count dc_Disk_cut_count pm_Disk_cut_count an_Disk_cut_count cd_Disk_cut_count ct_Disk_cut_count), sl_Disk_cut_count⟩)
    (c_Disk_cut_count : PySem.W.codeIn K cd_Disk_cut_count "Disk.cut_count" = true)
    (k_Disk_cut_count : PySem.W.keepIn K (.ref f_Disk_cut_count) = true)
    (a_Disk_pending_count : PySem.W.findIn K (.ref C_Disk) "pending_count" = some (some (.ref f_Disk_pending_count)))
    (i_Disk_pending_count : PySem.W.isFn K (.ref f_Disk_pending_count) = true)
    (l_Disk_pending_count : K.lookup f_Disk_pending_count = some ⟨oc_Disk_pending_count, od_Disk_pending_count, .func (PySem.W.fnOf "pending_count" "Disk.pending_count" (defArgs s_Disk_pending_count) (defBody s_Disk_pending_count) (defScope s_Disk_pending_count) .none kV_Disk_pending_count dc_Disk_pending_count pm_Disk_pending_count an_Disk_pending_count cd_Disk_pending_count ct_Disk_pending_count), sl_Disk_pending_count⟩)
    (c_Disk_pending_count : PySem.W.codeIn K cd_Disk_pending_count "Disk.pending_count" = true)
    (k_Disk_pending_count : PySem.W.keepIn K (.ref f_Disk_pending_count) = true)
    (a_law_read : PySem.W.nsIn K mainGlobals "_law_read" = some (some (.ref f_law_read)))
    (l_law_read : K.lookup f_law_read = some ⟨oc_law_read, od_law_read, .func (PySem.W.fnOf "_law_read" "_law_read" (defArgs s_law_read) (defBody s_law_read) (defScope s_law_read) .none kV_law_read dc_law_read pm_law_read an_law_read cd_law_read ct_law_read), sl_law_read⟩)
    (c_law_read : PySem.W.codeIn K cd_law_read "_law_read" = true)
    (k_law_read : PySem.W.keepIn K (.ref f_law_read) = true)
    (a_Disk__check_at : PySem.W.findIn K (.ref C_Disk) "_check_at" = some (some (.ref f_Disk__check_at)))
    (i_Disk__check_at : PySem.W.isFn K (.ref f_Disk__check_at) = true)
    (l_Disk__check_at : K.lookup f_Disk__check_at = some ⟨oc_Disk__check_at, od_Disk__check_at, .func (PySem.W.fnOf "_check_at" "Disk._check_at" (defArgs s_Disk__check_at) (defBody s_Disk__check_at) (defScope s_Disk__check_at) .none kV_Disk__check_at dc_Disk__check_at pm_Disk__check_at an_Disk__check_at cd_Disk__check_at ct_Disk__check_at), sl_Disk__check_at⟩)
    (c_Disk__check_at : PySem.W.codeIn K cd_Disk__check_at "Disk._check_at" = true)
    (k_Disk__check_at : PySem.W.keepIn K (.ref f_Disk__check_at) = true)
    (a_Disk_read : PySem.W.findIn K (.ref C_Disk) "read" = some (some (.ref f_Disk_read)))
    (i_Disk_read : PySem.W.isFn K (.ref f_Disk_read) = true)
    (l_Disk_read : K.lookup f_Disk_read = some ⟨oc_Disk_read, od_Disk_read, .func (PySem.W.fnOf "read" "Disk.read" (defArgs s_Disk_read) (defBody s_Disk_read) (defScope s_Disk_read) .none kV_Disk_read dc_Disk_read pm_Disk_read an_Disk_read cd_Disk_read ct_Disk_read), sl_Disk_read⟩)
    (c_Disk_read : PySem.W.codeIn K cd_Disk_read "Disk.read" = true)
    (k_Disk_read : PySem.W.keepIn K (.ref f_Disk_read) = true)
    (a_Disk__cut : PySem.W.findIn K (.ref C_Disk) "_cut" = some (some (.ref f_Disk__cut)))
    (i_Disk__cut : PySem.W.isFn K (.ref f_Disk__cut) = true)
    (l_Disk__cut : K.lookup f_Disk__cut = some ⟨oc_Disk__cut, od_Disk__cut, .func (PySem.W.fnOf "_cut" "Disk._cut" (defArgs s_Disk__cut) (defBody s_Disk__cut) (defScope s_Disk__cut) .none kV_Disk__cut dc_Disk__cut pm_Disk__cut an_Disk__cut cd_Disk__cut ct_Disk__cut), sl_Disk__cut⟩)
    (c_Disk__cut : PySem.W.codeIn K cd_Disk__cut "Disk._cut" = true)
    (k_Disk__cut : PySem.W.keepIn K (.ref f_Disk__cut) = true)
    (a_check_torn : PySem.W.nsIn K mainGlobals "check_torn" = some (some (.ref f_check_torn)))
    (l_check_torn : K.lookup f_check_torn = some ⟨oc_check_torn, od_check_torn, .func (PySem.W.fnOf "check_torn" "check_torn" (defArgs s_check_torn) (defBody s_check_torn) (defScope s_check_torn) .none kV_check_torn dc_check_torn pm_check_torn an_check_torn cd_check_torn ct_check_torn), sl_check_torn⟩)
    (c_check_torn : PySem.W.codeIn K cd_check_torn "check_torn" = true)
    (k_check_torn : PySem.W.keepIn K (.ref f_check_torn) = true)
    (a_Disk_cut_power : PySem.W.findIn K (.ref C_Disk) "cut_power" = some (some (.ref f_Disk_cut_power)))
    (i_Disk_cut_power : PySem.W.isFn K (.ref f_Disk_cut_power) = true)
    (l_Disk_cut_power : K.lookup f_Disk_cut_power = some ⟨oc_Disk_cut_power, od_Disk_cut_power, .func (PySem.W.fnOf "cut_power" "Disk.cut_power" (defArgs s_Disk_cut_power) (defBody s_Disk_cut_power) (defScope s_Disk_cut_power) .none kV_Disk_cut_power dc_Disk_cut_power pm_Disk_cut_power an_Disk_cut_power cd_Disk_cut_power ct_Disk_cut_power), sl_Disk_cut_power⟩)
    (c_Disk_cut_power : PySem.W.codeIn K cd_Disk_cut_power "Disk.cut_power" = true)
    (k_Disk_cut_power : PySem.W.keepIn K (.ref f_Disk_cut_power) = true)
    (a_Disk__use_power : PySem.W.findIn K (.ref C_Disk) "_use_power" = some (some (.ref f_Disk__use_power)))
    (i_Disk__use_power : PySem.W.isFn K (.ref f_Disk__use_power) = true)
    (l_Disk__use_power : K.lookup f_Disk__use_power = some ⟨oc_Disk__use_power, od_Disk__use_power, .func (PySem.W.fnOf "_use_power" "Disk._use_power" (defArgs s_Disk__use_power) (defBody s_Disk__use_power) (defScope s_Disk__use_power) .none kV_Disk__use_power dc_Disk__use_power pm_Disk__use_power an_Disk__use_power cd_Disk__use_power ct_Disk__use_power), sl_Disk__use_power⟩)
    (c_Disk__use_power : PySem.W.codeIn K cd_Disk__use_power "Disk._use_power" = true)
    (k_Disk__use_power : PySem.W.keepIn K (.ref f_Disk__use_power) = true)
    (a_check_block : PySem.W.nsIn K mainGlobals "check_block" = some (some (.ref f_check_block)))
    (l_check_block : K.lookup f_check_block = some ⟨oc_check_block, od_check_block, .func (PySem.W.fnOf "check_block" "check_block" (defArgs s_check_block) (defBody s_check_block) (defScope s_check_block) .none kV_check_block dc_check_block pm_check_block an_check_block cd_check_block ct_check_block), sl_check_block⟩)
    (c_check_block : PySem.W.codeIn K cd_check_block "check_block" = true)
    (k_check_block : PySem.W.keepIn K (.ref f_check_block) = true)
    (a_Disk_write : PySem.W.findIn K (.ref C_Disk) "write" = some (some (.ref f_Disk_write)))
    (i_Disk_write : PySem.W.isFn K (.ref f_Disk_write) = true)
    (l_Disk_write : K.lookup f_Disk_write = some ⟨oc_Disk_write, od_Disk_write, .func (PySem.W.fnOf "write" "Disk.write" (defArgs s_Disk_write) (defBody s_Disk_write) (defScope s_Disk_write) .none kV_Disk_write dc_Disk_write pm_Disk_write an_Disk_write cd_Disk_write ct_Disk_write), sl_Disk_write⟩)
    (c_Disk_write : PySem.W.codeIn K cd_Disk_write "Disk.write" = true)
    (k_Disk_write : PySem.W.keepIn K (.ref f_Disk_write) = true)
    (a_law_call_raw : PySem.W.nsIn K mainGlobals "_law_call_raw" = some (some (.ref f_law_call_raw)))
    (l_law_call_raw : K.lookup f_law_call_raw = some ⟨oc_law_call_raw, od_law_call_raw, .func (PySem.W.fnOf "_law_call_raw" "_law_call_raw" (defArgs s_law_call_raw) (defBody s_law_call_raw) (defScope s_law_call_raw) .none kV_law_call_raw dc_law_call_raw pm_law_call_raw an_law_call_raw cd_law_call_raw ct_law_call_raw), sl_law_call_raw⟩)
    (c_law_call_raw : PySem.W.codeIn K cd_law_call_raw "_law_call_raw" = true)
    (k_law_call_raw : PySem.W.keepIn K (.ref f_law_call_raw) = true)
    (a_law_call : PySem.W.nsIn K mainGlobals "_law_call" = some (some (.ref f_law_call)))
    (l_law_call : K.lookup f_law_call = some ⟨oc_law_call, od_law_call, .func (PySem.W.fnOf "_law_call" "_law_call" (defArgs s_law_call) (defBody s_law_call) (defScope s_law_call) .none kV_law_call dc_law_call pm_law_call an_law_call cd_law_call ct_law_call), sl_law_call⟩)
    (c_law_call : PySem.W.codeIn K cd_law_call "_law_call" = true)
    (k_law_call : PySem.W.keepIn K (.ref f_law_call) = true)
    (a_law_block : PySem.W.nsIn K mainGlobals "_law_block" = some (some (.ref f_law_block)))
    (l_law_block : K.lookup f_law_block = some ⟨oc_law_block, od_law_block, .func (PySem.W.fnOf "_law_block" "_law_block" (defArgs s_law_block) (defBody s_law_block) (defScope s_law_block) .none kV_law_block dc_law_block pm_law_block an_law_block cd_law_block ct_law_block), sl_law_block⟩)
    (c_law_block : PySem.W.codeIn K cd_law_block "_law_block" = true)
    (k_law_block : PySem.W.keepIn K (.ref f_law_block) = true)
    (a_law_wrong : PySem.W.nsIn K mainGlobals "_law_wrong" = some (some (.ref f_law_wrong)))
    (l_law_wrong : K.lookup f_law_wrong = some ⟨oc_law_wrong, od_law_wrong, .func (PySem.W.fnOf "_law_wrong" "_law_wrong" (defArgs s_law_wrong) (defBody s_law_wrong) (defScope s_law_wrong) .none kV_law_wrong dc_law_wrong pm_law_wrong an_law_wrong cd_law_wrong ct_law_wrong), sl_law_wrong⟩)
    (c_law_wrong : PySem.W.codeIn K cd_law_wrong "_law_wrong" = true)
    (k_law_wrong : PySem.W.keepIn K (.ref f_law_wrong) = true)
    (a_law_torn : PySem.W.nsIn K mainGlobals "_law_torn" = some (some (.ref f_law_torn)))
    (l_law_torn : K.lookup f_law_torn = some ⟨oc_law_torn, od_law_torn, .func (PySem.W.fnOf "_law_torn" "_law_torn" (defArgs s_law_torn) (defBody s_law_torn) (defScope s_law_torn) .none kV_law_torn dc_law_torn pm_law_torn an_law_torn cd_law_torn ct_law_torn), sl_law_torn⟩)
    (c_law_torn : PySem.W.codeIn K cd_law_torn "_law_torn" = true)
    (k_law_torn : PySem.W.keepIn K (.ref f_law_torn) = true)
    (a_Disk_flush : PySem.W.findIn K (.ref C_Disk) "flush" = some (some (.ref f_Disk_flush)))
    (i_Disk_flush : PySem.W.isFn K (.ref f_Disk_flush) = true)
    (l_Disk_flush : K.lookup f_Disk_flush = some ⟨oc_Disk_flush, od_Disk_flush, .func (PySem.W.fnOf "flush" "Disk.flush" (defArgs s_Disk_flush) (defBody s_Disk_flush) (defScope s_Disk_flush) .none kV_Disk_flush dc_Disk_flush pm_Disk_flush an_Disk_flush cd_Disk_flush ct_Disk_flush), sl_Disk_flush⟩)
    (c_Disk_flush : PySem.W.codeIn K cd_Disk_flush "Disk.flush" = true)
    (k_Disk_flush : PySem.W.keepIn K (.ref f_Disk_flush) = true)
    (a_law_cell : PySem.W.nsIn K mainGlobals "_law_cell" = some (some (.ref f_law_cell)))
    (l_law_cell : K.lookup f_law_cell = some ⟨oc_law_cell, od_law_cell, .func (PySem.W.fnOf "_law_cell" "_law_cell" (defArgs s_law_cell) (defBody s_law_cell) (defScope s_law_cell) .none kV_law_cell dc_law_cell pm_law_cell an_law_cell cd_law_cell ct_law_cell), sl_law_cell⟩)
    (c_law_cell : PySem.W.codeIn K cd_law_cell "_law_cell" = true)
    (k_law_cell : PySem.W.keepIn K (.ref f_law_cell) = true)
    (a_law_digits : PySem.W.nsIn K mainGlobals "_law_digits" = some (some (.ref f_law_digits)))
    (l_law_digits : K.lookup f_law_digits = some ⟨oc_law_digits, od_law_digits, .func (PySem.W.fnOf "_law_digits" "_law_digits" (defArgs s_law_digits) (defBody s_law_digits) (defScope s_law_digits) .none kV_law_digits dc_law_digits pm_law_digits an_law_digits cd_law_digits ct_law_digits), sl_law_digits⟩)
    (c_law_digits : PySem.W.codeIn K cd_law_digits "_law_digits" = true)
    (k_law_digits : PySem.W.keepIn K (.ref f_law_digits) = true)
    (a_law : PySem.W.nsIn K mainGlobals "law" = some (some (.ref f_law)))
    (l_law : K.lookup f_law = some ⟨oc_law, od_law, .func (PySem.W.fnOf "law" "law" (defArgs s_law) (defBody s_law) (defScope s_law) .none kV_law dc_law pm_law an_law cd_law ct_law), sl_law⟩)
    (c_law : PySem.W.codeIn K cd_law "law" = true)
    (k_law : PySem.W.keepIn K (.ref f_law) = true)
    (n_enumerate : PySem.W.nsIn K mainGlobals "enumerate" = some none)
    (n_int : PySem.W.nsIn K mainGlobals "int" = some none)
    (n_isinstance : PySem.W.nsIn K mainGlobals "isinstance" = some none)
    (n_len : PySem.W.nsIn K mainGlobals "len" = some none)
    (n_list : PySem.W.nsIn K mainGlobals "list" = some none)
    (n_max : PySem.W.nsIn K mainGlobals "max" = some none)
    (n_min : PySem.W.nsIn K mainGlobals "min" = some none)
    (n_range : PySem.W.nsIn K mainGlobals "range" = some none)
    (n_str : PySem.W.nsIn K mainGlobals "str" = some none)
    (c_BLOCK : PySem.W.nsIn K mainGlobals "BLOCK" = some (some (.int 32 t_BLOCK)))
    (c_BLOCKS_LEAST : PySem.W.nsIn K mainGlobals "BLOCKS_LEAST" = some (some (.int 4 t_BLOCKS_LEAST)))
    (c_BLOCKS_MOST : PySem.W.nsIn K mainGlobals "BLOCKS_MOST" = some (some (.int 400 t_BLOCKS_MOST))) :
    ∃ fd : FuncData, (∀ (s : Shared) (v : Value), BindsTo s fd ⟨[v], []⟩ [("script", v)]) ∧ ∀ base : Heap, K.In base → base.Ns mainGlobals mg → FnOk l.prog w K mg base CX0 9 fa fd ["script"] (spLaw K) := by
  have e := hfa.symm.trans (PySem.W.mg_of X G a_law)
  cases e
  have F_check_range := fun_mk (st := s_check_range) l_check_range c_check_range k_check_range
  have F_Disk___init__ := fun_mk (st := s_Disk___init__) l_Disk___init__ c_Disk___init__ k_Disk___init__
  have F_law_refusal := fun_mk (st := s_law_refusal) l_law_refusal c_law_refusal k_law_refusal
  have F_law_draw := fun_mk (st := s_law_draw) l_law_draw c_law_draw k_law_draw
  have F_Disk_size := fun_mk (st := s_Disk_size) l_Disk_size c_Disk_size k_Disk_size
  have F_Disk_cut_count := fun_mk (st := s_Disk_cut_count) l_Disk_cut_count c_Disk_cut_count k_Disk_cut_count
  have F_Disk_pending_count := fun_mk (st := s_Disk_pending_count) l_Disk_pending_count c_Disk_pending_count k_Disk_pending_count
  have F_law_read := fun_mk (st := s_law_read) l_law_read c_law_read k_law_read
  have F_Disk__check_at := fun_mk (st := s_Disk__check_at) l_Disk__check_at c_Disk__check_at k_Disk__check_at
  have F_Disk_read := fun_mk (st := s_Disk_read) l_Disk_read c_Disk_read k_Disk_read
  have F_Disk__cut := fun_mk (st := s_Disk__cut) l_Disk__cut c_Disk__cut k_Disk__cut
  have F_check_torn := fun_mk (st := s_check_torn) l_check_torn c_check_torn k_check_torn
  have F_Disk_cut_power := fun_mk (st := s_Disk_cut_power) l_Disk_cut_power c_Disk_cut_power k_Disk_cut_power
  have F_Disk__use_power := fun_mk (st := s_Disk__use_power) l_Disk__use_power c_Disk__use_power k_Disk__use_power
  have F_check_block := fun_mk (st := s_check_block) l_check_block c_check_block k_check_block
  have F_Disk_write := fun_mk (st := s_Disk_write) l_Disk_write c_Disk_write k_Disk_write
  have F_law_call_raw := fun_mk (st := s_law_call_raw) l_law_call_raw c_law_call_raw k_law_call_raw
  have F_law_call := fun_mk (st := s_law_call) l_law_call c_law_call k_law_call
  have F_law_block := fun_mk (st := s_law_block) l_law_block c_law_block k_law_block
  have F_law_wrong := fun_mk (st := s_law_wrong) l_law_wrong c_law_wrong k_law_wrong
  have F_law_torn := fun_mk (st := s_law_torn) l_law_torn c_law_torn k_law_torn
  have F_Disk_flush := fun_mk (st := s_Disk_flush) l_Disk_flush c_Disk_flush k_Disk_flush
  have F_law_cell := fun_mk (st := s_law_cell) l_law_cell c_law_cell k_law_cell
  have F_law_digits := fun_mk (st := s_law_digits) l_law_digits c_law_digits k_law_digits
  have F_law := fun_mk (st := s_law) l_law c_law k_law
  exact ⟨PySem.W.fnOf "law" "law" (defArgs s_law) (defBody s_law) (defScope s_law) .none kV_law dc_law pm_law an_law cd_law ct_law, fun s v => .of_eq rfl, fun base _ _ => ok_law (mg := mg) {
    a_Disk := C_Disk,
    cl_Disk := ⟨pg_Disk, hd_Disk, po_Disk, sa_Disk⟩,
    g_Disk := PySem.W.mg_of X G g_Disk,
    mk_Disk := mk_Disk,
    kp_Disk := kc_Disk,
    na_Disk__blocks := na_Disk__blocks,
    na_Disk__pending := na_Disk__pending,
    na_Disk__cuts := na_Disk__cuts,
    na_Disk__left := na_Disk__left,
    na_Disk__torn := na_Disk__torn,
    x_OutOfRange := ⟨C_OutOfRange, f_OutOfRange, _, PySem.W.mg_of X G g_OutOfRange, ⟨⟨nm_OutOfRange, q_OutOfRange, N_OutOfRange, bs_OutOfRange, bm_OutOfRange, sn_OutOfRange, sub_OutOfRange, ab_OutOfRange, col_OutOfRange, dd_OutOfRange, k0_OutOfRange, k1_OutOfRange, k2_OutOfRange, k3_OutOfRange, k5_OutOfRange, lC_OutOfRange, rv_OutOfRange⟩, sa_OutOfRange, bb_OutOfRange, ty_OutOfRange, kC_OutOfRange⟩,
      ⟨⟨_, _, _, _, _, _, _, _, _, _, rfl, lf_OutOfRange, cf_OutOfRange, ⟨_, _, _, _, _, _, lcd_OutOfRange, vs2_OutOfRange, fil_OutOfRange⟩, _, _, _, lcc_OutOfRange⟩, topS, PySem.W.mg_none_of X G nsS, su_OutOfRange, opS, sup_OutOfRange, isV_OutOfRange⟩, iC_OutOfRange, tI_OutOfRange, Binds.all fun us hl => (match us, hl with | [_, _], _ => rfl),
      ⟨ga_OutOfRange, gg_OutOfRange, bb_OutOfRange, hd_OutOfRange⟩, ⟨by unfold PySem.W.clsIn; rw [lC_OutOfRange] <;> rfl, ga_OutOfRange, gg_OutOfRange, bb_OutOfRange, ca_OutOfRange, spS, tkS, ob_OutOfRange⟩, PySem.W.exm_ref bb_OutOfRange hd_OutOfRange ty_OutOfRange ss_OutOfRange⟩,
    y_PictureError := ⟨C_PictureError, PySem.W.mg_of X G g_PictureError, kC_PictureError, ex_PictureError, bb_PictureError, ty_PictureError, PySem.W.exm_ref bb_PictureError hd_PictureError ty_PictureError ss_PictureError⟩,
    y_PowerCut := ⟨C_PowerCut, PySem.W.mg_of X G g_PowerCut, kC_PowerCut, ex_PowerCut, bb_PowerCut, ty_PowerCut, PySem.W.exm_ref bb_PowerCut hd_PowerCut ty_PowerCut ss_PowerCut⟩,
    nf_OutOfRange_name := nf_OutOfRange_name,
    em_OutOfRange_PictureError := PySem.W.exm_ref bb_PictureError hd_PictureError ty_PictureError em_OutOfRange_PictureError,
    em_PowerCut_OutOfRange := PySem.W.exm_ref bb_OutOfRange hd_OutOfRange ty_OutOfRange em_PowerCut_OutOfRange,
    em_PowerCut_PictureError := PySem.W.exm_ref bb_PictureError hd_PictureError ty_PictureError em_PowerCut_PictureError,
    check_range := ⟨_, _, F_check_range, PySem.W.mg_of X G a_check_range, F_check_range.binds fun _ _ _ _ _ _ us hl => match us, hl with | [_, _, _, _], _ => rfl⟩,
    Disk___init__ := ⟨_, _, F_Disk___init__, F_Disk___init__.binds fun _ _ _ _ _ _ us hl => match us, hl with | [_, _], _ => rfl, ⟨a_Disk___init__, i_Disk___init__, k_Disk___init__⟩⟩,
    law_refusal := ⟨_, _, F_law_refusal, PySem.W.mg_of X G a_law_refusal, F_law_refusal.binds fun _ _ _ _ _ _ us hl => match us, hl with | [_], _ => rfl⟩,
    law_draw := ⟨_, _, F_law_draw, PySem.W.mg_of X G a_law_draw, F_law_draw.binds fun _ _ _ _ _ _ us hl => match us, hl with | [_, _], _ => rfl⟩,
    Disk_size := ⟨_, _, F_Disk_size, F_Disk_size.binds fun _ _ _ _ _ _ us hl => match us, hl with | [_], _ => rfl, ⟨a_Disk_size, i_Disk_size, k_Disk_size⟩⟩,
    Disk_cut_count := ⟨_, _, F_Disk_cut_count, F_Disk_cut_count.binds fun _ _ _ _ _ _ us hl => match us, hl with | [_], _ => rfl, ⟨a_Disk_cut_count, i_Disk_cut_count, k_Disk_cut_count⟩⟩,
    Disk_pending_count := ⟨_, _, F_Disk_pending_count, F_Disk_pending_count.binds fun _ _ _ _ _ _ us hl => match us, hl with | [_], _ => rfl, ⟨a_Disk_pending_count, i_Disk_pending_count, k_Disk_pending_count⟩⟩,
    law_read := ⟨_, _, F_law_read, PySem.W.mg_of X G a_law_read, F_law_read.binds fun _ _ _ _ _ _ us hl => match us, hl with | [_, _, _], _ => rfl⟩,
    Disk__check_at := ⟨_, _, F_Disk__check_at, F_Disk__check_at.binds fun _ _ _ _ _ _ us hl => match us, hl with | [_, _], _ => rfl, ⟨a_Disk__check_at, i_Disk__check_at, k_Disk__check_at⟩⟩,
    Disk_read := ⟨_, _, F_Disk_read, F_Disk_read.binds fun _ _ _ _ _ _ us hl => match us, hl with | [_, _], _ => rfl, ⟨a_Disk_read, i_Disk_read, k_Disk_read⟩⟩,
    Disk__cut := ⟨_, _, F_Disk__cut, F_Disk__cut.binds fun _ _ _ _ _ _ us hl => match us, hl with | [_, _], _ => rfl, ⟨a_Disk__cut, i_Disk__cut, k_Disk__cut⟩⟩,
    check_torn := ⟨_, _, F_check_torn, PySem.W.mg_of X G a_check_torn, F_check_torn.binds fun _ _ _ _ _ _ us hl => match us, hl with | [_], _ => rfl⟩,
    Disk_cut_power := ⟨_, _, F_Disk_cut_power, F_Disk_cut_power.binds fun _ _ _ _ _ _ us hl => match us, hl with | [_, _], _ => rfl, ⟨a_Disk_cut_power, i_Disk_cut_power, k_Disk_cut_power⟩⟩,
    Disk__use_power := ⟨_, _, F_Disk__use_power, F_Disk__use_power.binds fun _ _ _ _ _ _ us hl => match us, hl with | [_], _ => rfl, ⟨a_Disk__use_power, i_Disk__use_power, k_Disk__use_power⟩⟩,
    check_block := ⟨_, _, F_check_block, PySem.W.mg_of X G a_check_block, F_check_block.binds fun _ _ _ _ _ _ us hl => match us, hl with | [_], _ => rfl⟩,
    Disk_write := ⟨_, _, F_Disk_write, F_Disk_write.binds fun _ _ _ _ _ _ us hl => match us, hl with | [_, _, _], _ => rfl, ⟨a_Disk_write, i_Disk_write, k_Disk_write⟩⟩,
    law_call_raw := ⟨_, _, F_law_call_raw, PySem.W.mg_of X G a_law_call_raw, F_law_call_raw.binds fun _ _ _ _ _ _ us hl => match us, hl with | [_, _, _, _], _ => rfl⟩,
    law_call := ⟨_, _, F_law_call, PySem.W.mg_of X G a_law_call, F_law_call.binds fun _ _ _ _ _ _ us hl => match us, hl with | [_, _, _, _], _ => rfl⟩,
    law_block := ⟨_, _, F_law_block, PySem.W.mg_of X G a_law_block, F_law_block.binds fun _ _ _ _ _ _ us hl => match us, hl with | [_], _ => rfl⟩,
    law_wrong := ⟨_, _, F_law_wrong, PySem.W.mg_of X G a_law_wrong, F_law_wrong.binds fun _ _ _ _ _ _ us hl => match us, hl with | [_, _, _], _ => rfl⟩,
    law_torn := ⟨_, _, F_law_torn, PySem.W.mg_of X G a_law_torn, F_law_torn.binds fun _ _ _ _ _ _ us hl => match us, hl with | [_, _], _ => rfl⟩,
    Disk_flush := ⟨_, _, F_Disk_flush, F_Disk_flush.binds fun _ _ _ _ _ _ us hl => match us, hl with | [_], _ => rfl, ⟨a_Disk_flush, i_Disk_flush, k_Disk_flush⟩⟩,
    law_cell := ⟨_, _, F_law_cell, PySem.W.mg_of X G a_law_cell, F_law_cell.binds fun _ _ _ _ _ _ us hl => match us, hl with | [_, _], _ => rfl⟩,
    law_digits := ⟨_, _, F_law_digits, PySem.W.mg_of X G a_law_digits, F_law_digits.binds fun _ _ _ _ _ _ us hl => match us, hl with | [_, _, _], _ => rfl⟩,
    law := ⟨_, _, F_law, PySem.W.mg_of X G a_law, F_law.binds fun _ _ _ _ _ _ us hl => match us, hl with | [_], _ => rfl⟩,
    n_enumerate := PySem.W.mg_none_of X G n_enumerate,
    n_int := PySem.W.mg_none_of X G n_int,
    n_isinstance := PySem.W.mg_none_of X G n_isinstance,
    n_len := PySem.W.mg_none_of X G n_len,
    n_list := PySem.W.mg_none_of X G n_list,
    n_max := PySem.W.mg_none_of X G n_max,
    n_min := PySem.W.mg_none_of X G n_min,
    n_range := PySem.W.mg_none_of X G n_range,
    n_str := PySem.W.mg_none_of X G n_str,
    t_BLOCK := t_BLOCK,
    c_BLOCK := PySem.W.mg_of X G c_BLOCK,
    t_BLOCKS_LEAST := t_BLOCKS_LEAST,
    c_BLOCKS_LEAST := PySem.W.mg_of X G c_BLOCKS_LEAST,
    t_BLOCKS_MOST := t_BLOCKS_MOST,
    c_BLOCKS_MOST := PySem.W.mg_of X G c_BLOCKS_MOST }⟩
theorem walk {l : PySem.W.OpenLaw} {q : Program} {loose : List Str} {XP : (Str → Option Value) → Heap → Prop} {YP : World → Heap → Prop} {d : DefRec} {K : Params → PySem.W.Frag} (hn : l.most = some 63) (hdf : d.params.defaults = [])
    (hY : ∀ (w : World) (h : Heap), YP w h → (K w.params).In h)
    (F : ∀ (w : World) (mg : Str → Option Value) (fa : Addr) (h : Heap), (K w.params).In h → h.Ns mainGlobals mg → mg d.name = some (.ref fa) →
      ∃ fd : FuncData, (∀ (s : Shared) (u : Value), BindsTo s fd ⟨[u], []⟩ [("script", u)]) ∧ ∀ base : Heap, (K w.params).In base → base.Ns mainGlobals mg → FnOk l.prog w (K w.params) mg base CX0 9 fa fd ["script"] (spLaw (K w.params))) :
    PySem.W.WalkO q loose XP YP l.row.toRowW d [] (fun f vs => PySem.call f vs) :=
  L2.walk_ofB (n := 63) (k := 9) (x := "script") (CX := fun _ => CX0) (sp := fun w => spLaw (K w.params)) hn (by decide) hdf ⟨rfl, by decide, by decide⟩ hY F (fun _ _ a ns hl hb _ hS => ⟨a, ns, rfl, hS, hl, hb, fun _ => rfl⟩) fun _ _ _ _ _ z => z
end My
open PySem PySem.W PyProof.Rows
set_option maxRecDepth 100000 in
set_option maxHeartbeats 0 in
theorem PySem.Challenge.cw_packetpicture_k74_disk_reads_and_flushes_holds : PySem.Challenge.rw_packetpicture_k74_disk_reads_and_flushes.Holds := by
  w_on; o_law; k_head; (case hw => w_witness2)
  k_fill
  refine My.walk (l := PySem.Challenge.rw_packetpicture_k74_disk_reads_and_flushes) rfl rfl (fun w h Y => PySem.W.kIn_of Y) ?F
  case F =>
    intro w mg fa h KX G hmg
    refine' My.all_mk KX G hmg ?g_Disk ?pg_Disk ?hd_Disk ?po_Disk ?sa_Disk ?mk_Disk ?kc_Disk ?na_Disk__blocks ?na_Disk__pending ?na_Disk__cuts ?na_Disk__left ?na_Disk__torn ?topS ?nsS ?opS ?spS ?tkS ?g_OutOfRange ?lC_OutOfRange ?rv_OutOfRange ?sa_OutOfRange ?bb_OutOfRange ?ty_OutOfRange ?kC_OutOfRange ?iC_OutOfRange ?tI_OutOfRange ?lf_OutOfRange ?cf_OutOfRange ?lcd_OutOfRange ?vs2_OutOfRange ?fil_OutOfRange ?lcc_OutOfRange ?su_OutOfRange ?sup_OutOfRange ?isV_OutOfRange ?ga_OutOfRange ?gg_OutOfRange ?ca_OutOfRange ?ob_OutOfRange ?hd_OutOfRange ?ss_OutOfRange ?g_PictureError ?kC_PictureError ?ex_PictureError ?bb_PictureError ?ty_PictureError ?hd_PictureError ?ss_PictureError ?g_PowerCut ?kC_PowerCut ?ex_PowerCut ?bb_PowerCut ?ty_PowerCut ?hd_PowerCut ?ss_PowerCut ?nf_OutOfRange_name ?em_OutOfRange_PictureError ?em_PowerCut_OutOfRange ?em_PowerCut_PictureError ?a_check_range ?l_check_range ?c_check_range ?k_check_range ?a_Disk___init__ ?i_Disk___init__ ?l_Disk___init__ ?c_Disk___init__ ?k_Disk___init__ ?a_law_refusal ?l_law_refusal ?c_law_refusal ?k_law_refusal ?a_law_draw ?l_law_draw ?c_law_draw ?k_law_draw ?a_Disk_size ?i_Disk_size ?l_Disk_size ?c_Disk_size ?k_Disk_size ?a_Disk_cut_count ?i_Disk_cut_count ?l_Disk_cut_count ?c_Disk_cut_count ?k_Disk_cut_count ?a_Disk_pending_count ?i_Disk_pending_count ?l_Disk_pending_count ?c_Disk_pending_count ?k_Disk_pending_count ?a_law_read ?l_law_read ?c_law_read ?k_law_read ?a_Disk__check_at ?i_Disk__check_at ?l_Disk__check_at ?c_Disk__check_at ?k_Disk__check_at ?a_Disk_read ?i_Disk_read ?l_Disk_read ?c_Disk_read ?k_Disk_read ?a_Disk__cut ?i_Disk__cut ?l_Disk__cut ?c_Disk__cut ?k_Disk__cut ?a_check_torn ?l_check_torn ?c_check_torn ?k_check_torn ?a_Disk_cut_power ?i_Disk_cut_power ?l_Disk_cut_power ?c_Disk_cut_power ?k_Disk_cut_power ?a_Disk__use_power ?i_Disk__use_power ?l_Disk__use_power ?c_Disk__use_power ?k_Disk__use_power ?a_check_block ?l_check_block ?c_check_block ?k_check_block ?a_Disk_write ?i_Disk_write ?l_Disk_write ?c_Disk_write ?k_Disk_write ?a_law_call_raw ?l_law_call_raw ?c_law_call_raw ?k_law_call_raw ?a_law_call ?l_law_call ?c_law_call ?k_law_call ?a_law_block ?l_law_block ?c_law_block ?k_law_block ?a_law_wrong ?l_law_wrong ?c_law_wrong ?k_law_wrong ?a_law_torn ?l_law_torn ?c_law_torn ?k_law_torn ?a_Disk_flush ?i_Disk_flush ?l_Disk_flush ?c_Disk_flush ?k_Disk_flush ?a_law_cell ?l_law_cell ?c_law_cell ?k_law_cell ?a_law_digits ?l_law_digits ?c_law_digits ?k_law_digits ?a_law ?l_law ?c_law ?k_law ?n_enumerate ?n_int ?n_isinstance ?n_len ?n_list ?n_max ?n_min ?n_range ?n_str ?c_BLOCK ?c_BLOCKS_LEAST ?c_BLOCKS_MOST
    (case g_Disk => k_is)
    (case pg_Disk => k_is)
    (case hd_Disk => k_is)
    (case po_Disk => k_is)
    (case sa_Disk => k_is)
    (case mk_Disk => k_is)
    (case kc_Disk => k_is)
    (case na_Disk__blocks => k_is)
    (case na_Disk__pending => k_is)
    (case na_Disk__cuts => k_is)
    (case na_Disk__left => k_is)
    (case na_Disk__torn => k_is)
    (case topS => first | rfl | decide +kernel)
    (case nsS => k_is)
    (case opS => k_is)
    (case spS => k_is)
    (case tkS => k_is)
    (case g_OutOfRange => k_is)
    (case lC_OutOfRange => k_is)
    (case rv_OutOfRange => first | rfl | decide +kernel)
    (case sa_OutOfRange => k_is)
    (case bb_OutOfRange => k_is)
    (case ty_OutOfRange => k_is)
    (case kC_OutOfRange => k_is)
    (case iC_OutOfRange => k_is)
    (case tI_OutOfRange => k_is)
    (case lf_OutOfRange => k_is)
    (case cf_OutOfRange => k_is)
    (case lcd_OutOfRange => k_is)
    (case vs2_OutOfRange => first | rfl | decide +kernel)
    (case fil_OutOfRange => first | rfl | decide +kernel)
    (case lcc_OutOfRange => k_is)
    (case su_OutOfRange => k_is)
    (case sup_OutOfRange => ks_is)
    (case isV_OutOfRange => k_is)
    (case ga_OutOfRange => k_is)
    (case gg_OutOfRange => k_is)
    (case ca_OutOfRange => k_is)
    (case ob_OutOfRange => k_is)
    (case hd_OutOfRange => k_is)
    (case ss_OutOfRange => first | rfl | k_is)
    (case g_PictureError => k_is)
    (case kC_PictureError => k_is)
    (case ex_PictureError => k_exc)
    (case bb_PictureError => k_is)
    (case ty_PictureError => k_is)
    (case hd_PictureError => k_is)
    (case ss_PictureError => first | rfl | k_is)
    (case g_PowerCut => k_is)
    (case kC_PowerCut => k_is)
    (case ex_PowerCut => k_exc)
    (case bb_PowerCut => k_is)
    (case ty_PowerCut => k_is)
    (case hd_PowerCut => k_is)
    (case ss_PowerCut => first | rfl | k_is)
    (case nf_OutOfRange_name => k_is)
    (case em_OutOfRange_PictureError => k_is)
    (case em_PowerCut_OutOfRange => k_is)
    (case em_PowerCut_PictureError => k_is)
    (case a_check_range => k_is)
    (case l_check_range => k_is)
    (case c_check_range => k_is)
    (case k_check_range => k_is)
    (case a_Disk___init__ => k_is)
    (case i_Disk___init__ => k_is)
    (case l_Disk___init__ => k_is)
    (case c_Disk___init__ => k_is)
    (case k_Disk___init__ => k_is)
    (case a_law_refusal => k_is)
    (case l_law_refusal => k_is)
    (case c_law_refusal => k_is)
    (case k_law_refusal => k_is)
    (case a_law_draw => k_is)
    (case l_law_draw => k_is)
    (case c_law_draw => k_is)
    (case k_law_draw => k_is)
    (case a_Disk_size => k_is)
    (case i_Disk_size => k_is)
    (case l_Disk_size => k_is)
    (case c_Disk_size => k_is)
    (case k_Disk_size => k_is)
    (case a_Disk_cut_count => k_is)
    (case i_Disk_cut_count => k_is)
    (case l_Disk_cut_count => k_is)
    (case c_Disk_cut_count => k_is)
    (case k_Disk_cut_count => k_is)
    (case a_Disk_pending_count => k_is)
    (case i_Disk_pending_count => k_is)
    (case l_Disk_pending_count => k_is)
    (case c_Disk_pending_count => k_is)
    (case k_Disk_pending_count => k_is)
    (case a_law_read => k_is)
    (case l_law_read => k_is)
    (case c_law_read => k_is)
    (case k_law_read => k_is)
    (case a_Disk__check_at => k_is)
    (case i_Disk__check_at => k_is)
    (case l_Disk__check_at => k_is)
    (case c_Disk__check_at => k_is)
    (case k_Disk__check_at => k_is)
    (case a_Disk_read => k_is)
    (case i_Disk_read => k_is)
    (case l_Disk_read => k_is)
    (case c_Disk_read => k_is)
    (case k_Disk_read => k_is)
    (case a_Disk__cut => k_is)
    (case i_Disk__cut => k_is)
    (case l_Disk__cut => k_is)
    (case c_Disk__cut => k_is)
    (case k_Disk__cut => k_is)
    (case a_check_torn => k_is)
    (case l_check_torn => k_is)
    (case c_check_torn => k_is)
    (case k_check_torn => k_is)
    (case a_Disk_cut_power => k_is)
    (case i_Disk_cut_power => k_is)
    (case l_Disk_cut_power => k_is)
    (case c_Disk_cut_power => k_is)
    (case k_Disk_cut_power => k_is)
    (case a_Disk__use_power => k_is)
    (case i_Disk__use_power => k_is)
    (case l_Disk__use_power => k_is)
    (case c_Disk__use_power => k_is)
    (case k_Disk__use_power => k_is)
    (case a_check_block => k_is)
    (case l_check_block => k_is)
    (case c_check_block => k_is)
    (case k_check_block => k_is)
    (case a_Disk_write => k_is)
    (case i_Disk_write => k_is)
    (case l_Disk_write => k_is)
    (case c_Disk_write => k_is)
    (case k_Disk_write => k_is)
    (case a_law_call_raw => k_is)
    (case l_law_call_raw => k_is)
    (case c_law_call_raw => k_is)
    (case k_law_call_raw => k_is)
    (case a_law_call => k_is)
    (case l_law_call => k_is)
    (case c_law_call => k_is)
    (case k_law_call => k_is)
    (case a_law_block => k_is)
    (case l_law_block => k_is)
    (case c_law_block => k_is)
    (case k_law_block => k_is)
    (case a_law_wrong => k_is)
    (case l_law_wrong => k_is)
    (case c_law_wrong => k_is)
    (case k_law_wrong => k_is)
    (case a_law_torn => k_is)
    (case l_law_torn => k_is)
    (case c_law_torn => k_is)
    (case k_law_torn => k_is)
    (case a_Disk_flush => k_is)
    (case i_Disk_flush => k_is)
    (case l_Disk_flush => k_is)
    (case c_Disk_flush => k_is)
    (case k_Disk_flush => k_is)
    (case a_law_cell => k_is)
    (case l_law_cell => k_is)
    (case c_law_cell => k_is)
    (case k_law_cell => k_is)
    (case a_law_digits => k_is)
    (case l_law_digits => k_is)
    (case c_law_digits => k_is)
    (case k_law_digits => k_is)
    (case a_law => k_is)
    (case l_law => k_is)
    (case c_law => k_is)
    (case k_law => k_is)
    (case n_enumerate => k_is)
    (case n_int => k_is)
    (case n_isinstance => k_is)
    (case n_len => k_is)
    (case n_list => k_is)
    (case n_max => k_is)
    (case n_min => k_is)
    (case n_range => k_is)
    (case n_str => k_is)
    (case c_BLOCK => k_is)
    (case c_BLOCKS_LEAST => k_is)
    (case c_BLOCKS_MOST => k_is)
