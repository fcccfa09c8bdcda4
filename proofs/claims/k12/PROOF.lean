import PyProof.Rows.All
import Wide.All
import OpenK.AllK
import Wide.FinOn
import HandS.ForMost
import HandS.EndBits
import HandS.IsInst
import HandS.Conv
import HandS.RevRange
import HandS.Walk
import HandS.Wide
import HandS.Codes
import PySem.Challenge.RW_packetpicture_k12_stored_bits
set_option Elab.async false
set_option linter.all false
set_option maxRecDepth 100000
set_option maxHeartbeats 4000000
set_option exponentiation.threshold 4000
/-! Steps of a reading, one lemma a construct; `walk_at "go"` tries them one after another. -/
namespace Gx
open PySem L2
section
variable {K : PySem.W.Frag} {σ : L2.St} {H : Hp} {Q : VK} {D : Ends} {ta tb te to ti tv : TE} {t u : TT} {tr : TA} {tu tw : TS} {x y z v : V} {i j : Int} {B : Bool → Hp → Prop} {A1 A2 : Prop} {b : Bool}
/-- a test's answer; a branch -/
def TB (x : V) (H : Hp) (Q : Bool → Hp → Prop) : Prop := ∃ k, x = .bl k ∧ Q k H
def IfP (c : Bool) (A B : Prop) : Prop := if c = true then A else B
theorem tB_ (q : TB (.bl b) H B ) : TB (.bl b) H B := q
theorem tb_go (q : B b H) : TB (.bl b) H B := ⟨b, rfl, q⟩
theorem if_t (q : A1) : IfP true A1 A2 := by unfold IfP; rw [if_pos rfl]; exact q
theorem if_f (q : A2) : IfP false A1 A2 := by unfold IfP; rw [if_neg Bool.false_ne_true]; exact q
theorem if_nt (q : A2) : IfP (!true) A1 A2 := if_f q
theorem if_nf (q : A1) : IfP (!false) A1 A2 := if_t q
theorem if_y {c : Bool} (h : c = true) (q : A1) : IfP c A1 A2 := by subst h; exact if_t q
theorem if_n {c : Bool} (h : c = false) (q : A2) : IfP c A1 A2 := by subst h; exact if_f q
theorem if_b {c : Bool} (q1 : c = true → A1) (q2 : c = false → A2) : IfP c A1 A2 := by
  cases c with
  | true => exact if_t (q1 rfl)
  | false => exact if_f (q2 rfl)
theorem if_d {p : Prop} [Decidable p] (q1 : p → A1) (q2 : ¬ p → A2) : IfP (decide p) A1 A2 := if_b (fun h => q1 (of_decide_eq_true h)) (fun h => q2 (of_decide_eq_false h))
theorem if_dn {p : Prop} [Decidable p] (q1 : ¬ p → A1) (q2 : p → A2) : IfP (!decide p) A1 A2 := by
  by_cases h : p
  · rw [decide_eq_true h]; exact if_f (q2 h)
  · rw [decide_eq_false h]; exact if_t (q1 h)
theorem if_andc {c d : Bool} {X : Prop} {B : Bool → Hp → Prop} {H : Hp} (h : B d H → X) (q : B (c && d) H) : IfP c X (B false H) := by
  cases c with
  | true => exact if_t (h q)
  | false => exact if_f q
theorem if_orc {c d : Bool} {X : Prop} {B : Bool → Hp → Prop} {H : Hp} (h : B d H → X) (q : B (c || d) H) : IfP c (B true H) X := by
  cases c with
  | true => exact if_t q
  | false => exact if_f (h q)
theorem if_dy {p : Prop} [Decidable p] (h : p) (q : A1) : IfP (decide p) A1 A2 := if_y (decide_eq_true h) q
theorem if_dno {p : Prop} [Decidable p] (h : ¬ p) (q : A2) : IfP (decide p) A1 A2 := if_n (decide_eq_false h) q
theorem if_two {c : Bool} {x y : Int} {σ : L2.St} {H : Hp} {Q' : VK} (q : ∀ n, (n = x ∨ n = y) → Q' (.int n) H) : IfP c (tC (.int x) σ H Q') (tC (.int y) σ H Q') := if_b (fun _ => q x (.inl rfl)) (fun _ => q y (.inr rfl))
/-- names, constants -/
theorem var {i : Nat} (h : σ[i]? = some (some v)) (q : Q v H) : tVar i σ H Q := ⟨v, h, q⟩
theorem cst (q : Q v H) : tC v σ H Q := q
/-- operators -/
theorem op {r : R2} (q : ta σ H fun x H1 => tb σ H1 fun y H2 => r x y H2 Q) : tOp r ta tb σ H Q := q
theorem un {r : V → Hp → VK → Prop} (q : ta σ H fun x H1 => r x H1 Q) : tUn r ta σ H Q := q
theorem i0 {g : Int → Int → V} (q : Q (g i j) H) : rI0 g (.int i) (.int j) H Q := ⟨i, j, rfl, rfl, q⟩
theorem ic {C : Int → Int → Prop} {g : Int → Int → V} (c : C i j) (q : Q (g i j) H) : rI C g (.int i) (.int j) H Q := ⟨i, j, rfl, rfl, c, q⟩
theorem uu {g : Int → V} (q : Q (g i) H) : rU g (.int i) H Q := ⟨i, rfl, q⟩
theorem eqv (q : Q (.bl (decide (x = y))) H) (h : scal x y = true := by rfl) : rEq x y H Q := ⟨h, q⟩
theorem nev (q : Q (.bl (!decide (x = y))) H) (h : scal x y = true := by rfl) : rNe x y H Q := ⟨h, q⟩
theorem eqI {p : Int} {q' : Int} : decide (V.int p = V.int q') = decide (p = q') := by simp
theorem eqS {p q' : Str} : decide (V.str p = V.str q') = decide (p = q') := by simp
theorem eqvI (q : Q (.bl (decide (i = j))) H) : rEq (.int i) (.int j) H Q := eqv (by rw [eqI]; exact q)
theorem nevI (q : Q (.bl (!decide (i = j))) H) : rNe (.int i) (.int j) H Q := nev (by rw [eqI]; exact q)
theorem eqvS {a b : Str} (q : Q (.bl (decide (a = b))) H) : rEq (.str a) (.str b) H Q := eqv (by rw [eqS]; exact q)
theorem nevS {a b : Str} (q : Q (.bl (!decide (a = b))) H) : rNe (.str a) (.str b) H Q := nev (by rw [eqS]; exact q)
/-- tests -/
theorem test (q : te σ H fun x H1 => TB x H1 B) : tTest te σ H B := q
theorem tB (q : te σ H fun x H1 => TB x H1 B) : L2.tB te σ H B := q
theorem and_ (q : t σ H fun c H1 => IfP c (u σ H1 B) (B false H1)) : tAnd t u σ H B := q
theorem or_ (q : t σ H fun c H1 => IfP c (B true H1) (u σ H1 B)) : tOr t u σ H B := q
theorem not_ (q : t σ H fun c H1 => B (!c) H1) : tNot t σ H B := q
theorem ifx (q : t σ H fun c H1 => IfP c (ta σ H1 Q) (tb σ H1 Q)) : tIf t ta tb σ H Q := q
/-- and, or, not as values -/
def BV (x : V) (H : Hp) (Q : Bool → Hp → Prop) : Prop := ∃ c, x = .bl c ∧ Q c H
theorem bv_go (q : B b H) : BV (.bl b) H B := ⟨b, rfl, q⟩
theorem andV (q : ta σ H fun x H1 => BV x H1 fun c H1 => IfP c (tb σ H1 Q) (Q (.bl false) H1)) : tAndV ta tb σ H Q := q
theorem orV (q : ta σ H fun x H1 => BV x H1 fun c H1 => IfP c (Q (.bl true) H1) (tb σ H1 Q)) : tOrV ta tb σ H Q := q
theorem notV (q : ta σ H fun x H1 => BV x H1 fun c H1 => Q (.bl (!c)) H1) : tNotV ta σ H Q := q
/-- argument lists, displays -/
theorem nil {R : List V → Hp → Prop} (q : R [] H) : tNil σ H R := q
theorem cons {R : List V → Hp → Prop} (q : ta σ H fun x H1 => tr σ H1 fun xs H2 => R (x :: xs) H2) : tCons ta tr σ H R := q
/-- a new object -/
def NewP (H : Hp) (o : HO) (Q : VK) : Prop := ∀ p, H p = none → Q (.ref p) (upd H p o)
def LstP (xs : List V) (H : Hp) (Q : VK) : Prop := xs.length ≤ sizeLine ∧ NewP H (.lst xs) Q
def TupP (xs : List V) (H : Hp) (Q : VK) : Prop := xs.length ≤ sizeLine ∧ NewP H (.tup xs) Q
theorem lst (q : tr σ H fun xs H1 => LstP xs H1 Q) : tLst tr σ H Q := q
theorem tup (q : tr σ H fun xs H1 => TupP xs H1 Q) : tTup tr σ H Q := q
theorem lstP {xs : List V} (h : xs.length ≤ sizeLine) (q : ∀ p, H p = none → Q (.ref p) (upd H p (.lst xs))) : LstP xs H Q := ⟨h, q⟩
theorem tupP {xs : List V} (h : xs.length ≤ sizeLine) (q : ∀ p, H p = none → Q (.ref p) (upd H p (.tup xs))) : TupP xs H Q := ⟨h, q⟩
/-- calls -/
def CP (sp : Sp) (vs dvs : List V) (H : Hp) (Q : VK) (E : XK) : Prop := sp (vs ++ dvs) H Q E
theorem call {sp : Sp} {dvs : List V} {E : XK} (q : tr σ H fun vs H1 => CP sp vs dvs H1 Q E) : tCall sp dvs E tr σ H Q := q
theorem cb {r : List V → Hp → VK → Prop} (q : tr σ H fun vs H1 => r vs H1 Q) : tCB r tr σ H Q := q
/-- statements -/
theorem seq (q : tu { D with nx := tw D } σ H) : tSeq tu tw D σ H := q
theorem next (q : D.nx σ H) : tNext D σ H := q
theorem ret (q : te σ H D.rt) : tRet te D σ H := q
theorem retN (q : D.rt .non H) : tRetN D σ H := q
theorem drop (q : te σ H fun _ H1 => D.nx σ H1) : tDrop te D σ H := q
theorem asg {g : TG} (q : te σ H fun x H1 => g x σ H1 D.nx) : tAsg te g D σ H := q
theorem name {i : Nat} {R : L2.St → Hp → Prop} (q : R (σ.set i (some v)) H) : gName i v σ H R := q
theorem ifs {c : TT} (q : c σ H fun b H1 => IfP b (tu D σ H1) (tw D σ H1)) : tIfS c tu tw D σ H := q
theorem brk (q : D.bk σ H) : tBreak D σ H := q
theorem cnt (q : D.ct σ H) : tCont D σ H := q
def AugP (i : Nat) (x y : V) (ip : TIp) (D : Ends) (σ : L2.St) (H : Hp) : Prop := ip x y H fun z H2 => D.nx (σ.set i (some z)) H2
theorem aug {i : Nat} {tip : TIp} (h : σ[i]? = some (some x)) (q : te σ H fun y H1 => AugP i x y tip D σ H1) : tAug i te tip D σ H := ⟨x, h, q⟩
theorem augI {n : Nat} {f : Int → Int → Int} (q : D.nx (σ.set n (some (.int (f i j)))) H) : AugP n (.int i) (.int j) (ipI f) D σ H := ⟨i, j, rfl, rfl, q⟩
/-- loops: what walks (FW), for a range -/
def FW (J : It) (g : TG) (tb : TS) (D : Ends) (σ : L2.St) (H : Hp) : Prop := ∃ W : Nat → Nat → L2.St → Hp → Prop, (∃ m, W 0 m σ H) ∧ ∀ i m σ H, W i m σ H →
  (J.stop i H ∧ D.nx σ H) ∨ (J.go i H ∧ ∃ N : L2.St → Hp → Prop, (∀ σ' H', N σ' H' → ∃ m', m' < m ∧ W (i + 1) m' σ' H') ∧ ∀ x H', J.yld i H x H' → g x σ H' fun σ2 H2 => tb { D with nx := N, ct := N, bk := D.nx } σ2 H2)
theorem for_ {wi : TI} {g : TG} (q : wi σ H fun J H1 => FW J g tu D σ H1) : tFor wi g tu D σ H := q
def R1P (vs : List V) (H : Hp) (R : It → Hp → Prop) : Prop := ∃ j : Int, vs = [.int j] ∧ -(2 ^ 62) ≤ j ∧ j < 2 ^ 62 ∧ R (Itr 0 j.toNat) H
def R2P (vs : List V) (H : Hp) (R : It → Hp → Prop) : Prop := ∃ i j : Int, vs = [.int i, .int j] ∧ (-(2 ^ 62) ≤ i ∧ i < 2 ^ 62 ∧ -(2 ^ 62) ≤ j ∧ j < 2 ^ 62) ∧ R (Itr i (j - i).toNat) H
theorem rng1 {R : It → Hp → Prop} (q : tr σ H fun vs H1 => R1P vs H1 R) : iRng1 tr σ H R := q
theorem rng2 {R : It → Hp → Prop} (q : tr σ H fun vs H1 => R2P vs H1 R) : iRng2 tr σ H R := q
theorem r1 {R : It → Hp → Prop} (h1 : -(2 ^ 62) ≤ j) (h2 : j < 2 ^ 62) (q : R (Itr 0 j.toNat) H) : R1P [.int j] H R := ⟨j, rfl, h1, h2, q⟩
theorem r2 {R : It → Hp → Prop} (h1 : -(2 ^ 62) ≤ i ∧ i < 2 ^ 62 ∧ -(2 ^ 62) ≤ j ∧ j < 2 ^ 62) (q : R (Itr i (j - i).toNat) H) : R2P [.int i, .int j] H R := ⟨i, j, rfl, h1, q⟩
theorem fwR {lo : Int} {n : Nat} {g : TG} (Pv : Nat → L2.St → Hp → Prop) (h0 : Pv 0 σ H) (hs : ∀ i σ H, i < n → Pv i σ H → g (.int (lo + i)) σ H fun σ2 H2 => tu { D with nx := Pv (i + 1), ct := Pv (i + 1), bk := D.nx } σ2 H2) (hd : ∀ σ H, Pv n σ H → D.nx σ H) :
    FW (Itr lo n) g tu D σ H := for_range Pv h0 hs hd
def LP (K : PySem.W.Frag) (x : V) (H : Hp) (R : It → Hp → Prop) : Prop := ∃ a, x = .ref a ∧ (∃ xs, SqL K H a xs) ∧ R (Itl K a) H
theorem lwk {R : It → Hp → Prop} (q : te σ H fun x H1 => LP K x H1 R) : iList K te σ H R := q
theorem lp {a : Addr} {xs : List V} {R : It → Hp → Prop} (h : SqL K H a xs) (q : R (Itl K a) H) : LP K (.ref a) H R := ⟨a, rfl, ⟨xs, h⟩, q⟩
theorem fwL {a : Addr} {g : TG} (xs : List V) (Pv : Nat → L2.St → Hp → Prop) (h0 : Pv 0 σ H) (hl : ∀ i σ H, i ≤ xs.length → Pv i σ H → SqL K H a xs)
    (hs : ∀ i x σ H, xs[i]? = some x → Pv i σ H → g x σ H fun σ2 H2 => tu { D with nx := Pv (i + 1), ct := Pv (i + 1), bk := D.nx } σ2 H2) (hd : ∀ σ H, Pv xs.length σ H → D.nx σ H) : FW (Itl K a) g tu D σ H := for_list Pv h0 hl hs hd
/-- built-in functions, under names of their own -/
def rInt1 : List V → Hp → VK → Prop := fun xs H Q => (∃ i, xs = [.int i] ∧ Q (.int i) H) ∨ ∃ k, xs = [.bl k] ∧ Q (.int (if k then 1 else 0)) H
def rAbs : List V → Hp → VK → Prop := fun xs H Q => ∃ i, xs = [.int i] ∧ Q (.int (if i < 0 then -i else i)) H
def rStrI : List V → Hp → VK → Prop := fun xs H Q => ∃ i, xs = [.int i] ∧ i.natAbs.log2 < 1920 ∧ Q (.str (toString i)) H
def rLen (K : PySem.W.Frag) : List V → Hp → VK → Prop := fun xs H Q => ∃ x n, xs = [x] ∧ LenV K x H n ∧ Q (.int n) H
theorem int1 (q : Q (.int i) H) : rInt1 [.int i] H Q := .inl ⟨i, rfl, q⟩
theorem intB {k : Bool} (q : Q (.int (if k then 1 else 0)) H) : rInt1 [.bl k] H Q := .inr ⟨k, rfl, q⟩
theorem abs1 (q : Q (.int (if i < 0 then -i else i)) H) : rAbs [.int i] H Q := ⟨i, rfl, q⟩
theorem strI (h : i.natAbs.log2 < 1920) (q : Q (.str (toString i)) H) : rStrI [.int i] H Q := ⟨i, rfl, h, q⟩
theorem lenS {s : Str} (h : s.length ≤ sizeLine) (q : Q (.int (s.length : Nat)) H) : rLen K [.str s] H Q := ⟨_, _, rfl, ⟨h, rfl⟩, q⟩
theorem lenL {p : Addr} {xs : List V} (h : SqL K H p xs) (q : Q (.int (xs.length : Nat)) H) : rLen K [.ref p] H Q := ⟨_, _, rfl, .inl ⟨_, h, rfl⟩, q⟩
theorem lenT {p : Addr} {xs : List V} (h : SqT K H p xs) (q : Q (.int (xs.length : Nat)) H) : rLen K [.ref p] H Q := ⟨_, _, rfl, .inr ⟨_, h, rfl⟩, q⟩
/-- xs[i], s[i] -/
theorem ixL {p : Addr} {xs : List V} (h : SqL K H p xs) (ha : atI xs i = some v) (q : Q v H) : rIx K (.ref p) (.int i) H Q := .inl ⟨p, xs, i, v, rfl, rfl, h, ha, q⟩
theorem ixT {p : Addr} {xs : List V} (h : SqT K H p xs) (ha : atI xs i = some v) (q : Q v H) : rIx K (.ref p) (.int i) H Q := .inr (.inl ⟨p, xs, i, v, rfl, rfl, h, ha, q⟩)
theorem ixS {s : Str} {c : Nat} (h : s.length ≤ sizeLine) (ha : atI s.cps.toList i = some c) (q : Q (.str ⟨#[c]⟩) H) : rIx K (.str s) (.int i) H Q := .inr (.inr ⟨s, i, c, rfl, rfl, h, ha, q⟩)
/-- a, b = t -/
theorem gtup {n : Nat} {a : Addr} {xs : List V} {tg : TGs} {R : L2.St → Hp → Prop} (h : SqT K H a xs) (hl : xs.length = n) (q : tg xs σ H R) : gTup K n tg (.ref a) σ H R := ⟨a, xs, rfl, h, hl, q⟩
theorem gcons {g : TG} {tg : TGs} {xs : List V} {R : L2.St → Hp → Prop} (q : g v σ H fun σ' H' => tg xs σ' H' R) : gCons g tg (v :: xs) σ H R := ⟨v, xs, rfl, q⟩
theorem gnil {R : L2.St → Hp → Prop} (q : R σ H) : gNil [] σ H R := ⟨rfl, q⟩
/-- n.bit_length() -/
def BiP (x : V) (H : Hp) (Q : VK) : Prop := ∃ i, x = .int i ∧ Q (.int (Builtin.Int.intBits i : Nat)) H
/-- o.f, o.f = v, o.m(..), C(..) -/
def FP (K : PySem.W.Frag) (f : Str) (x : V) (H : Hp) (Q : VK) : Prop := ∃ a C dx fs v, x = .ref a ∧ H a = some (.ins C dx fs) ∧ Cls K C ∧ NoAttr K C f ∧ fs.lookup f = some v ∧ Q v H
theorem fld {f : Str} (q : ta σ H fun x H1 => FP K f x H1 Q) : tFld K ta f σ H Q := q
theorem fp {f : Str} {a C dx : Addr} {fs : List (Str × V)} (h : H a = some (.ins C dx fs)) (c : Cls K C) (n : NoAttr K C f) (l : fs.lookup f = some v) (q : Q v H) : FP K f (.ref a) H Q := ⟨a, C, dx, fs, v, rfl, h, c, n, l, q⟩
def SFP (K : PySem.W.Frag) (f : Str) (y x : V) (D : Ends) (σ : L2.St) (H : Hp) : Prop := ∃ a C dx fs, x = .ref a ∧ H a = some (.ins C dx fs) ∧ Cls K C ∧ NoAttr K C f ∧ fs.length < 1000 ∧ D.nx σ (upd H a (.ins C dx (putF f y fs)))
theorem sfld {f : Str} (q : tv σ H fun y H1 => ta σ H1 fun x H2 => SFP K f y x D σ H2) : sFld K ta tv f D σ H := q
theorem sfp {f : Str} {a C dx : Addr} {fs gs : List (Str × V)} (h : H a = some (.ins C dx fs)) (c : Cls K C) (n : NoAttr K C f) (l : fs.length < 1000) (e : putF f y fs = gs) (q : D.nx σ (upd H a (.ins C dx gs))) : SFP K f y (.ref a) D σ H := ⟨a, C, dx, fs, rfl, h, c, n, l, by rw [e]; exact q⟩
theorem few {f : Str} {v : V} : ∀ {fs : List (Str × V)} {k : Nat}, fs.length ≤ k → (putF f v fs).length ≤ k + 1
  | [], k, _ => Nat.succ_le_succ (Nat.zero_le k)
  | (g, u) :: r, k, h => by
    unfold putF
    split
    · exact Nat.le_succ_of_le h
    · cases k with
      | zero => cases h
      | succ k => exact Nat.succ_le_succ (few (Nat.le_of_succ_le_succ h))
def MP (C : Addr) (m : Str) (sp : Sp) (dvs : List V) (E : XK) (t : TA) (σ : L2.St) (x : V) (H : Hp) (Q : VK) : Prop := ∃ a dx fs, x = .ref a ∧ H a = some (.ins C dx fs) ∧ fs.lookup m = none ∧ t σ H fun vs H2 => sp (x :: (vs ++ dvs)) H2 Q E
theorem meth {C : Addr} {m : Str} {sp : Sp} {dvs : List V} {E : XK} (q : ta σ H fun x H1 => MP C m sp dvs E tr σ x H1 Q) : tMeth C m sp dvs E ta tr σ H Q := q
theorem mp {C a dx : Addr} {m : Str} {sp : Sp} {dvs : List V} {E : XK} {fs : List (Str × V)} (h : H a = some (.ins C dx fs)) (n : fs.lookup m = none) (q : tr σ H fun vs H2 => CP sp (.ref a :: vs) dvs H2 Q E) : MP C m sp dvs E tr σ (.ref a) H Q := ⟨a, dx, fs, rfl, h, n, q⟩
def MkP (C : Addr) (sp : Sp) (vs dvs : List V) (H : Hp) (Q : VK) (E : XK) : Prop := ∀ x dx, H x = none → H dx = none → dx ≠ x → CP sp (.ref x :: vs) dvs (upd (upd H dx (.own x)) x (.ins C dx [])) (fun v H2 => v = .non ∧ Q (.ref x) H2) E
theorem make {C : Addr} {sp : Sp} {dvs : List V} {E : XK} (q : tr σ H fun vs H1 => MkP C sp vs dvs H1 Q E) : tMake C sp dvs E tr σ H Q := q
/-- [v] * n -/
def rRepN : R2 := fun x y H Q => ∃ l k xs, x = .ref l ∧ y = .int k ∧ H l = some (.lst xs) ∧ -(2 ^ 63) ≤ k ∧ k < 2 ^ 63 ∧ xs.length * k.toNat ≤ sizeLine ∧ ∀ p, H p = none → Q (.ref p) (upd H p (.lst (List.replicate k.toNat xs).flatten))
theorem repN {l : Addr} {n : Nat} (h : H l = some (.lst [v])) (hn : n ≤ 100000) (q : ∀ p, H p = none → Q (.ref p) (upd H p (.lst (List.replicate n v)))) : rRepN (.ref l) (.int (n : Int)) H Q :=
  ⟨l, n, [v], rfl, rfl, h, by omega, by omega, by rw [Int.toNat_natCast, sizeLine_eq]; show 1 * n ≤ _; omega, fun p hp => by
    rw [Int.toNat_natCast, show (List.replicate n [v]).flatten = List.replicate n v by simp]; exact q p hp⟩
/-- xs[i] op= e -/
def rGetN (K : PySem.W.Frag) : V → V → Hp → VK → Prop := fun x y H Q => ∃ (p : Addr) (xs : List V) (i : Nat) (v : V), x = .ref p ∧ y = .int (i : Int) ∧ SqL K H p xs ∧ i < 1000000 ∧ xs[i]? = some v ∧ Q v H
def AgP (tip : TIp) (tset : TSet) (o i x y : V) (D : Ends) (σ : L2.St) (H : Hp) : Prop := tip x y H fun z H5 => tset o i z H5 fun H6 => D.nx σ H6
theorem augS {tget : V → V → Hp → VK → Prop} {tip : TIp} {tset : TSet} (q : to σ H fun o H1 => ti σ H1 fun i H2 => tget o i H2 fun x H3 => te σ H3 fun y H4 => AgP tip tset o i x y D σ H4) : tAugS to ti te tget tip tset D σ H := q
theorem getN {p : Addr} {xs : List V} {i : Nat} (h : SqL K H p xs) (hi : i < 1000000) (hx : xs[i]? = some v) (q : Q v H) : rGetN K (.ref p) (.int (i : Int)) H Q := ⟨p, xs, i, v, rfl, rfl, h, hi, hx, q⟩
theorem agL {l : Addr} {xs : List V} {k : Nat} {f : Int → Int → Int} (h : H l = some (.lst xs)) (hk : k < xs.length) (q : D.nx σ (upd H l (.lst (xs.set k (.int (f i j)))))) : AgP (ipI f) rSetL (.ref l) (.int (k : Int)) (.int i) (.int j) D σ H :=
  ⟨i, j, rfl, rfl, l, xs, k, k, rfl, rfl, h, by unfold ixN; rw [if_pos (by omega), if_pos (by omega)]; rfl, q⟩
/-- o[i] = v -/
def SbP (ti : TE) (t : TSet) (v : V) (σ : L2.St) (o : V) (H : Hp) (R : L2.St → Hp → Prop) : Prop := ti σ H fun i H2 => t o i v H2 fun H3 => R σ H3
theorem sub {ts : TSet} {R : L2.St → Hp → Prop} (q : to σ H fun o H1 => SbP ti ts v σ o H1 R) : gSub to ti ts v σ H R := q
theorem sbp {ts : TSet} {R : L2.St → Hp → Prop} (q : ti σ H fun i H2 => ts x i v H2 fun H3 => R σ H3) : SbP ti ts v σ x H R := q
theorem setL {l : Addr} {xs : List V} {k : Int} {j : Nat} {R : Hp → Prop} (h : H l = some (.lst xs)) (hk : ixN xs.length k = some j) (q : R (upd H l (.lst (xs.set j v)))) : rSetL (.ref l) (.int k) v H R := ⟨l, xs, k, j, rfl, rfl, h, hk, q⟩
/-- slices -/
def PtP (x : V) (H : Hp) (R : Option Int → Hp → Prop) : Prop := ∃ i, x = .int i ∧ R (some i) H
theorem slc {r : V → Option Int → Option Int → Hp → VK → Prop} {tl th : TO} (q : te σ H fun x H1 => tl σ H1 fun a H2 => th σ H2 fun b H3 => r x a b H3 Q) : tSl r te tl th σ H Q := q
theorem noP {R : Option Int → Hp → Prop} (q : R none H) : tNoPart σ H R := q
theorem part {R : Option Int → Hp → Prop} (q : te σ H fun x H1 => PtP x H1 R) : tPart te σ H R := q
theorem ptp {R : Option Int → Hp → Prop} (q : R (some i) H) : PtP (.int i) H R := ⟨i, rfl, q⟩
theorem slS {z : Str} {lo hi : Option Int} (h : z.length ≤ sizeLine) (q : Q (.str (cutS z lo hi)) H) : rSlS (.str z) lo hi H Q := ⟨z, rfl, h, q⟩
/-- texts put together -/
def rCatS : R2 := fun x y H Q => ∃ i j, x = .str i ∧ y = .str j ∧ i.length + j.length ≤ sizeLine ∧ Q (.str (i ++ j)) H
theorem addS {a b : Str} (h : a.length + b.length ≤ sizeLine) (q : Q (.str (a ++ b)) H) : rCatS (.str a) (.str b) H Q := ⟨a, b, rfl, rfl, h, q⟩
theorem at_map {ns : List Int} {k : Nat} (h : k < ns.length) : atI (ns.map V.int) (k : Int) = some (.int (ns.getD k 0)) := by
  refine atI_nat ?_
  rw [List.getElem?_map, List.getElem?_eq_getElem h]
  simp [List.getD_eq_getElem?_getD, List.getElem?_eq_getElem h]
/-- methods of built-in types -/
def BmP (K : PySem.W.Frag) (T : String) (r : V → List V → Hp → VK → Prop) (t : TA) (σ : L2.St) (x : V) (H : Hp) (Q : VK) : Prop := tyV K T x H ∧ t σ H fun xs H2 => r x xs H2 Q
theorem bm {T : String} {r : V → List V → Hp → VK → Prop} (q : to σ H fun x H1 => BmP K T r tr σ x H1 Q) : tBM K T r to tr σ H Q := q
theorem bmS {T : String} {r : V → List V → Hp → VK → Prop} (h : tyV K T x H) (q : tr σ H fun xs H2 => r x xs H2 Q) : BmP K T r tr σ x H Q := ⟨h, q⟩
theorem app {l : Addr} {xs : List V} (h : H l = some (.lst xs)) (hz : xs.length < sizeLine) (q : Q .non (upd H l (.lst (xs ++ [y])))) : rAppend (.ref l) [y] H Q := ⟨l, xs, y, rfl, rfl, h, hz, q⟩
theorem tyL {p : Addr} {xs : List V} (h : SqL K H p xs) : tyV K "list" (.ref p) H := .inl ⟨rfl, _, h⟩
/-- what follows is shown once, from the word between -/
theorem cut {tz : TS} (M : L2.St → Hp → Prop) (h : tu { D with nx := M } σ H) (k : ∀ σ' H', M σ' H' → tz D σ' H') : C8.tCut tu tz D σ H := ⟨M, h, k⟩
/-- while: a word that falls -/
def WhI (W : Nat → L2.St → Hp → Prop) (m : Nat) (tb : TS) (D : Ends) (σ : L2.St) (b : Bool) (H : Hp) : Prop :=
  if b = true then ∃ N : L2.St → Hp → Prop, (∀ σ' H', N σ' H' → ∃ m', m' < m ∧ W m' σ' H') ∧ tb { D with nx := N, ct := N, bk := D.nx } σ H else D.nx σ H
theorem whI_t {W : Nat → L2.St → Hp → Prop} {m : Nat} (q : tu { D with nx := fun σ' H' => ∃ m', m' < m ∧ W m' σ' H', ct := fun σ' H' => ∃ m', m' < m ∧ W m' σ' H', bk := D.nx } σ H) : WhI W m tu D σ true H := by
  unfold WhI; rw [if_pos rfl]; exact ⟨_, fun _ _ h => h, q⟩
theorem whI_f {W : Nat → L2.St → Hp → Prop} {m : Nat} (q : D.nx σ H) : WhI W m tu D σ false H := by
  unfold WhI; rw [if_neg Bool.false_ne_true]; exact q
theorem whI_d {W : Nat → L2.St → Hp → Prop} {m : Nat} {p : Prop} [Decidable p] (q1 : p → WhI W m tu D σ true H) (q2 : ¬ p → WhI W m tu D σ false H) : WhI W m tu D σ (decide p) H := by
  by_cases h : p
  · rw [decide_eq_true h]; exact q1 h
  · rw [decide_eq_false h]; exact q2 h
theorem whI_b {W : Nat → L2.St → Hp → Prop} {m : Nat} (q1 : b = true → WhI W m tu D σ true H) (q2 : b = false → WhI W m tu D σ false H) : WhI W m tu D σ b H := by
  cases b with
  | true => exact q1 rfl
  | false => exact q2 rfl
theorem whl (W : Nat → L2.St → Hp → Prop) (m0 : Nat) (h0 : W m0 σ H) (hs : ∀ m σ' H', W m σ' H' → t σ' H' fun b H1 => WhI W m tu D σ' b H1) : tWhile t tu D σ H := ⟨W, ⟨m0, h0⟩, hs⟩
/-- any walk -/
theorem fw {J : It} {n : Nat} {G : Hp → Prop} {Y : Nat → Hp → V → Hp → Prop} {g : TG} (w : Walk J n G Y) (Pv : Nat → L2.St → Hp → Prop) (h0 : Pv 0 σ H) (hG : ∀ i σ H, i ≤ n → Pv i σ H → G H)
    (hs : ∀ i x σ H H', i < n → Pv i σ H → Y i H x H' → g x σ H' fun σ2 H2 => tu { D with nx := Pv (i + 1), ct := Pv (i + 1), bk := D.nx } σ2 H2) (hd : ∀ σ H, Pv n σ H → D.nx σ H) : FW J g tu D σ H := for_it w Pv h0 hG hs hd
def StrP (x : V) (H : Hp) (R : It → Hp → Prop) : Prop := ∃ z, x = .str z ∧ R (Its z) H
theorem strw {R : It → Hp → Prop} (q : te σ H fun x H1 => StrP x H1 R) : iStr te σ H R := q
theorem strp {z : Str} {R : It → Hp → Prop} (q : R (Its z) H) : StrP (.str z) H R := ⟨z, rfl, q⟩
/-- comprehensions -/
def LcP (J : It) (g : TG) (tt : TT) (te : TE) (vs : List Nat) (σ : L2.St) (Q : VK) (H1 : Hp) : Prop := ∀ D, H1 D = none → ∃ W : Nat → Nat → Hp → Prop, (∃ m, W 0 m (upd H1 D (.lst []))) ∧ ∀ i m H, W i m H →
  (J.stop i H ∧ Q (.ref D) H) ∨ (J.go i H ∧ ∃ Nx : Hp → Prop, (∀ H', Nx H' → ∃ m', m' < m ∧ W (i + 1) m' H') ∧ ∀ x H', J.yld i H x H' → g x (wipe σ vs) H' fun σ2 H2 => wipe σ2 vs = wipe σ vs ∧ tt σ2 H2 fun b H3 =>
    if b = true then te σ2 H3 fun y H4 => ∃ acc, H4 D = some (.lst acc) ∧ acc.length < sizeLine ∧ Nx (upd H4 D (.lst (acc ++ [y]))) else Nx H3)
theorem lc {wi : TI} {g : TG} {vs : List Nat} (q : wi σ H fun J H1 => LcP J g t te vs σ Q H1) : tLc wi g t te vs σ H Q := q
def WP (A B : Prop) : Prop := A ∧ B
theorem wp (h : A1) (q : A2) : WP A1 A2 := ⟨h, q⟩
theorem yes (q : B true H) : tYes σ H B := q
theorem same_up {H H' : Hp} {p : Addr} {o : HO} (h : H p = none) (s : Same H H') : Same H (upd H' p o) := fun a u e => by rw [upd_ne (ne_of_none e h)]; exact s a u e
theorem same_new {H : Hp} {p : Addr} {o : HO} (h : H p = none) : Same H (upd H p o) := same_up h (Same.refl H)
theorem snoc {H : Hp} {p : Addr} {xs : List Int} {z : Int} : upd H p (.lst (xs.map V.int ++ [.int z])) p = some (.lst ((xs ++ [z]).map V.int)) := by rw [upd_same, List.map_append]; rfl
/-- a comprehension whose turns leave what stands: the list of the turns that are kept -/
theorem lcFil {J : It} {n : Nat} {G : Hp → Prop} {Y : Nat → Hp → V → Hp → Prop} {g : TG} {vs : List Nat} (w : Walk J n G Y) (hn : n < 16777216) (c : Nat → Bool) (f : Nat → V) (hG : ∀ H', Same H H' → G H') (hY : ∀ i H x H', Y i H x H' → Same H H')
    (hs : ∀ i x H1 H' (R : V → Hp → Prop) (R0 : Hp → Prop), i < n → Same H H1 → Y i H1 x H' → (c i = true → ∀ H4, Same H' H4 → R (f i) H4) → (c i = false → ∀ H4, Same H' H4 → R0 H4) →
      g x (wipe σ vs) H' fun σ2 H2 => WP (wipe σ2 vs = wipe σ vs) (t σ2 H2 fun b H3 => IfP b (te σ2 H3 R) (R0 H3)))
    (q : ∀ p H2, H p = none → Same H H2 → H2 p = some (.lst (((List.range n).filter c).map f)) → Q (.ref p) H2) : LcP J g t te vs σ Q H := fun p hp => by
  refine lc_it w (fun i H' => Same H H' ∧ H' p = some (.lst (((List.range i).filter c).map f))) ⟨same_new hp, upd_same⟩ (fun i H' _ h => hG H' h.1) (fun i x H1 H' hi h y => ?_) (fun H' h => q p H' hp h.1 h.2)
  obtain ⟨h1, h2⟩ := h
  have s1 := hY i H1 x H' y
  refine hs i x H1 H' _ _ hi h1 y (fun hc H4 s4 => ⟨_, s4 _ _ (s1 _ _ h2), ?_, same_up hp (h1.trans (s1.trans s4)), ?_⟩) (fun hc H4 s4 => ⟨h1.trans (s1.trans s4), ?_⟩)
  · rw [List.length_map]
    have := List.length_filter_le c (List.range i)
    rw [List.length_range] at this
    rw [sizeLine_eq]; omega
  · rw [upd_same, List.range_succ, List.filter_append, List.map_append, List.filter_cons, if_pos hc]; rfl
  · rw [List.range_succ, List.filter_append, List.map_append, List.filter_cons, if_neg (by rw [hc]; decide)]
    rw [s4 _ _ (s1 _ _ h2)]; simp
theorem lcMap {J : It} {n : Nat} {G : Hp → Prop} {Y : Nat → Hp → V → Hp → Prop} {g : TG} {vs : List Nat} (w : Walk J n G Y) (hn : n < 16777216) (f : Nat → V) (hG : ∀ H', Same H H' → G H') (hY : ∀ i H x H', Y i H x H' → Same H H')
    (hs : ∀ i x H1 H' (R : V → Hp → Prop) (R0 : Hp → Prop), i < n → Same H H1 → Y i H1 x H' → (∀ H4, Same H' H4 → R (f i) H4) →
      g x (wipe σ vs) H' fun σ2 H2 => WP (wipe σ2 vs = wipe σ vs) (t σ2 H2 fun b H3 => IfP b (te σ2 H3 R) (R0 H3)))
    (q : ∀ p H2, H p = none → Same H H2 → H2 p = some (.lst ((List.range n).map f)) → Q (.ref p) H2) : LcP J g t te vs σ Q H := by
  refine lcFil w hn (fun _ => true) f hG hY (fun i x H1 H' R R0 hi h1 y hr _ => hs i x H1 H' R R0 hi h1 y (hr rfl)) ?_
  rw [List.filter_eq_self.mpr (fun _ _ => rfl)]
  exact q
theorem sameFn {f : Nat → V} : ∀ i H x H', YFn f i H x H' → Same H H' := fun _ _ _ _ y => y.1 ▸ Same.refl _
theorem sameAt {xs : List V} : ∀ i H x H', YAt xs i H x H' → Same H H' := fun _ _ _ _ y => y.1 ▸ Same.refl _
/-- reversed ranges -/
def RrP (a b : Int) (H : Hp) (R : It → Hp → Prop) : Prop := -(2 ^ 62) ≤ a ∧ a < 2 ^ 62 ∧ -(2 ^ 62) ≤ b ∧ b < 2 ^ 62 ∧ R (Itc (a + (((b - a).toNat : Nat) : Int) - 1) (-1) (b - a).toNat) H
def Rg1P (x : V) (H : Hp) (R : Int → Int → Hp → Prop) : Prop := ∃ j, x = .int j ∧ R 0 j H
theorem rrv {tr : L2.St → Hp → (Int → Int → Hp → Prop) → Prop} {R : It → Hp → Prop} (q : tr σ H fun a b H1 => RrP a b H1 R) : iRevR tr σ H R := q
theorem rr {a b : Int} {R : It → Hp → Prop} (h : -(2 ^ 62) ≤ a ∧ a < 2 ^ 62 ∧ -(2 ^ 62) ≤ b ∧ b < 2 ^ 62) (q : R (Itc (a + (((b - a).toNat : Nat) : Int) - 1) (-1) (b - a).toNat) H) : RrP a b H R := ⟨h.1, h.2.1, h.2.2.1, h.2.2.2, q⟩
theorem rg1 {R : Int → Int → Hp → Prop} (q : ta σ H fun x H1 => Rg1P x H1 R) : tRg1 ta σ H R := q
theorem rg1p {R : Int → Int → Hp → Prop} (q : R 0 j H) : Rg1P (.int j) H R := ⟨j, rfl, q⟩
/-- isinstance with a built-in class -/
theorem isi {n : String} {tv : Value} (ty : TyX K H x tv) (q : Q (.bl b) H) (e : PySem.W.kitOne K tv (.type n) = some b) : rIsi K [x, .ty n] H Q := ⟨x, .ty n, tv, .type n, b, rfl, .ty n, ty, e, q⟩
theorem isiI {n : String} (q : Q (.bl b) H) (e : kitB "int" n = some b) : rIsi K [.int i, .ty n] H Q := isi (.base (.int i)) q (kit_ty e)
theorem isiS {n : String} {z : Str} (q : Q (.bl b) H) (e : kitB "str" n = some b) : rIsi K [.str z, .ty n] H Q := isi (.base (.str z)) q (kit_ty e)
theorem isiB {n : String} {k : Bool} (q : Q (.bl b) H) (e : kitB "bool" n = some b) : rIsi K [.bl k, .ty n] H Q := isi (.base (.bl k)) q (kit_ty e)
theorem isiN {n : String} (q : Q (.bl b) H) (e : kitB "NoneType" n = some b) : rIsi K [.non, .ty n] H Q := isi (.base .non) q (kit_ty e)
/-- int of a text, order of texts -/
def rIntS : List V → Hp → VK → Prop := fun xs H Q => ∃ a n, xs = [.str a] ∧ PySem.intText? a = some n ∧ a.length ≤ 640 ∧ Q (.int n) H
theorem intS {a : Str} {n : Int} (h : PySem.intText? a = some n) (hl : a.length ≤ 640) (q : Q (.int n) H) : rIntS [.str a] H Q := ⟨a, n, rfl, h, hl, q⟩
def rLtS : R2 := fun x y H Q => ∃ i j, x = .str i ∧ y = .str j ∧ Q (.bl (decide (i.cps.toList < j.cps.toList))) H
theorem ltS {a b : Str} (q : Q (.bl (decide (a.cps.toList < b.cps.toList))) H) : rLtS (.str a) (.str b) H Q := ⟨a, b, rfl, rfl, q⟩
theorem eqB {p q' : Bool} : decide (V.bl p = V.bl q') = decide (p = q') := by simp
theorem eqvB {a b : Bool} (q : Q (.bl (decide (a = b))) H) : rEq (.bl a) (.bl b) H Q := eqv (by rw [eqB]; exact q)
def rMin2 : List V → Hp → VK → Prop := fun xs H Q => ∃ i j, xs = [.int i, .int j] ∧ Q (.int (if j < i then j else i)) H
def rMax2 : List V → Hp → VK → Prop := fun xs H Q => ∃ i j, xs = [.int i, .int j] ∧ Q (.int (if j > i then j else i)) H
theorem min2 (q : Q (.int (if j < i then j else i)) H) : rMin2 [.int i, .int j] H Q := ⟨i, j, rfl, q⟩
theorem max2 (q : Q (.int (if j > i then j else i)) H) : rMax2 [.int i, .int j] H Q := ⟨i, j, rfl, q⟩
/-- x in (..), of ints -/
theorem inT {p : Addr} {xs : List V} {neg : Bool} (h : SqT K H p xs) (f : xs.all flatV = true) (q : Q (.bl (if neg then !inV (.int i) xs else inV (.int i) xs)) H) : rIn K neg (.int i) (.ref p) H Q := ⟨p, xs, rfl, .inr h, rfl, f, q⟩
/-- == of lists of ints -/
theorem eqvAll_int : ∀ xs ys : List Int, PyData.eqvAll (xs.map .int) (ys.map .int) = decide (xs = ys)
  | [], [] => by simp [PyData.eqvAll]
  | [], _ :: _ => by simp [PyData.eqvAll]
  | _ :: _, [] => by simp [PyData.eqvAll]
  | x :: xs, y :: ys => by
    simp only [List.map_cons, PyData.eqvAll, PyData.eqv, eqvAll_int xs ys]
    by_cases h : x = y
    · subst h; simp
    · simp [h]
theorem canLay_ints : ∀ xs : List Int, PyData.canLayAll0 (xs.map .int) = true
  | [] => rfl
  | _ :: xs => by simp [PyData.canLayAll0, PyData.canLay0, canLay_ints xs]
theorem depth_ints : ∀ xs : List Int, PyData.depthAll (xs.map .int) = 0
  | [] => rfl
  | _ :: xs => by simp [PyData.depthAll, PyData.depth, depth_ints xs]
theorem shaped_ints (xs : List Int) : SeqAt.shaped (.list (xs.map .int)) = true := by
  simp [SeqAt.shaped, PyData.canLay0, PyData.depth, canLay_ints, depth_ints]
theorem shaped_tints (xs : List Int) : SeqAt.shaped (.tuple (xs.map .int)) = true := by
  simp [SeqAt.shaped, PyData.canLay0, PyData.depth, canLay_ints, depth_ints]
theorem dpAll_int : ∀ xs : List Int, DpAll K H (xs.map V.int) (xs.map PyData.int)
  | [] => .nil
  | x :: xs => .cons (.int x) (dpAll_int xs)
theorem eqDI {p q' : Addr} {xs ys : List Int} (h1 : SqL K H p (xs.map V.int)) (h2 : SqL K H q' (ys.map V.int)) (q : Q (.bl (decide (xs = ys))) H) : rEqD K (.ref p) (.ref q') H Q :=
  ⟨_, _, .lst h1 (dpAll_int xs), .lst h2 (dpAll_int ys), shaped_ints xs, shaped_ints ys, by rw [show PyData.eqv (.list (xs.map .int)) (.list (ys.map .int)) = decide (xs = ys) from eqvAll_int xs ys]; exact q⟩
theorem neDI {p q' : Addr} {xs ys : List Int} (h1 : SqL K H p (xs.map V.int)) (h2 : SqL K H q' (ys.map V.int)) (q : Q (.bl (!decide (xs = ys))) H) : rNeD K (.ref p) (.ref q') H Q :=
  ⟨_, _, .lst h1 (dpAll_int xs), .lst h2 (dpAll_int ys), shaped_ints xs, shaped_ints ys, by rw [show PyData.eqv (.list (xs.map .int)) (.list (ys.map .int)) = decide (xs = ys) from eqvAll_int xs ys]; exact q⟩
theorem eqDT {p q' : Addr} {xs ys : List Int} (h1 : SqT K H p (xs.map V.int)) (h2 : SqT K H q' (ys.map V.int)) (q : Q (.bl (decide (xs = ys))) H) : rEqD K (.ref p) (.ref q') H Q :=
  ⟨_, _, .tup h1 (dpAll_int xs), .tup h2 (dpAll_int ys), shaped_tints xs, shaped_tints ys, by rw [show PyData.eqv (.tuple (xs.map .int)) (.tuple (ys.map .int)) = decide (xs = ys) from eqvAll_int xs ys]; exact q⟩
theorem neDT {p q' : Addr} {xs ys : List Int} (h1 : SqT K H p (xs.map V.int)) (h2 : SqT K H q' (ys.map V.int)) (q : Q (.bl (!decide (xs = ys))) H) : rNeD K (.ref p) (.ref q') H Q :=
  ⟨_, _, .tup h1 (dpAll_int xs), .tup h2 (dpAll_int ys), shaped_tints xs, shaped_tints ys, by rw [show PyData.eqv (.tuple (xs.map .int)) (.tuple (ys.map .int)) = decide (xs = ys) from eqvAll_int xs ys]; exact q⟩
/-- all, any, sum, list(..) of a list -/
theorem allP {p : Addr} {bs : List Bool} (h : SqL K H p (bs.map V.bl)) (q : Q (.bl (bs.all id)) H) : L2.rAll K [.ref p] H Q := ⟨p, bs, rfl, h, q⟩
theorem anyP {p : Addr} {bs : List Bool} (h : SqL K H p (bs.map V.bl)) (q : Q (.bl (bs.any id)) H) : L2.rAny K [.ref p] H Q := ⟨p, bs, rfl, h, q⟩
theorem sumP {p : Addr} {ns : List Int} (h : SqL K H p (ns.map V.int)) (q : Q (.int ns.sum) H) : L2.rSum K [.ref p] H Q := ⟨p, ns, rfl, h, q⟩
def rList (K : PySem.W.Frag) : List V → Hp → VK → Prop := fun xs H Q => ∃ p ys, xs = [.ref p] ∧ (SqL K H p ys ∨ SqT K H p ys) ∧ ∀ l, H l = none → Q (.ref l) (upd H l (.lst ys))
theorem listL {p : Addr} {xs : List V} (h : SqL K H p xs) (q : ∀ l, H l = none → Q (.ref l) (upd H l (.lst xs))) : rList K [.ref p] H Q := ⟨p, xs, rfl, .inl h, q⟩
theorem listT {p : Addr} {xs : List V} (h : SqT K H p xs) (q : ∀ l, H l = none → Q (.ref l) (upd H l (.lst xs))) : rList K [.ref p] H Q := ⟨p, xs, rfl, .inr h, q⟩
def rDivmod : List V → Hp → VK → Prop := fun xs H Q => ∃ i j, xs = [.int i, .int j] ∧ CDiv i j ∧ ∀ p, H p = none → Q (.ref p) (upd H p (.tup [.int (i / j), .int (i % j)]))
theorem dvm (c : CDiv i j) (q : ∀ p, H p = none → Q (.ref p) (upd H p (.tup [.int (i / j), .int (i % j)]))) : rDivmod [.int i, .int j] H Q := ⟨i, j, rfl, c, q⟩
theorem cat {l b : Addr} {xs zs : List V} (h1 : H l = some (.lst xs)) (h2 : H b = some (.lst zs)) (hz : xs.length + zs.length ≤ sizeLine) (q : ∀ p, H p = none → Q (.ref p) (upd H p (.lst (xs ++ zs)))) : rCat (.ref l) (.ref b) H Q := ⟨l, b, xs, zs, rfl, rfl, h1, h2, hz, q⟩
def TwP (K : PySem.W.Frag) (x : V) (H : Hp) (R : It → Hp → Prop) : Prop := ∃ a, x = .ref a ∧ (∃ xs, SqT K H a xs) ∧ R (Itt K a) H
theorem twk {R : It → Hp → Prop} (q : te σ H fun x H1 => TwP K x H1 R) : iTup K te σ H R := q
theorem twp {a : Addr} {xs : List V} {R : It → Hp → Prop} (h : SqT K H a xs) (q : R (Itt K a) H) : TwP K (.ref a) H R := ⟨a, rfl, ⟨xs, h⟩, q⟩
/-- a list of tuples of ints -/
def TL (H : Hp) (l : Addr) (n : Nat) (f : Nat → List Int) : Prop := ∃ ps : List Addr, H l = some (.lst (ps.map V.ref)) ∧ ps.length = n ∧ ∀ j a, ps[j]? = some a → H a = some (.tup ((f j).map V.int))
theorem TL.keep {H' : Hp} {l : Addr} {n : Nat} {f : Nat → List Int} (t : TL H l n f) (s : Same H H') : TL H' l n f := by
  obtain ⟨ps, h1, h2, h3⟩ := t
  exact ⟨ps, s _ _ h1, h2, fun j a e => s _ _ (h3 j a e)⟩
theorem TL.nil {l : Addr} {f : Nat → List Int} (h : H l = some (.lst [])) : TL H l 0 f := ⟨[], h, rfl, fun j a e => by cases e⟩
theorem TL.snoc {l t : Addr} {n : Nat} {f : Nat → List Int} (x : TL H l n f) (h : H t = some (.tup ((f n).map V.int))) : ∃ xs, H l = some (.lst xs) ∧ xs.length = n ∧ TL (upd H l (.lst (xs ++ [.ref t]))) l (n + 1) f := by
  obtain ⟨ps, h1, h2, h3⟩ := x
  have ne : ∀ {a : Addr} {ys : List V}, H a = some (.tup ys) → a ≠ l := fun e => ne_of e h1 (by intro z; cases z)
  refine ⟨_, h1, by rw [List.length_map]; exact h2, ps ++ [t], by rw [upd_same, List.map_append]; rfl, by rw [List.length_append, h2]; rfl, fun j a e => ?_⟩
  by_cases hj : j < ps.length
  · rw [List.getElem?_append_left hj] at e
    rw [upd_ne (ne (h3 j a e))]; exact h3 j a e
  · rw [List.getElem?_append_right (by omega)] at e
    have hj2 : j - ps.length = 0 := by
      rcases Nat.eq_zero_or_pos (j - ps.length) with z | z
      · exact z
      · rw [List.getElem?_eq_none (by show 1 ≤ _; omega)] at e; cases e
    rw [hj2] at e
    have e2 : t = a := Option.some.inj e
    subst e2
    rw [upd_ne (ne h), show j = n by omega]; exact h
theorem TL.len {l : Addr} {n : Nat} {f : Nat → List Int} (x : TL H l n f) : ∃ xs, H l = some (.lst xs) ∧ xs.length = n := by
  obtain ⟨ps, h1, h2, h3⟩ := x
  exact ⟨_, h1, by rw [List.length_map]; exact h2⟩
theorem TL.get {l : Addr} {n j : Nat} {f : Nat → List Int} (x : TL H l n f) (hj : j < n) : ∃ xs a, H l = some (.lst xs) ∧ atI xs (j : Int) = some (.ref a) ∧ H a = some (.tup ((f j).map V.int)) := by
  obtain ⟨ps, h1, h2, h3⟩ := x
  have hj2 : j < ps.length := by omega
  refine ⟨_, ps[j], h1, atI_nat ?_, h3 j _ (List.getElem?_eq_getElem hj2)⟩
  rw [List.getElem?_map, List.getElem?_eq_getElem hj2]; rfl
theorem dp_tups : ∀ (ps : List Addr) (g : Nat → List Int), (∀ j a, ps[j]? = some a → H a = some (.tup ((g j).map V.int))) → DpAll K H (ps.map V.ref) ((List.range ps.length).map fun j => PyData.tuple ((g j).map PyData.int))
  | [], _, _ => .nil
  | a :: ps, g, h => by
    rw [List.length_cons, List.range_succ_eq_map, List.map_cons, List.map_cons, List.map_map]
    exact .cons (.tup (SqT.of (h 0 a rfl)) (dpAll_int _)) (dp_tups ps (fun j => g (j + 1)) fun j b e => h (j + 1) b (by simpa using e))
theorem lay_tups : ∀ rows : List (List Int), PyData.canLayAll0 (rows.map fun r => PyData.tuple (r.map PyData.int)) = true ∧ PyData.depthAll (rows.map fun r => PyData.tuple (r.map PyData.int)) ≤ 1 ∧ PyData.eqvAll (rows.map fun r => PyData.tuple (r.map PyData.int)) (rows.map fun r => PyData.tuple (r.map PyData.int)) = true
  | [] => ⟨rfl, by simp [PyData.depthAll], by simp [PyData.eqvAll]⟩
  | r :: rows => by
    obtain ⟨h1, h2, h3⟩ := lay_tups rows
    refine ⟨by simp [PyData.canLayAll0, PyData.canLay0, canLay_ints, h1], ?_, ?_⟩
    · simp only [List.map_cons, PyData.depthAll, PyData.depth, depth_ints]; omega
    · simp [PyData.eqvAll, PyData.eqv, eqvAll_int, h3]
theorem TL.dp {l : Addr} {n : Nat} {f : Nat → List Int} (x : TL H l n f) : Dp K H (.ref l) (.list (((List.range n).map f).map fun r => PyData.tuple (r.map PyData.int))) := by
  obtain ⟨ps, h1, h2, h3⟩ := x
  have := dp_tups (K := K) ps f h3
  rw [h2] at this
  rw [List.map_map]
  exact .lst (SqL.of h1) this
theorem shaped_tups (rows : List (List Int)) : SeqAt.shaped (.list (rows.map fun r => PyData.tuple (r.map PyData.int))) = true := by
  obtain ⟨h1, h2, _⟩ := lay_tups rows
  unfold SeqAt.shaped
  simp only [PyData.canLay0, PyData.depth, h1, Bool.true_and]
  exact decide_eq_true (by omega)
theorem eqTL {l m : Addr} {n : Nat} {f : Nat → List Int} (x : TL H l n f) (y : TL H m n f) (q : Q (.bl true) H) : rEqD K (.ref l) (.ref m) H Q :=
  ⟨_, _, x.dp, y.dp, shaped_tups _, shaped_tups _, by rw [show PyData.eqv (.list (((List.range n).map f).map fun r => PyData.tuple (r.map PyData.int))) (.list (((List.range n).map f).map fun r => PyData.tuple (r.map PyData.int))) = true from (lay_tups _).2.2]; exact q⟩
theorem neTL {l m : Addr} {n : Nat} {f : Nat → List Int} (x : TL H l n f) (y : TL H m n f) (q : Q (.bl false) H) : rNeD K (.ref l) (.ref m) H Q :=
  ⟨_, _, x.dp, y.dp, shaped_tups _, shaped_tups _, by rw [show PyData.eqv (.list (((List.range n).map f).map fun r => PyData.tuple (r.map PyData.int))) (.list (((List.range n).map f).map fun r => PyData.tuple (r.map PyData.int))) = true from (lay_tups _).2.2]; exact q⟩
/-- a comprehension whose turns make a tuple each -/
theorem lcTup {J : It} {n : Nat} {G : Hp → Prop} {Y : Nat → Hp → V → Hp → Prop} {g : TG} {vs : List Nat} (w : Walk J n G Y) (hn : n < 16777216) (f : Nat → List Int) (hG : ∀ H', Same H H' → G H') (hY : ∀ i H x H', Y i H x H' → Same H H')
    (hs : ∀ i x H1 H' (R : V → Hp → Prop) (R0 : Hp → Prop), i < n → Same H H1 → Y i H1 x H' → (∀ p H4, Same H' H4 → H4 p = some (.tup ((f i).map V.int)) → R (.ref p) H4) →
      g x (wipe σ vs) H' fun σ2 H2 => WP (wipe σ2 vs = wipe σ vs) (t σ2 H2 fun b H3 => IfP b (te σ2 H3 R) (R0 H3)))
    (q : ∀ p H2, H p = none → Same H H2 → TL H2 p n f → Q (.ref p) H2) : LcP J g t te vs σ Q H := fun p hp => by
  refine lc_it w (fun i H' => Same H H' ∧ TL H' p i f) ⟨same_new hp, TL.nil upd_same⟩ (fun i H' _ h => hG H' h.1) (fun i x H1 H' hi h y => ?_) (fun H' h => q p H' hp h.1 h.2)
  obtain ⟨h1, h2⟩ := h
  have s1 := hY i H1 x H' y
  refine hs i x H1 H' _ _ hi h1 y (fun a H4 s4 ha => ?_)
  obtain ⟨xs, e1, e2, e3⟩ := (h2.keep (s1.trans s4)).snoc ha
  exact ⟨xs, e1, by rw [sizeLine_eq]; omega, same_up hp (h1.trans (s1.trans s4)), e3⟩
/-- a list of lists of ints -/
def LL (H : Hp) (l : Addr) (n : Nat) (f : Nat → List Int) : Prop := ∃ ps : List Addr, H l = some (.lst (ps.map V.ref)) ∧ ps.length = n ∧ ∀ j a, ps[j]? = some a → H a = some (.lst ((f j).map V.int))
theorem LL.keep {H' : Hp} {l : Addr} {n : Nat} {f : Nat → List Int} (t : LL H l n f) (s : Same H H') : LL H' l n f := by
  obtain ⟨ps, h1, h2, h3⟩ := t
  exact ⟨ps, s _ _ h1, h2, fun j a e => s _ _ (h3 j a e)⟩
theorem LL.nil {l : Addr} {f : Nat → List Int} (h : H l = some (.lst [])) : LL H l 0 f := ⟨[], h, rfl, fun j a e => by cases e⟩
theorem LL.snoc {l t : Addr} {n : Nat} {f : Nat → List Int} (x : LL H l n f) (h : H t = some (.lst ((f n).map V.int))) (ne : t ≠ l) : ∃ xs, H l = some (.lst xs) ∧ xs.length = n ∧ LL (upd H l (.lst (xs ++ [.ref t]))) l (n + 1) f := by
  obtain ⟨ps, h1, h2, h3⟩ := x
  have nl : ∀ {j : Nat} {a : Addr}, ps[j]? = some a → a ≠ l := fun {j a} e z => by
    have e2 := h3 j a e
    rw [z, h1] at e2
    have e3 : ps.map V.ref = (f j).map V.int := by injection e2 with e2; injection e2
    cases hp : ps with
    | nil => rw [hp] at e; cases e
    | cons b r =>
      rw [hp] at e3
      cases hf : f j with
      | nil => rw [hf] at e3; cases e3
      | cons z zs => rw [hf] at e3; injection e3 with e4; cases e4
  refine ⟨_, h1, by rw [List.length_map]; exact h2, ps ++ [t], by rw [upd_same, List.map_append]; rfl, by rw [List.length_append, h2]; rfl, fun j a e => ?_⟩
  by_cases hj : j < ps.length
  · rw [List.getElem?_append_left hj] at e
    rw [upd_ne (nl e)]; exact h3 j a e
  · rw [List.getElem?_append_right (by omega)] at e
    have hj2 : j - ps.length = 0 := by
      rcases Nat.eq_zero_or_pos (j - ps.length) with z | z
      · exact z
      · rw [List.getElem?_eq_none (by show 1 ≤ _; omega)] at e; cases e
    rw [hj2] at e
    have e2 : t = a := Option.some.inj e
    subst e2
    rw [upd_ne ne, show j = n by omega]; exact h
theorem LL.len {l : Addr} {n : Nat} {f : Nat → List Int} (x : LL H l n f) : ∃ xs, H l = some (.lst xs) ∧ xs.length = n := by
  obtain ⟨ps, h1, h2, h3⟩ := x
  exact ⟨_, h1, by rw [List.length_map]; exact h2⟩
theorem LL.all {l : Addr} {n : Nat} {f : Nat → List Int} (x : LL H l n f) : ∃ xs, H l = some (.lst xs) ∧ xs.length = n ∧ ∀ j v, xs[j]? = some v → ∃ a, v = .ref a ∧ H a = some (.lst ((f j).map V.int)) := by
  obtain ⟨ps, h1, h2, h3⟩ := x
  refine ⟨_, h1, by rw [List.length_map]; exact h2, fun j v e => ?_⟩
  rw [List.getElem?_map] at e
  cases ea : ps[j]? with
  | none => rw [ea] at e; cases e
  | some a => rw [ea] at e; exact ⟨a, (Option.some.inj e).symm, h3 j a ea⟩
theorem LL.get {l : Addr} {n j : Nat} {f : Nat → List Int} (x : LL H l n f) (hj : j < n) : ∃ xs a, H l = some (.lst xs) ∧ atI xs (j : Int) = some (.ref a) ∧ H a = some (.lst ((f j).map V.int)) := by
  obtain ⟨ps, h1, h2, h3⟩ := x
  have hj2 : j < ps.length := by omega
  refine ⟨_, ps[j], h1, atI_nat ?_, h3 j _ (List.getElem?_eq_getElem hj2)⟩
  rw [List.getElem?_map, List.getElem?_eq_getElem hj2]; rfl
theorem LL.congr {l : Addr} {n : Nat} {f g : Nat → List Int} (x : LL H l n f) (h : ∀ j, j < n → f j = g j) : LL H l n g := by
  obtain ⟨ps, h1, h2, h3⟩ := x
  refine ⟨ps, h1, h2, fun j a e => ?_⟩
  have hj : j < ps.length := by
    rcases Nat.lt_or_ge j ps.length with z | z
    · exact z
    · rw [List.getElem?_eq_none z] at e; cases e
  rw [← h j (by omega)]; exact h3 j a e
theorem dp_lists : ∀ (ps : List Addr) (g : Nat → List Int), (∀ j a, ps[j]? = some a → H a = some (.lst ((g j).map V.int))) → DpAll K H (ps.map V.ref) ((List.range ps.length).map fun j => PyData.list ((g j).map PyData.int))
  | [], _, _ => .nil
  | a :: ps, g, h => by
    rw [List.length_cons, List.range_succ_eq_map, List.map_cons, List.map_cons, List.map_map]
    exact .cons (.lst (SqL.of (h 0 a rfl)) (dpAll_int _)) (dp_lists ps (fun j => g (j + 1)) fun j b e => h (j + 1) b (by simpa using e))
theorem lay_lists : ∀ rows : List (List Int), PyData.canLayAll0 (rows.map fun r => PyData.list (r.map PyData.int)) = true ∧ PyData.depthAll (rows.map fun r => PyData.list (r.map PyData.int)) ≤ 1 ∧ PyData.eqvAll (rows.map fun r => PyData.list (r.map PyData.int)) (rows.map fun r => PyData.list (r.map PyData.int)) = true
  | [] => ⟨rfl, by simp [PyData.depthAll], by simp [PyData.eqvAll]⟩
  | r :: rows => by
    obtain ⟨h1, h2, h3⟩ := lay_lists rows
    refine ⟨by simp [PyData.canLayAll0, PyData.canLay0, canLay_ints, h1], ?_, ?_⟩
    · simp only [List.map_cons, PyData.depthAll, PyData.depth, depth_ints]; omega
    · simp [PyData.eqvAll, PyData.eqv, eqvAll_int, h3]
theorem LL.dp {l : Addr} {n : Nat} {f : Nat → List Int} (x : LL H l n f) : Dp K H (.ref l) (.list (((List.range n).map f).map fun r => PyData.list (r.map PyData.int))) := by
  obtain ⟨ps, h1, h2, h3⟩ := x
  have := dp_lists (K := K) ps f h3
  rw [h2] at this
  rw [List.map_map]
  exact .lst (SqL.of h1) this
theorem shaped_lists (rows : List (List Int)) : SeqAt.shaped (.list (rows.map fun r => PyData.list (r.map PyData.int))) = true := by
  obtain ⟨h1, h2, _⟩ := lay_lists rows
  unfold SeqAt.shaped
  simp only [PyData.canLay0, PyData.depth, h1, Bool.true_and]
  exact decide_eq_true (by omega)
theorem eqLL {l m : Addr} {n : Nat} {f : Nat → List Int} (x : LL H l n f) (y : LL H m n f) (q : Q (.bl true) H) : rEqD K (.ref l) (.ref m) H Q :=
  ⟨_, _, x.dp, y.dp, shaped_lists _, shaped_lists _, by rw [show PyData.eqv (.list (((List.range n).map f).map fun r => PyData.list (r.map PyData.int))) (.list (((List.range n).map f).map fun r => PyData.list (r.map PyData.int))) = true from (lay_lists _).2.2]; exact q⟩
/-- a comprehension whose turns make a list each -/
theorem lcLst {J : It} {n : Nat} {G : Hp → Prop} {Y : Nat → Hp → V → Hp → Prop} {g : TG} {vs : List Nat} (w : Walk J n G Y) (hn : n < 16777216) (f : Nat → List Int) (hG : ∀ H', Same H H' → G H') (hY : ∀ i H x H', Y i H x H' → Same H H')
    (hs : ∀ i x H1 H' (R : V → Hp → Prop) (R0 : Hp → Prop), i < n → Same H H1 → Y i H1 x H' → (∀ p H4, H' p = none → Same H' H4 → H4 p = some (.lst ((f i).map V.int)) → R (.ref p) H4) →
      g x (wipe σ vs) H' fun σ2 H2 => WP (wipe σ2 vs = wipe σ vs) (t σ2 H2 fun b H3 => IfP b (te σ2 H3 R) (R0 H3)))
    (q : ∀ p H2, H p = none → Same H H2 → LL H2 p n f → Q (.ref p) H2) : LcP J g t te vs σ Q H := fun p hp => by
  refine lc_it w (fun i H' => Same H H' ∧ LL H' p i f) ⟨same_new hp, LL.nil upd_same⟩ (fun i H' _ h => hG H' h.1) (fun i x H1 H' hi h y => ?_) (fun H' h => q p H' hp h.1 h.2)
  obtain ⟨h1, h2⟩ := h
  have s1 := hY i H1 x H' y
  refine hs i x H1 H' _ _ hi h1 y (fun a H4 hf s4 ha => ?_)
  obtain ⟨ys, hy, _⟩ := h2.len
  obtain ⟨xs, e1, e2, e3⟩ := (h2.keep (s1.trans s4)).snoc ha (ne_of_none (s1 _ _ hy) hf).symm
  exact ⟨xs, e1, by rw [sizeLine_eq]; omega, same_up hp (h1.trans (s1.trans s4)), e3⟩
theorem cutV_ints (xs : List Int) {b n : Nat} (h : b + n ≤ xs.length) : cutV (xs.map V.int) (some (b : Int)) (some ((b + n : Nat) : Int)) = ((xs.drop b).take n).map V.int := by
  unfold cutV
  rw [HT.sIx_nat, HT.sIx_nat, List.length_map, Nat.min_eq_left h, Nat.min_eq_left (show b ≤ xs.length by omega), Nat.add_sub_cancel_left, List.map_take, List.map_drop]
theorem slL {a : Addr} {xs : List V} {lo hi : Option Int} (h : SqL K H a xs) (q : ∀ p, H p = none → Q (.ref p) (upd H p (.lst (cutV xs lo hi)))) : rSlL K (.ref a) lo hi H Q := ⟨a, xs, rfl, h, q⟩
theorem up_seq {p l : Addr} {xs : List V} {o : HO} (h : SqL K H p xs) (hl : H l = none) : SqL K (upd H l o) p xs := (same_new hl).seq h
end
section
variable {X : Cx}
theorem o_rep : OpR X (binaryOp .Mult) rRepN := op_rep
theorem pget_list : PGet X (rGetN X.K) := by
  intro pins s σ H o i ov iv Q I ro ri h
  obtain ⟨p, xs, k, v, rfl, rfl, hq, hk, hx, q⟩ := h
  cases ro
  obtain ⟨t, rfl⟩ := ri
  obtain ⟨its, r, pl, hz⟩ := I.list hq
  obtain ⟨w, ew, rw'⟩ := r.get hx
  exact wpAny_getItem_list pl.isList (by omega) (by omega) (by rw [Int.toNat_natCast]; simpa using ew) ⟨v, H, I, rw', q⟩
theorem o_addS : OpR X (binaryOp .Add) rCatS := op_add_str
theorem o_ltS : OpR X (compareOp .Lt) rLtS := op_lt_str
theorem c_intS : CallR X (.type "int") rIntS := call_int_str
theorem c_min2 (hc : X.calm = true) : CallR X (.builtin "min") rMin2 := call_min2 hc
theorem c_max2 (hc : X.calm = true) : CallR X (.builtin "max") rMax2 := call_max2 hc
theorem c_divmod : CallR X (.builtin "divmod") rDivmod := call_divmod
theorem c_list : CallR X (.type "list") (rList X.K) := call_list_of
theorem c_listK {K : PySem.W.Frag} (h : X.K = K) : CallR X (.type "list") (rList K) := by subst h; exact call_list_of
theorem sl_listK {K : PySem.W.Frag} (h : X.K = K) : SlR X (rSlL K) := by subst h; exact sl_list
theorem c_int : CallR X (.type "int") rInt1 := call_int1
theorem c_abs : CallR X (.builtin "abs") rAbs := call_abs
theorem c_strI : CallR X (.type "str") rStrI := call_str_int
theorem c_len : CallR X (.builtin "len") (rLen X.K) := call_len
end
end Gx
local macro_rules | `(tactic| walk_at "few") => `(tactic| (refine Nat.lt_of_le_of_lt (m := 30) ?_ (by decide); repeat (first | exact Nat.zero_le _ | refine Gx.few ?_)))
local macro_rules | `(tactic| walk_at "side") => `(tactic| ((try dsimp only [L2.CMul, L2.CDiv, L2.CPow, L2.CDivN]); first | omega | decide | assumption))
local macro_rules | `(tactic| walk_at "go1") => `(tactic| (first
  | with_reducible refine Gx.seq ?_
  | with_reducible refine Gx.asg ?_
  | with_reducible refine Gx.op ?_
  | ((with_reducible refine' Gx.var ?h0 ?_); (case h0 => rfl))
  | with_reducible refine Gx.cst ?_
  | with_reducible refine Gx.i0 ?_
  | with_reducible refine Gx.name ?_
  | with_reducible refine Gx.cons ?_
  | with_reducible refine Gx.nil ?_
  | with_reducible refine Gx.call ?_
  | with_reducible refine Gx.cb ?_
  | with_reducible refine Gx.int1 ?_
  | with_reducible refine Gx.intB ?_
  | with_reducible refine Gx.abs1 ?_
  | with_reducible refine Gx.un ?_
  | with_reducible refine Gx.uu ?_
  | with_reducible refine Gx.ifs ?_
  | with_reducible refine Gx.ifx ?_
  | with_reducible refine Gx.test ?_
  | with_reducible refine Gx.tB ?_
  | with_reducible refine Gx.tb_go ?_
  | with_reducible refine Gx.bv_go ?_
  | with_reducible refine Gx.and_ ?_
  | with_reducible refine Gx.or_ ?_
  | with_reducible refine Gx.not_ ?_
  | with_reducible refine Gx.andV ?_
  | with_reducible refine Gx.orV ?_
  | with_reducible refine Gx.notV ?_
  | with_reducible refine Gx.eqvI ?_
  | with_reducible refine Gx.nevI ?_
  | with_reducible refine Gx.eqvS ?_
  | with_reducible refine Gx.eqvB ?_
  | with_reducible refine Gx.ltS ?_
  | with_reducible refine Gx.nevS ?_
  | with_reducible refine Gx.ret ?_
  | with_reducible refine Gx.retN ?_
  | with_reducible refine Gx.drop ?_
  | with_reducible refine Gx.next ?_
  | with_reducible refine Gx.brk ?_
  | with_reducible refine Gx.cnt ?_
  | with_reducible refine Gx.if_t ?_
  | with_reducible refine Gx.if_f ?_
  | with_reducible refine Gx.if_nt ?_
  | with_reducible refine Gx.whI_t ?_
  | with_reducible refine Gx.whI_f ?_
  | with_reducible refine Gx.if_nf ?_
  | with_reducible refine Gx.for_ ?_
  | with_reducible refine Gx.rng1 ?_
  | with_reducible refine Gx.rng2 ?_
  | with_reducible refine Gx.lwk ?_
  | with_reducible refine Gx.twk ?_
  | with_reducible refine Gx.lst ?_
  | with_reducible refine Gx.tup ?_
  | with_reducible refine Gx.bm ?_
  | with_reducible refine Gx.lc ?_
  | with_reducible refine Gx.gcons ?_
  | with_reducible refine Gx.gnil ?_
  | with_reducible refine Gx.strw ?_
  | with_reducible refine Gx.strp ?_
  | with_reducible refine Gx.fld ?_
  | with_reducible refine Gx.sfld ?_
  | with_reducible refine Gx.meth ?_
  | with_reducible refine Gx.make ?_
  | with_reducible refine Gx.augS ?_
  | with_reducible refine Gx.sub ?_
  | with_reducible refine Gx.slc ?_
  | with_reducible refine Gx.noP ?_
  | with_reducible refine Gx.part ?_
  | with_reducible refine Gx.ptp ?_
  | with_reducible refine Gx.sbp ?_
  | ((with_reducible refine' Gx.wp ?h0 ?_); (case h0 => rfl))
  | with_reducible refine Gx.yes ?_
  | with_reducible refine Gx.rrv ?_
  | with_reducible refine Gx.rg1 ?_
  | with_reducible refine Gx.rg1p ?_
  | ((with_reducible refine' Gx.aug ?h0 ?_); (case h0 => rfl))
  | with_reducible refine Gx.augI ?_))
local macro_rules | `(tactic| walk_at "go") => `(tactic| repeat walk_at "go1")

namespace Gy
open PySem L2
/-- the gray bit of v in plane p -/
def gb (v p : Nat) : Nat := (v / 2 ^ p + v / 2 ^ (p + 1)) % 2
theorem gb_int (v p : Nat) : Builtin.bitAnd (Builtin.bitXor ((v : Int) / 2 ^ (p : Int).toNat) ((v : Int) / 2 ^ ((p : Int) + 1).toNat)) 1 = ((gb v p : Nat) : Int) := by
  have e1 : (p : Int).toNat = p := rfl
  have e2 : ((p : Int) + 1).toNat = p + 1 := by omega
  have c (k : Nat) : (v : Int) / 2 ^ k = ((v / 2 ^ k : Nat) : Int) := by
    rw [Int.natCast_ediv, Int.natCast_pow]; rfl
  rw [e1, e2, c, c, Bits.bitXor_pp (Int.natCast_nonneg _) (Int.natCast_nonneg _), Int.toNat_natCast, Int.toNat_natCast]
  have h := Bits.bitAnd_mask (x := ((v / 2 ^ p ^^^ v / 2 ^ (p + 1) : Nat) : Int)) 1 (Int.natCast_nonneg _)
  rw [show (2 : Int) ^ 1 - 1 = 1 by decide] at h
  rw [h]
  have x := @Nat.xor_mod_two_eq_one (v / 2 ^ p) (v / 2 ^ (p + 1))
  unfold gb
  omega
theorem gb_le (v p : Nat) : gb v p ≤ 1 := by unfold gb; omega
/-- the value of gray bits from the highest plane on -/
def vstep (v g : Nat) : Nat := v * 2 + (g ^^^ v % 2)
def val (gs : List Nat) : Nat := gs.foldl vstep 0
theorem vstep_int (v g : Nat) : (v : Int) * 2 + Builtin.bitXor (g : Int) (Builtin.bitAnd (v : Int) 1) = ((vstep v g : Nat) : Int) := by
  have h := Bits.bitAnd_mask (x := (v : Int)) 1 (Int.natCast_nonneg _)
  rw [show (2 : Int) ^ 1 - 1 = 1 by decide, show (2 : Int) ^ 1 = ((2 : Nat) : Int) by decide, ← Int.natCast_emod] at h
  rw [h, Bits.bitXor_pp (Int.natCast_nonneg _) (Int.natCast_nonneg _), Int.toNat_natCast, Int.toNat_natCast]
  unfold vstep
  omega
theorem val_take {gs : List Nat} {i g : Nat} (h : gs[i]? = some g) : ((val (gs.take (i + 1)) : Nat) : Int) = (val (gs.take i) : Int) * 2 + Builtin.bitXor (g : Int) (Builtin.bitAnd (val (gs.take i) : Int) 1) := by
  rw [vstep_int]
  unfold val
  rw [List.take_add_one, h, List.foldl_append]
  rfl

/-- the gray bits of the planes below n, the highest first -/
def grays (v n : Nat) : List Nat := (List.range n).map fun i => gb v (n - 1 - i)
theorem pw (p : Nat) : (1 : Int) * 2 ^ ((p : Nat) : Int).toNat = ((2 ^ p : Nat) : Int) := by
  rw [Int.toNat_natCast, Int.one_mul, Int.natCast_pow]; rfl
theorem pw1 (p : Nat) : (1 : Int) * 2 ^ ((p : Int) + 1).toNat = ((2 ^ (p + 1) : Nat) : Int) := by
  rw [show ((p : Int) + 1).toNat = p + 1 by omega, Int.one_mul, Int.natCast_pow]; rfl
theorem dw {v : Int} {p : Nat} (h : p ≤ 8000) : CDivW v ((2 ^ p : Nat) : Int) := by
  refine wide_div (b := p + 1) ?_ ?_ (Nat.succ_pos _) (by omega)
  · exact Int.natCast_pos.mpr (Nat.two_pow_pos p)
  · rw [Int.natAbs_natCast]; exact Nat.pow_lt_pow_right (by decide) (Nat.lt_succ_self p)
theorem ne_gb (v p : Nat) : (if (!decide ((v : Int) / ((2 ^ p : Nat) : Int) % 2 = (v : Int) / ((2 ^ (p + 1) : Nat) : Int) % 2)) = true then (1 : Int) else 0) = ((gb v p : Nat) : Int) := by
  rw [← Int.natCast_ediv, ← Int.natCast_ediv]
  unfold gb
  generalize v / 2 ^ p = a
  generalize v / 2 ^ (p + 1) = b
  by_cases h : (a : Int) % 2 = (b : Int) % 2
  · rw [decide_eq_true h]
    simp only [Bool.not_true, Bool.false_eq_true, if_false]
    omega
  · rw [decide_eq_false h]
    simp only [Bool.not_false, if_true]
    omega
theorem grays_succ (v n : Nat) : grays v (n + 1) = gb v n :: grays v n := by
  unfold grays
  rw [List.range_succ_eq_map, List.map_cons, List.map_map]
  refine congr (congrArg List.cons (by simp)) ?_
  refine List.map_congr_left fun i hi => ?_
  show gb v (n + 1 - 1 - (i + 1)) = gb v (n - 1 - i)
  congr 1; omega
theorem xor_bit (a b : Nat) (hb : b ≤ 1) : (b ^^^ a % 2) % 2 = (b + a) % 2 ∧ b ^^^ a % 2 ≤ 1 := by
  have h : a % 2 = 0 ∨ a % 2 = 1 := by omega
  have h2 : b = 0 ∨ b = 1 := by omega
  rcases h with h | h <;> rcases h2 with h2 | h2 <;> subst h2 <;> rw [h] <;> simp <;> omega
theorem half (v n : Nat) : v / 2 ^ (n + 1) = v / 2 ^ n / 2 := by rw [Nat.pow_succ, Nat.div_div_eq_div_mul]
theorem vstep_gb (v n : Nat) : vstep (v / 2 ^ (n + 1)) (gb v n) = v / 2 ^ n := by
  unfold vstep gb
  rw [half]
  generalize v / 2 ^ n = a
  have h := xor_bit (a / 2) ((a + a / 2) % 2) (by omega)
  omega
theorem fold_grays (v : Nat) : ∀ n, (grays v n).foldl vstep (v / 2 ^ n) = v
  | 0 => by simp [grays]
  | n + 1 => by rw [grays_succ, List.foldl_cons, vstep_gb, fold_grays v n]
theorem val_grays {v n : Nat} (h : v < 2 ^ n) : val (grays v n) = v := by
  have e := fold_grays v n
  rw [Nat.div_eq_of_lt h] at e
  exact e
theorem fold_bits : ∀ (bs : List Nat) (u : Nat), (∀ b ∈ bs, b ≤ 1) → (bs.foldl vstep u) / 2 ^ bs.length = u ∧ grays (bs.foldl vstep u) bs.length = bs
  | [], u, _ => by simp [grays]
  | b :: bs, u, h => by
    obtain ⟨h1, h2⟩ := fold_bits bs (vstep u b) fun x hx => h x (List.mem_cons_of_mem _ hx)
    have hb := h b (List.mem_cons_self ..)
    rw [List.foldl_cons, List.length_cons]
    generalize hr : bs.foldl vstep (vstep u b) = r at *
    have x := xor_bit u b hb
    have e1 : r / 2 ^ (bs.length + 1) = u := by
      rw [half, h1]; unfold vstep; omega
    refine ⟨e1, ?_⟩
    rw [grays_succ, h2]
    congr 1
    unfold gb
    rw [e1, h1]; unfold vstep; omega
theorem grays_val {bs : List Nat} (h : ∀ b ∈ bs, b ≤ 1) : val bs < 2 ^ bs.length ∧ grays (val bs) bs.length = bs := by
  obtain ⟨h1, h2⟩ := fold_bits bs 0 h
  refine ⟨?_, h2⟩
  have h3 := (Nat.div_eq_zero_iff.mp h1)
  rcases h3 with h3 | h3
  · have := Nat.two_pow_pos bs.length; omega
  · exact h3
theorem nats_of {xs : List Int} (h : ∀ x ∈ xs, 0 ≤ x ∧ x < 2) : ∃ bs : List Nat, xs = bs.map (fun b : Nat => (b : Int)) ∧ ∀ b ∈ bs, b ≤ 1 := by
  refine ⟨xs.map Int.toNat, ?_, ?_⟩
  · rw [List.map_map]
    conv => lhs; rw [← List.map_id xs]
    refine List.map_congr_left fun x hx => ?_
    have := h x hx
    show x = ((x.toNat : Nat) : Int)
    omega
  · intro b hb
    obtain ⟨x, hx, rfl⟩ := List.mem_map.mp hb
    have := h x hx
    omega
theorem gb_top {v n : Nat} (h : v < 2 ^ n) : gb v n = 0 := by
  unfold gb
  rw [Nat.div_eq_of_lt h, Nat.div_eq_of_lt (Nat.lt_trans h (Nat.pow_lt_pow_right (by decide) (Nat.lt_succ_self n)))]
/-- t is the last place from which v + 1 is whole -/
def Last (v n t : Nat) : Prop := t ≤ n ∧ (v + 1) % 2 ^ t = 0
theorem div_step {v k : Nat} : (v + 1) / 2 ^ k = v / 2 ^ k + if (v + 1) % 2 ^ k = 0 then 1 else 0 := by
  have hp := Nat.two_pow_pos k
  have h1 := Nat.div_add_mod (v + 1) (2 ^ k)
  have h2 := Nat.div_add_mod v (2 ^ k)
  have l1 := Nat.mod_lt (v + 1) hp
  have l2 := Nat.mod_lt v hp
  generalize (v + 1) / 2 ^ k = x at *
  generalize v / 2 ^ k = y at *
  generalize (v + 1) % 2 ^ k = r at *
  generalize v % 2 ^ k = s at *
  generalize 2 ^ k = m at *
  have hx : x = y ∨ x = y + 1 := by
    have c1 : ¬ x < y := fun h => by
      have : m * (x + 1) ≤ m * y := Nat.mul_le_mul_left m h
      rw [Nat.mul_add] at this; omega
    have c2 : ¬ y + 1 < x := fun h => by
      have : m * (y + 1 + 1) ≤ m * x := Nat.mul_le_mul_left m h
      rw [Nat.mul_add, Nat.mul_add] at this; omega
    omega
  rcases hx with hx | hx
  · subst hx
    rw [if_neg (by omega)]; omega
  · subst hx
    rw [Nat.mul_add] at h1
    rw [if_pos (by omega)]
theorem whole_of {a k t : Nat} (h : a % 2 ^ t = 0) (hk : k ≤ t) : a % 2 ^ k = 0 :=
  Nat.mod_eq_zero_of_dvd (Nat.dvd_trans (Nat.pow_dvd_pow 2 hk) (Nat.dvd_of_mod_eq_zero h))
/-- the gray bits of v and v + 1 differ in the plane of the greatest power of 2 that divides v + 1 alone -/
theorem gb_diff {v n t : Nat} (hv : v < 2 ^ n) (h1 : t ≤ n) (h2 : (v + 1) % 2 ^ t = 0) (h3 : t < n → (v + 1) % 2 ^ (t + 1) ≠ 0) (k : Nat) : (gb v k ≠ gb (v + 1) k) ↔ k = t := by
  have h4 : (v + 1) % 2 ^ (t + 1) ≠ 0 := by
    by_cases ht : t < n
    · exact h3 ht
    · have e : t = n := by omega
      subst e
      have hp : 2 ^ (t + 1) = 2 ^ t * 2 := Nat.pow_succ ..
      rw [Nat.mod_eq_of_lt (by omega)]; omega
  unfold gb
  rw [div_step (v := v) (k := k), div_step (v := v) (k := k + 1)]
  by_cases hk : k ≤ t
  · rw [if_pos (whole_of h2 hk)]
    by_cases hk2 : k = t
    · subst hk2
      rw [if_neg h4]
      constructor <;> intro _ <;> omega
    · rw [if_pos (whole_of h2 (show k + 1 ≤ t by omega))]
      constructor <;> intro _ <;> omega
  · have z1 : ¬ (v + 1) % 2 ^ k = 0 := fun z => h4 (whole_of z (by omega))
    have z2 : ¬ (v + 1) % 2 ^ (k + 1) = 0 := fun z => h4 (whole_of z (by omega))
    rw [if_neg z1, if_neg z2]
    constructor <;> intro _ <;> omega
theorem filter_one {n t : Nat} {c : Nat → Bool} (ht : t < n) (h : ∀ k, c k = decide (k = t)) : (List.range n).filter c = [t] := by
  induction n with
  | zero => omega
  | succ n ih =>
    rw [List.range_succ, List.filter_append]
    by_cases e : t < n
    · rw [ih e, List.filter_cons, h, decide_eq_false (by omega)]; rfl
    · have e2 : t = n := by omega
      subst e2
      rw [List.filter_cons, h, decide_eq_true rfl, List.filter_eq_nil_iff.mpr (fun k hk => by rw [h, decide_eq_true_eq]; have := List.mem_range.mp hk; omega)]
      rfl
end Gy

namespace Gd
open PySem L2
/-- tiles beside one another -/
def ac (n t : Nat) : Nat := (n + t - 1) / t
theorem ac_int {n t : Nat} (ht : 0 < t) : ((n : Int) + (t : Int) - 1) / (t : Int) = ((ac n t : Nat) : Int) := by
  unfold ac
  rw [Int.natCast_ediv]
  congr 1
  omega
theorem ac_pos {n t : Nat} (hn : 0 < n) (ht : 0 < t) : 0 < ac n t := by
  unfold ac
  exact Nat.div_pos (by omega) ht
theorem ac_le {n t : Nat} (ht : 0 < t) : ac n t ≤ n := by
  unfold ac
  rcases Nat.eq_zero_or_pos n with h | h
  · subst h; rw [Nat.zero_add]; rw [Nat.div_eq_of_lt (by omega)]; exact Nat.le_refl _
  · have := Nat.div_le_of_le_mul (m := n + t - 1) (k := t) (n := n) (by
      have : t * n = t * (n - 1) + t := by rw [← Nat.mul_succ]; congr 1; omega
      have : n - 1 ≤ t * (n - 1) := Nat.le_mul_of_pos_left _ ht
      omega)
    exact this
/-- so large a picture may be -/
theorem room {w h c : Nat} (hh : h ≤ 3072 / (w * c)) (hp : 0 < w * c) : w * h * c ≤ 3072 := by
  have e := (Nat.le_div_iff_mul_le hp).mp hh
  rw [Nat.mul_right_comm, Nat.mul_comm]; exact e
/-- the side of the k-th tile -/
def sd (n t k : Nat) : Nat := min t (n - k * t)
theorem ac_mul {n t k : Nat} (ht : 0 < t) (hk : k < ac n t) : k * t < n := by
  unfold ac at hk
  have h := (Nat.le_div_iff_mul_le ht).mp (Nat.succ_le_of_lt hk)
  rw [Nat.succ_mul] at h
  omega
theorem sd_int {n t k : Nat} (ht : 0 < t) (hk : k < ac n t) : (if (n : Int) - ((k * t : Nat) : Int) < (t : Int) then (n : Int) - ((k * t : Nat) : Int) else (t : Int)) = ((sd n t k : Nat) : Int) := by
  have := ac_mul ht hk
  unfold sd
  generalize k * t = m at *
  split <;> omega
theorem ac_succ {n t : Nat} (ht : 0 < t) : ac (n + 1) t = ac n t + if n % t = 0 then 1 else 0 := by
  unfold ac
  rw [show n + 1 + t - 1 = (n + t - 1) + 1 by omega, Nat.succ_div]
  congr 1
  have e : n + t - 1 + 1 = n + t := by omega
  rw [e]
  by_cases h : n % t = 0
  · rw [if_pos h, if_pos (Nat.dvd_of_mod_eq_zero (by rw [Nat.add_mod_right]; exact h))]
  · rw [if_neg h, if_neg (fun z => h (by have := Nat.mod_eq_zero_of_dvd z; rwa [Nat.add_mod_right] at this))]
/-- every t-th column begins a tile -/
theorem firsts {t : Nat} (ht : 0 < t) : ∀ n, ((List.range n).filter fun i => decide (i % t = 0)).length = ac n t
  | 0 => by unfold ac; rw [Nat.zero_add, Nat.div_eq_of_lt (by omega)]; rfl
  | n + 1 => by
    rw [List.range_succ, List.filter_append, List.length_append, firsts ht n, ac_succ ht]
    congr 1
    by_cases h : n % t = 0
    · rw [if_pos h, List.filter_cons, if_pos (decide_eq_true h)]; rfl
    · rw [if_neg h, List.filter_cons, if_neg (by simpa using h)]; rfl
/-- the columns of one tile -/
theorem side {t k : Nat} (ht : 0 < t) : ∀ n, ((List.range n).filter fun i => decide (i / t = k)) = List.range' (k * t) (sd n t k)
  | 0 => by unfold sd; rw [Nat.zero_sub, Nat.min_zero]; rfl
  | n + 1 => by
    rw [List.range_succ, List.filter_append, side ht n]
    have d1 := Nat.div_mul_le_self n t
    have d2 := Nat.lt_div_mul_add (a := n) ht
    by_cases h : n / t = k
    · rw [List.filter_cons, if_pos (decide_eq_true h)]
      subst h
      have e1 : sd n t (n / t) = n - n / t * t := by unfold sd; omega
      have e2 : sd (n + 1) t (n / t) = (n - n / t * t) + 1 := by unfold sd; omega
      rw [e1, e2, List.range'_concat]
      congr 2
      omega
    · rw [List.filter_cons, if_neg (by simpa using h)]
      have e : sd (n + 1) t k = sd n t k := by
        unfold sd
        rcases Nat.lt_or_ge n (k * t) with z | z
        · omega
        · have : k < n / t := by
            rcases Nat.lt_trichotomy (n / t) k with y | y | y
            · have := (Nat.div_lt_iff_lt_mul ht).mp y; omega
            · exact absurd y h
            · exact y
          have g := (Nat.le_div_iff_mul_le ht).mp (Nat.succ_le_of_lt this)
          rw [Nat.succ_mul] at g
          omega
      rw [e]
      show List.range' _ _ ++ [] = _
      rw [List.append_nil]
theorem sd_pos {n t k : Nat} (ht : 0 < t) (hk : k < ac n t) : 0 < sd n t k := by
  have := ac_mul ht hk
  unfold sd; omega
end Gd

namespace Gd
open PySem L2
def xr (a b : Nat) : Nat := if a = b then 0 else 1
theorem xr_int {a b : Nat} (ha : a ≤ 1) (hb : b ≤ 1) : Builtin.bitXor (a : Int) (b : Int) = ((xr a b : Nat) : Int) := by
  have h1 : a = 0 ∨ a = 1 := by omega
  have h2 : b = 0 ∨ b = 1 := by omega
  rcases h1 with e | e <;> rcases h2 with e2 | e2 <;> subst e <;> subst e2 <;> decide +kernel
theorem xr_ne (a b : Nat) : (if (!decide ((b : Int) = (a : Int))) = true then (1 : Int) else 0) = ((xr a b : Nat) : Int) := by
  unfold xr
  by_cases h : a = b
  · subst h; rw [decide_eq_true rfl, if_pos rfl]; rfl
  · rw [decide_eq_false (fun z => h (by omega)), if_neg h]; rfl
def vl (f : Nat → List Int) (j k : Nat) : Nat := ((f j).getD k 0).toNat
/-- the stored bit -/
def sb (f : Nat → List Int) (c j k p : Nat) : Nat :=
  if c = 1 then Gy.gb (vl f 0 k) p else if j = 0 then Gy.gb (vl f 1 k) p else xr (Gy.gb (vl f 1 k) p) (Gy.gb (vl f (if j = 1 then 0 else 2) k) p)
theorem getD_mem {xs : List Int} {k : Nat} (h : k < xs.length) : xs.getD k 0 ∈ xs := by
  rw [List.getD_eq_getElem?_getD, List.getElem?_eq_getElem h]; exact List.getElem_mem h
theorem vl_int {f : Nat → List Int} {j k : Nat} (h : k < (f j).length) (hz : ∀ z ∈ f j, 0 ≤ z) : (f j).getD k 0 = ((vl f j k : Nat) : Int) := by
  unfold vl
  rw [Int.toNat_of_nonneg (hz _ (getD_mem h))]
end Gd

namespace My
open PySem L2
def top (i : Nat) : Stmt := PySem.Challenge.pw_packetpicture_k12_stored_bits.main.body.getD i (.Pass ⟨0, 0, 0, 0⟩)
abbrev s_Picture_rows : Stmt := inClass (top 14) 3
abbrev s_law_gray : Stmt := top 25
abbrev s_law_stored : Stmt := top 26
abbrev s_law_is_int : Stmt := top 24
abbrev s_gray_bit : Stmt := top 16
abbrev s_Picture_value : Stmt := inClass (top 14) 1
abbrev s_stored_bit : Stmt := top 17
abbrev s_law_mixed : Stmt := top 20
abbrev s_law_numbers : Stmt := top 21
abbrev s_law_cell : Stmt := top 19
abbrev s_check_range : Stmt := top 5
abbrev s_check_values : Stmt := top 13
abbrev s_check_size : Stmt := top 11
abbrev s_check_kind : Stmt := top 10
abbrev s_Picture___init__ : Stmt := inClass (top 14) 0
abbrev s_law_values : Stmt := top 23
abbrev s_law_sizes : Stmt := top 22
abbrev s_law : Stmt := top 27
/-- a def of the text as it stands behind the top -/
structure DefAt (K : PySem.W.Frag) (mg : Str → Option Value) (x : Str) (st : Stmt) (ps : List Str) where
  a : Addr
  d : FuncData
  f : Fun K x x st a d
  g : mg x = some (.ref a)
  b : Binds K d ps []
structure MethAt (K : PySem.W.Frag) (C : Addr) (x q : Str) (st : Stmt) (ps : List Str) where
  a : Addr
  d : FuncData
  f : Fun K x q st a d
  b : Binds K d ps []
  m : Meth K C x a
structure Tx (K : PySem.W.Frag) (mg : Str → Option Value) where
  a_Picture : Addr
  cl_Picture : Cls K a_Picture
  g_Picture : mg "Picture" = some (.ref a_Picture)
  mk_Picture : PySem.W.makesIn K a_Picture = true
  kp_Picture : PySem.W.keepIn K (.ref a_Picture) = true
  na_Picture_width : NoAttr K a_Picture "width"
  na_Picture_height : NoAttr K a_Picture "height"
  na_Picture_depth : NoAttr K a_Picture "depth"
  na_Picture_channels : NoAttr K a_Picture "channels"
  na_Picture__rows : NoAttr K a_Picture "_rows"
  Picture_rows : MethAt K a_Picture "rows" "Picture.rows" s_Picture_rows ["self"]
  law_gray : DefAt K mg "_law_gray" s_law_gray ["value", "plane"]
  law_stored : DefAt K mg "_law_stored" s_law_stored ["values", "channel", "pixel", "plane"]
  law_is_int : DefAt K mg "_law_is_int" s_law_is_int ["actual"]
  gray_bit : DefAt K mg "gray_bit" s_gray_bit ["value", "plane"]
  Picture_value : MethAt K a_Picture "value" "Picture.value" s_Picture_value ["self", "channel", "pixel"]
  stored_bit : DefAt K mg "stored_bit" s_stored_bit ["picture", "channel", "pixel", "plane"]
  law_mixed : DefAt K mg "_law_mixed" s_law_mixed ["number", "k", "limit"]
  law_numbers : DefAt K mg "_law_numbers" s_law_numbers ["cell", "count", "limit"]
  law_cell : DefAt K mg "_law_cell" s_law_cell ["script", "k"]
  check_range : DefAt K mg "check_range" s_check_range ["name", "value", "least", "most"]
  check_values : DefAt K mg "check_values" s_check_values ["width", "height", "depth", "channels", "values"]
  check_size : DefAt K mg "check_size" s_check_size ["width", "height", "channels"]
  check_kind : DefAt K mg "check_kind" s_check_kind ["width", "height", "depth", "channels"]
  Picture___init__ : MethAt K a_Picture "__init__" "Picture.__init__" s_Picture___init__ ["self", "width", "height", "depth", "channels", "values"]
  law_values : DefAt K mg "_law_values" s_law_values ["cell", "sizes"]
  law_sizes : DefAt K mg "_law_sizes" s_law_sizes ["cell", "most"]
  law : DefAt K mg "law" s_law ["script"]
  n_abs : mg "abs" = none
  n_bool : mg "bool" = none
  n_int : mg "int" = none
  n_isinstance : mg "isinstance" = none
  n_len : mg "len" = none
  n_list : mg "list" = none
  n_min : mg "min" = none
  n_range : mg "range" = none
  t_DEPTH_MOST : Tok
  c_DEPTH_MOST : mg "DEPTH_MOST" = some (.int 8 t_DEPTH_MOST)
  t_SIDE_MOST : Tok
  c_SIDE_MOST : mg "SIDE_MOST" = some (.int 64 t_SIDE_MOST)
  t_VALUES_MOST : Tok
  c_VALUES_MOST : mg "VALUES_MOST" = some (.int 3072 t_VALUES_MOST)
section
variable {P : Program} {w : World} {K : PySem.W.Frag} {mg : Str → Option Value} {base : Heap}
def fl_Picture (v0 v1 v2 v3 v4 : V) : List (Str × V) := [("width", v0), ("height", v1), ("depth", v2), ("channels", v3), ("_rows", v4)]
theorem ne_Picture_width__height : ((Str.ofString "width") = Str.ofString "height") = False := eq_false (by decide +kernel)
theorem ne_Picture_width__depth : ((Str.ofString "width") = Str.ofString "depth") = False := eq_false (by decide +kernel)
theorem ne_Picture_width__channels : ((Str.ofString "width") = Str.ofString "channels") = False := eq_false (by decide +kernel)
theorem ne_Picture_width___rows : ((Str.ofString "width") = Str.ofString "_rows") = False := eq_false (by decide +kernel)
theorem ne_Picture_width____init__ : ((Str.ofString "width") = Str.ofString "__init__") = False := eq_false (by decide +kernel)
theorem ne_Picture_width__value : ((Str.ofString "width") = Str.ofString "value") = False := eq_false (by decide +kernel)
theorem ne_Picture_width__row : ((Str.ofString "width") = Str.ofString "row") = False := eq_false (by decide +kernel)
theorem ne_Picture_width__rows : ((Str.ofString "width") = Str.ofString "rows") = False := eq_false (by decide +kernel)
theorem ne_Picture_width__same : ((Str.ofString "width") = Str.ofString "same") = False := eq_false (by decide +kernel)
theorem ne_Picture_width__with_value : ((Str.ofString "width") = Str.ofString "with_value") = False := eq_false (by decide +kernel)
theorem ne_Picture_width__framed : ((Str.ofString "width") = Str.ofString "framed") = False := eq_false (by decide +kernel)
theorem ne_Picture_height__width : ((Str.ofString "height") = Str.ofString "width") = False := eq_false (by decide +kernel)
theorem ne_Picture_height__depth : ((Str.ofString "height") = Str.ofString "depth") = False := eq_false (by decide +kernel)
theorem ne_Picture_height__channels : ((Str.ofString "height") = Str.ofString "channels") = False := eq_false (by decide +kernel)
theorem ne_Picture_height___rows : ((Str.ofString "height") = Str.ofString "_rows") = False := eq_false (by decide +kernel)
theorem ne_Picture_height____init__ : ((Str.ofString "height") = Str.ofString "__init__") = False := eq_false (by decide +kernel)
theorem ne_Picture_height__value : ((Str.ofString "height") = Str.ofString "value") = False := eq_false (by decide +kernel)
theorem ne_Picture_height__row : ((Str.ofString "height") = Str.ofString "row") = False := eq_false (by decide +kernel)
theorem ne_Picture_height__rows : ((Str.ofString "height") = Str.ofString "rows") = False := eq_false (by decide +kernel)
theorem ne_Picture_height__same : ((Str.ofString "height") = Str.ofString "same") = False := eq_false (by decide +kernel)
theorem ne_Picture_height__with_value : ((Str.ofString "height") = Str.ofString "with_value") = False := eq_false (by decide +kernel)
theorem ne_Picture_height__framed : ((Str.ofString "height") = Str.ofString "framed") = False := eq_false (by decide +kernel)
theorem ne_Picture_depth__width : ((Str.ofString "depth") = Str.ofString "width") = False := eq_false (by decide +kernel)
theorem ne_Picture_depth__height : ((Str.ofString "depth") = Str.ofString "height") = False := eq_false (by decide +kernel)
theorem ne_Picture_depth__channels : ((Str.ofString "depth") = Str.ofString "channels") = False := eq_false (by decide +kernel)
theorem ne_Picture_depth___rows : ((Str.ofString "depth") = Str.ofString "_rows") = False := eq_false (by decide +kernel)
theorem ne_Picture_depth____init__ : ((Str.ofString "depth") = Str.ofString "__init__") = False := eq_false (by decide +kernel)
theorem ne_Picture_depth__value : ((Str.ofString "depth") = Str.ofString "value") = False := eq_false (by decide +kernel)
theorem ne_Picture_depth__row : ((Str.ofString "depth") = Str.ofString "row") = False := eq_false (by decide +kernel)
theorem ne_Picture_depth__rows : ((Str.ofString "depth") = Str.ofString "rows") = False := eq_false (by decide +kernel)
theorem ne_Picture_depth__same : ((Str.ofString "depth") = Str.ofString "same") = False := eq_false (by decide +kernel)
theorem ne_Picture_depth__with_value : ((Str.ofString "depth") = Str.ofString "with_value") = False := eq_false (by decide +kernel)
theorem ne_Picture_depth__framed : ((Str.ofString "depth") = Str.ofString "framed") = False := eq_false (by decide +kernel)
theorem ne_Picture_channels__width : ((Str.ofString "channels") = Str.ofString "width") = False := eq_false (by decide +kernel)
theorem ne_Picture_channels__height : ((Str.ofString "channels") = Str.ofString "height") = False := eq_false (by decide +kernel)
theorem ne_Picture_channels__depth : ((Str.ofString "channels") = Str.ofString "depth") = False := eq_false (by decide +kernel)
theorem ne_Picture_channels___rows : ((Str.ofString "channels") = Str.ofString "_rows") = False := eq_false (by decide +kernel)
theorem ne_Picture_channels____init__ : ((Str.ofString "channels") = Str.ofString "__init__") = False := eq_false (by decide +kernel)
theorem ne_Picture_channels__value : ((Str.ofString "channels") = Str.ofString "value") = False := eq_false (by decide +kernel)
theorem ne_Picture_channels__row : ((Str.ofString "channels") = Str.ofString "row") = False := eq_false (by decide +kernel)
theorem ne_Picture_channels__rows : ((Str.ofString "channels") = Str.ofString "rows") = False := eq_false (by decide +kernel)
theorem ne_Picture_channels__same : ((Str.ofString "channels") = Str.ofString "same") = False := eq_false (by decide +kernel)
theorem ne_Picture_channels__with_value : ((Str.ofString "channels") = Str.ofString "with_value") = False := eq_false (by decide +kernel)
theorem ne_Picture_channels__framed : ((Str.ofString "channels") = Str.ofString "framed") = False := eq_false (by decide +kernel)
theorem ne_Picture__rows__width : ((Str.ofString "_rows") = Str.ofString "width") = False := eq_false (by decide +kernel)
theorem ne_Picture__rows__height : ((Str.ofString "_rows") = Str.ofString "height") = False := eq_false (by decide +kernel)
theorem ne_Picture__rows__depth : ((Str.ofString "_rows") = Str.ofString "depth") = False := eq_false (by decide +kernel)
theorem ne_Picture__rows__channels : ((Str.ofString "_rows") = Str.ofString "channels") = False := eq_false (by decide +kernel)
theorem ne_Picture__rows____init__ : ((Str.ofString "_rows") = Str.ofString "__init__") = False := eq_false (by decide +kernel)
theorem ne_Picture__rows__value : ((Str.ofString "_rows") = Str.ofString "value") = False := eq_false (by decide +kernel)
theorem ne_Picture__rows__row : ((Str.ofString "_rows") = Str.ofString "row") = False := eq_false (by decide +kernel)
theorem ne_Picture__rows__rows : ((Str.ofString "_rows") = Str.ofString "rows") = False := eq_false (by decide +kernel)
theorem ne_Picture__rows__same : ((Str.ofString "_rows") = Str.ofString "same") = False := eq_false (by decide +kernel)
theorem ne_Picture__rows__with_value : ((Str.ofString "_rows") = Str.ofString "with_value") = False := eq_false (by decide +kernel)
theorem ne_Picture__rows__framed : ((Str.ofString "_rows") = Str.ofString "framed") = False := eq_false (by decide +kernel)
theorem put_Picture_width {v0 v1 v2 v3 v4 : V} {z : V} : putF "width" z (fl_Picture v0 v1 v2 v3 v4) = fl_Picture z v1 v2 v3 v4 := by
  simp only [fl_Picture, putF, if_false, if_true, reduceIte]
theorem lk_Picture_width {v0 v1 v2 v3 v4 : V} : (fl_Picture v0 v1 v2 v3 v4).lookup ("width" : Str) = some v0 := by
  have h := lookup_putF "width" "width" v0 (fl_Picture v0 v1 v2 v3 v4)
  rw [put_Picture_width, if_pos rfl] at h
  exact h
theorem put_Picture_height {v0 v1 v2 v3 v4 : V} {z : V} : putF "height" z (fl_Picture v0 v1 v2 v3 v4) = fl_Picture v0 z v2 v3 v4 := by
  simp only [fl_Picture, putF, ne_Picture_width__height, if_false, if_true, reduceIte]
theorem lk_Picture_height {v0 v1 v2 v3 v4 : V} : (fl_Picture v0 v1 v2 v3 v4).lookup ("height" : Str) = some v1 := by
  have h := lookup_putF "height" "height" v1 (fl_Picture v0 v1 v2 v3 v4)
  rw [put_Picture_height, if_pos rfl] at h
  exact h
theorem put_Picture_depth {v0 v1 v2 v3 v4 : V} {z : V} : putF "depth" z (fl_Picture v0 v1 v2 v3 v4) = fl_Picture v0 v1 z v3 v4 := by
  simp only [fl_Picture, putF, ne_Picture_width__depth, ne_Picture_height__depth, if_false, if_true, reduceIte]
theorem lk_Picture_depth {v0 v1 v2 v3 v4 : V} : (fl_Picture v0 v1 v2 v3 v4).lookup ("depth" : Str) = some v2 := by
  have h := lookup_putF "depth" "depth" v2 (fl_Picture v0 v1 v2 v3 v4)
  rw [put_Picture_depth, if_pos rfl] at h
  exact h
theorem put_Picture_channels {v0 v1 v2 v3 v4 : V} {z : V} : putF "channels" z (fl_Picture v0 v1 v2 v3 v4) = fl_Picture v0 v1 v2 z v4 := by
  simp only [fl_Picture, putF, ne_Picture_width__channels, ne_Picture_height__channels, ne_Picture_depth__channels, if_false, if_true, reduceIte]
theorem lk_Picture_channels {v0 v1 v2 v3 v4 : V} : (fl_Picture v0 v1 v2 v3 v4).lookup ("channels" : Str) = some v3 := by
  have h := lookup_putF "channels" "channels" v3 (fl_Picture v0 v1 v2 v3 v4)
  rw [put_Picture_channels, if_pos rfl] at h
  exact h
theorem put_Picture__rows {v0 v1 v2 v3 v4 : V} {z : V} : putF "_rows" z (fl_Picture v0 v1 v2 v3 v4) = fl_Picture v0 v1 v2 v3 z := by
  simp only [fl_Picture, putF, ne_Picture_width___rows, ne_Picture_height___rows, ne_Picture_depth___rows, ne_Picture_channels___rows, if_false, if_true, reduceIte]
theorem lk_Picture__rows {v0 v1 v2 v3 v4 : V} : (fl_Picture v0 v1 v2 v3 v4).lookup ("_rows" : Str) = some v4 := by
  have h := lookup_putF "_rows" "_rows" v4 (fl_Picture v0 v1 v2 v3 v4)
  rw [put_Picture__rows, if_pos rfl] at h
  exact h
theorem len_Picture {v0 v1 v2 v3 v4 : V} : (fl_Picture v0 v1 v2 v3 v4).length = 5 := rfl
theorem few_Picture {v0 v1 v2 v3 v4 : V} : (fl_Picture v0 v1 v2 v3 v4).length < 1000 := by
  show 5 < 1000
  decide
theorem ini_Picture {v0 v1 v2 v3 v4 : V} : putF "_rows" v4 (putF "channels" v3 (putF "depth" v2 (putF "height" v1 (putF "width" v0 [])))) = fl_Picture v0 v1 v2 v3 v4 := by
  simp only [fl_Picture, putF, ne_Picture_width__height, ne_Picture_width__depth, ne_Picture_width__channels, ne_Picture_width___rows, ne_Picture_height__depth, ne_Picture_height__channels, ne_Picture_height___rows, ne_Picture_depth__channels, ne_Picture_depth___rows, ne_Picture_channels___rows, if_false, if_true, reduceIte]
theorem no_Picture___init__ {v0 v1 v2 v3 v4 : V} : (fl_Picture v0 v1 v2 v3 v4).lookup ("__init__" : Str) = none := by
  have q : ∀ (g : Str) (u : V) (r : List (Str × V)), ¬ g = "__init__" → List.lookup (Str.ofString "__init__") ((g, u) :: r) = List.lookup (Str.ofString "__init__") r := fun g u r h => by
    have hb : ((Str.ofString "__init__") == g) = false := beq_eq_false_iff_ne.mpr (fun z => h z.symm)
    simp only [List.lookup, hb]
  unfold fl_Picture
  rw [q _ _ _ (by rw [ne_Picture_width____init__]; exact id), q _ _ _ (by rw [ne_Picture_height____init__]; exact id), q _ _ _ (by rw [ne_Picture_depth____init__]; exact id), q _ _ _ (by rw [ne_Picture_channels____init__]; exact id), q _ _ _ (by rw [ne_Picture__rows____init__]; exact id)]
  rfl
theorem no_Picture_value {v0 v1 v2 v3 v4 : V} : (fl_Picture v0 v1 v2 v3 v4).lookup ("value" : Str) = none := by
  have q : ∀ (g : Str) (u : V) (r : List (Str × V)), ¬ g = "value" → List.lookup (Str.ofString "value") ((g, u) :: r) = List.lookup (Str.ofString "value") r := fun g u r h => by
    have hb : ((Str.ofString "value") == g) = false := beq_eq_false_iff_ne.mpr (fun z => h z.symm)
    simp only [List.lookup, hb]
  unfold fl_Picture
  rw [q _ _ _ (by rw [ne_Picture_width__value]; exact id), q _ _ _ (by rw [ne_Picture_height__value]; exact id), q _ _ _ (by rw [ne_Picture_depth__value]; exact id), q _ _ _ (by rw [ne_Picture_channels__value]; exact id), q _ _ _ (by rw [ne_Picture__rows__value]; exact id)]
  rfl
theorem no_Picture_row {v0 v1 v2 v3 v4 : V} : (fl_Picture v0 v1 v2 v3 v4).lookup ("row" : Str) = none := by
  have q : ∀ (g : Str) (u : V) (r : List (Str × V)), ¬ g = "row" → List.lookup (Str.ofString "row") ((g, u) :: r) = List.lookup (Str.ofString "row") r := fun g u r h => by
    have hb : ((Str.ofString "row") == g) = false := beq_eq_false_iff_ne.mpr (fun z => h z.symm)
    simp only [List.lookup, hb]
  unfold fl_Picture
  rw [q _ _ _ (by rw [ne_Picture_width__row]; exact id), q _ _ _ (by rw [ne_Picture_height__row]; exact id), q _ _ _ (by rw [ne_Picture_depth__row]; exact id), q _ _ _ (by rw [ne_Picture_channels__row]; exact id), q _ _ _ (by rw [ne_Picture__rows__row]; exact id)]
  rfl
theorem no_Picture_rows {v0 v1 v2 v3 v4 : V} : (fl_Picture v0 v1 v2 v3 v4).lookup ("rows" : Str) = none := by
  have q : ∀ (g : Str) (u : V) (r : List (Str × V)), ¬ g = "rows" → List.lookup (Str.ofString "rows") ((g, u) :: r) = List.lookup (Str.ofString "rows") r := fun g u r h => by
    have hb : ((Str.ofString "rows") == g) = false := beq_eq_false_iff_ne.mpr (fun z => h z.symm)
    simp only [List.lookup, hb]
  unfold fl_Picture
  rw [q _ _ _ (by rw [ne_Picture_width__rows]; exact id), q _ _ _ (by rw [ne_Picture_height__rows]; exact id), q _ _ _ (by rw [ne_Picture_depth__rows]; exact id), q _ _ _ (by rw [ne_Picture_channels__rows]; exact id), q _ _ _ (by rw [ne_Picture__rows__rows]; exact id)]
  rfl
theorem no_Picture_same {v0 v1 v2 v3 v4 : V} : (fl_Picture v0 v1 v2 v3 v4).lookup ("same" : Str) = none := by
  have q : ∀ (g : Str) (u : V) (r : List (Str × V)), ¬ g = "same" → List.lookup (Str.ofString "same") ((g, u) :: r) = List.lookup (Str.ofString "same") r := fun g u r h => by
    have hb : ((Str.ofString "same") == g) = false := beq_eq_false_iff_ne.mpr (fun z => h z.symm)
    simp only [List.lookup, hb]
  unfold fl_Picture
  rw [q _ _ _ (by rw [ne_Picture_width__same]; exact id), q _ _ _ (by rw [ne_Picture_height__same]; exact id), q _ _ _ (by rw [ne_Picture_depth__same]; exact id), q _ _ _ (by rw [ne_Picture_channels__same]; exact id), q _ _ _ (by rw [ne_Picture__rows__same]; exact id)]
  rfl
theorem no_Picture_with_value {v0 v1 v2 v3 v4 : V} : (fl_Picture v0 v1 v2 v3 v4).lookup ("with_value" : Str) = none := by
  have q : ∀ (g : Str) (u : V) (r : List (Str × V)), ¬ g = "with_value" → List.lookup (Str.ofString "with_value") ((g, u) :: r) = List.lookup (Str.ofString "with_value") r := fun g u r h => by
    have hb : ((Str.ofString "with_value") == g) = false := beq_eq_false_iff_ne.mpr (fun z => h z.symm)
    simp only [List.lookup, hb]
  unfold fl_Picture
  rw [q _ _ _ (by rw [ne_Picture_width__with_value]; exact id), q _ _ _ (by rw [ne_Picture_height__with_value]; exact id), q _ _ _ (by rw [ne_Picture_depth__with_value]; exact id), q _ _ _ (by rw [ne_Picture_channels__with_value]; exact id), q _ _ _ (by rw [ne_Picture__rows__with_value]; exact id)]
  rfl
theorem no_Picture_framed {v0 v1 v2 v3 v4 : V} : (fl_Picture v0 v1 v2 v3 v4).lookup ("framed" : Str) = none := by
  have q : ∀ (g : Str) (u : V) (r : List (Str × V)), ¬ g = "framed" → List.lookup (Str.ofString "framed") ((g, u) :: r) = List.lookup (Str.ofString "framed") r := fun g u r h => by
    have hb : ((Str.ofString "framed") == g) = false := beq_eq_false_iff_ne.mpr (fun z => h z.symm)
    simp only [List.lookup, hb]
  unfold fl_Picture
  rw [q _ _ _ (by rw [ne_Picture_width__framed]; exact id), q _ _ _ (by rw [ne_Picture_height__framed]; exact id), q _ _ _ (by rw [ne_Picture_depth__framed]; exact id), q _ _ _ (by rw [ne_Picture_channels__framed]; exact id), q _ _ _ (by rw [ne_Picture__rows__framed]; exact id)]
  rfl
/-- a Picture stands at x, its rows at r -/
structure Pic (C : Addr) (H : Hp) (x r : Addr) (w h d c : Nat) (f : Nat → List Int) : Prop where
  ob : ∃ dx, H x = some (.ins C dx (fl_Picture (.int (w : Int)) (.int (h : Int)) (.int (d : Int)) (.int (c : Int)) (.ref r)))
  rs : Gx.LL H r c f
theorem Pic.keep {C x r : Addr} {H H' : Hp} {w h d c : Nat} {f : Nat → List Int} (p : Pic C H x r w h d c f) (s : Same H H') : Pic C H' x r w h d c f := by
  obtain ⟨⟨dx, h1⟩, h2⟩ := p
  exact ⟨⟨dx, s _ _ h1⟩, h2.keep s⟩

set_option hygiene false
local macro_rules | `(tactic| walk_at "go1") => `(tactic| (first
  | refine Gx.fp (by assumption) T.cl_Picture T.na_Picture_width lk_Picture_width ?_
  | refine Gx.fp (by assumption) T.cl_Picture T.na_Picture_height lk_Picture_height ?_
  | refine Gx.fp (by assumption) T.cl_Picture T.na_Picture_depth lk_Picture_depth ?_
  | refine Gx.fp (by assumption) T.cl_Picture T.na_Picture_channels lk_Picture_channels ?_
  | refine Gx.fp (by assumption) T.cl_Picture T.na_Picture__rows lk_Picture__rows ?_))
set_option hygiene true
/-- the law's own: True, whatever the script -/
def spLaw (K : PySem.W.Frag) : Sp := fun vs H Q _ => ∃ (a : Addr) (ns : List Int), vs = [.ref a] ∧ SqL K H a (ns.map V.int) ∧ ns.length ≤ 63 ∧ (∀ z ∈ ns, Builtin.Int.intBits z ≤ 1048576) ∧ ∀ H', Q (.bl true) H' 
def sp_Picture_rows (C : Addr) : Sp := fun vs H Q _ => ∃ (x r : Addr) (w h d c : Nat) (f : Nat → List Int), vs = [.ref x] ∧ Pic C H x r w h d c f ∧ c ≤ 3 ∧ ∀ p H', H p = none → Same H H' → Gx.LL H' p c f → Q (.ref p) H'

theorem sc_Picture_rows : FnScope ["self", "row"] ["self"] (defScope s_Picture_rows) := ⟨rfl, rfl, rfl, by decide +kernel, rfl, by decide +kernel, by decide +kernel⟩
theorem ok_Picture_rows (T : Tx K mg) : FnOk P w K mg base CX0 1 T.Picture_rows.a T.Picture_rows.d ["self"] (sp_Picture_rows T.a_Picture) := by
  refine T.Picture_rows.f.ok sc_Picture_rows (fun vs H Q E h => ?_) (fun cdv A outer s H vs Q E hr h => ⟨_, pss_one (ps_ret (pe_lc (own := [("row", 1)]) (g := gName 1) (tt := tYes) rfl sc_Picture_rows.nd (pi_list (pe_fld (pv 0) rfl)) (blkOk_by (own := [("row", 1)]) (N := ["self", "row"]) (sc := defScope s_Picture_rows) (by decide +kernel)) (fun _ _ _ _ _ => pg_name (i := 1) sc_Picture_rows.nd rfl (Or.inl rfl)) (fun _ _ _ _ _ => pts_nil) (fun _ _ _ _ _ => pe_callTy (Gx.c_listK (K := K) rfl) rfl T.n_list (by decide +kernel) (pa_cons (pv 1) pa_nil)))), ?_⟩)
  · obtain ⟨x, r, w, h, d, c, f, rfl, _⟩ := h
    rfl
  · skip
    obtain ⟨x, r, w, h, d, c, f, rfl, ⟨⟨dx, hx⟩, ll⟩, hc, q⟩ := h
    obtain ⟨xs, hv, hl, hall⟩ := ll.all
    walk_at "go"
    refine Gx.lp (SqL.of hv) ?_
    refine Gx.lcLst walk_list (by omega) f (fun _ s => s.seq (SqL.of hv)) Gx.sameAt ?_ ?_
    · rintro i y H3 H3' R R0 hi s3 ⟨rfl, hy⟩ hr
      obtain ⟨b, rfl, hb⟩ := hall i y hy
      have hb := s3 _ _ hb
      walk_at "go"
      refine Gx.listL (SqL.of hb) fun p hp => ?_
      exact hr p _ hp (Gx.same_new hp) upd_same
    rw [hl]
    exact q

theorem cp_Picture_rows {C x r : Addr} {w h d c : Nat} {f : Nat → List Int} {H : Hp} {Q : VK} {E : XK} (p : Pic C H x r w h d c f) (hc : c ≤ 3) (q : ∀ p H', H p = none → Same H H' → Gx.LL H' p c f → Q (.ref p) H') : Gx.CP (sp_Picture_rows C) [.ref x] [] H Q E := ⟨x, r, w, h, d, c, f, rfl, p, hc, q⟩

def sp_law_gray : Sp := fun vs H Q _ => ∃ (v p : Nat), vs = [.int (v : Int), .int (p : Int)] ∧ p ≤ 1000 ∧ Q (.int (Gy.gb v p : Nat)) H

theorem sc_law_gray : FnScope ["value", "plane"] ["value", "plane"] (defScope s_law_gray) := ⟨rfl, rfl, rfl, by decide +kernel, rfl, by decide +kernel, by decide +kernel⟩
theorem ok_law_gray (T : Tx K mg) : FnOk P w K mg base CX0 1 T.law_gray.a T.law_gray.d ["value", "plane"] (sp_law_gray) := by
  refine T.law_gray.f.ok sc_law_gray (fun vs H Q E h => ?_) (fun cdv A outer s H vs Q E hr h => ⟨_, pss_one (ps_ret (pe_callTy Gx.c_int rfl T.n_int (by decide +kernel) (pa_cons (pe_cmpR op_ne (pe_op op_mod (pe_op op_fdivW (pv 0) (pe_op op_shl (pe_int) (pv 1))) (pe_int)) (pe_op op_mod (pe_op op_fdivW (pv 0) (pe_op op_shl (pe_int) (pe_op op_add (pv 1) (pe_int)))) (pe_int)) (nomark _)) pa_nil))), ?_⟩)
  · obtain ⟨v, p, rfl, _⟩ := h
    rfl
  · skip
    obtain ⟨v, p, rfl, hp, q⟩ := h
    walk_at "go"
    refine Gx.ic ⟨by omega, by omega, by decide⟩ ?_
    walk_at "go"
    rw [Gy.pw]
    refine Gx.ic (Gy.dw (by omega)) ?_
    walk_at "go"
    refine Gx.ic (by decide) ?_
    walk_at "go"
    refine Gx.ic ⟨by omega, by omega, by decide⟩ ?_
    walk_at "go"
    rw [Gy.pw1]
    refine Gx.ic (Gy.dw (by omega)) ?_
    walk_at "go"
    refine Gx.ic (by decide) ?_
    walk_at "go"
    rw [Gy.ne_gb]
    exact q

theorem cp_law_gray {v p : Nat} {H : Hp} {Q : VK} {E : XK} (hp : p ≤ 1000) (q : Q (.int (Gy.gb v p : Nat)) H) : Gx.CP sp_law_gray [.int (v : Int), .int (p : Int)] [] H Q E := ⟨v, p, rfl, hp, q⟩

def sp_law_stored : Sp := fun vs H Q _ => ∃ (v : Addr) (c j k p : Nat) (f : Nat → List Int), vs = [.ref v, .int (j : Int), .int (k : Int), .int (p : Int)] ∧ Gx.LL H v c f ∧ (c = 1 ∨ c = 3) ∧ j < c ∧ p ≤ 1000 ∧ (∀ i, i < c → k < (f i).length ∧ ∀ z ∈ f i, 0 ≤ z) ∧ Q (.int (Gd.sb f c j k p : Nat)) H

theorem sc_law_stored : FnScope ["values", "channel", "pixel", "plane", "middle", "side"] ["values", "channel", "pixel", "plane"] (defScope s_law_stored) := ⟨rfl, rfl, rfl, by decide +kernel, rfl, by decide +kernel, by decide +kernel⟩
theorem ok_law_stored (T : Tx K mg) : FnOk P w K mg base CX0 2 T.law_stored.a T.law_stored.d ["values", "channel", "pixel", "plane"] (sp_law_stored) := by
  refine T.law_stored.f.ok sc_law_stored (fun vs H Q E h => ?_) (fun cdv A outer s H vs Q E hr h => ⟨_, pss_cons (ps_if (pt_cmpR op_eq (pe_callB Gx.c_len rfl T.n_len (by decide +kernel) (pa_cons (pv 0) pa_nil)) (pe_int) (nomark _)) (pss_one (ps_ret (pe_call (ok_law_gray T) (hr.mono (by decide)) rfl T.law_gray.g T.law_gray.f.kp T.law_gray.b .nil pass0 (pa_cons (pe_ix ix_seq (pe_ix ix_seq (pv 0) (pe_int) (fun _ _ => rfl)) (pv 2) (fun _ _ => rfl)) (pa_cons (pv 3) pa_nil))))) (pss_nil))
      (pss_cons (ps_set (i := 4) sc_law_stored.nd rfl (Or.inl rfl) (pe_call (ok_law_gray T) (hr.mono (by decide)) rfl T.law_gray.g T.law_gray.f.kp T.law_gray.b .nil pass0 (pa_cons (pe_ix ix_seq (pe_ix ix_seq (pv 0) (pe_int) (fun _ _ => rfl)) (pv 2) (fun _ _ => rfl)) (pa_cons (pv 3) pa_nil))))
      (pss_cons (ps_if (pt_cmpR op_eq (pv 1) (pe_int) (nomark _)) (pss_one (ps_ret (pv 4))) (pss_nil))
      (pss_cons (ps_set (i := 5) sc_law_stored.nd rfl (Or.inl rfl) (pe_ifExp (pt_cmpR op_eq (pv 1) (pe_int) (nomark _)) (pe_int) (pe_int)))
      (pss_one (ps_ret (pe_callTy Gx.c_int rfl T.n_int (by decide +kernel) (pa_cons (pe_cmpR op_ne (pe_call (ok_law_gray T) (hr.mono (by decide)) rfl T.law_gray.g T.law_gray.f.kp T.law_gray.b .nil pass0 (pa_cons (pe_ix ix_seq (pe_ix ix_seq (pv 0) (pv 5) (fun _ _ => rfl)) (pv 2) (fun _ _ => rfl)) (pa_cons (pv 3) pa_nil))) (pv 4) (nomark _)) pa_nil))))))), ?_⟩)
  · obtain ⟨v, c, j, k, p, f, rfl, _⟩ := h
    rfl
  · skip
    obtain ⟨v, c, j, k, p, f, rfl, ll, hc, hj, hp, hf, q⟩ := h
    obtain ⟨xs0, hv, hl⟩ := ll.len
    walk_at "go"
    refine Gx.lenL (SqL.of hv) ?_
    rw [hl]
    walk_at "go"
    refine Gx.if_d (fun e => ?_) (fun e => ?_)
    · have e1 : c = 1 := by omega
      obtain ⟨xs, b, h1, h2, h3⟩ := ll.get (j := 0) (by omega)
      walk_at "go"
      refine Gx.ixL (SqL.of h1) h2 ?_
      walk_at "go"
      refine Gx.ixL (SqL.of h3) (Gx.at_map (hf 0 (by omega)).1) ?_
      walk_at "go"
      rw [Gd.vl_int (hf 0 (by omega)).1 (hf 0 (by omega)).2]
      refine cp_law_gray hp ?_
      unfold Gd.sb at q
      rw [if_pos e1] at q
      exact q
    have e3 : c = 3 := by omega
    have ne1 : ¬ c = 1 := by omega
    unfold Gd.sb at q
    rw [if_neg ne1] at q
    obtain ⟨xs, b, h1, h2, h3⟩ := ll.get (j := 1) (by omega)
    walk_at "go"
    refine Gx.ixL (SqL.of h1) h2 ?_
    walk_at "go"
    refine Gx.ixL (SqL.of h3) (Gx.at_map (hf 1 (by omega)).1) ?_
    walk_at "go"
    rw [Gd.vl_int (hf 1 (by omega)).1 (hf 1 (by omega)).2]
    refine cp_law_gray hp ?_
    walk_at "go"
    refine Gx.if_d (fun e => ?_) (fun e => ?_)
    · walk_at "go"
      rw [if_pos (by omega)] at q
      exact q
    rw [if_neg (by omega)] at q
    walk_at "go"
    refine Gx.if_d (fun e1 => ?_) (fun e1 => ?_)
    · obtain ⟨xs, b, h1, h2, h3⟩ := ll.get (j := 0) (by omega)
      walk_at "go"
      refine Gx.ixL (SqL.of h1) h2 ?_
      walk_at "go"
      refine Gx.ixL (SqL.of h3) (Gx.at_map (hf 0 (by omega)).1) ?_
      walk_at "go"
      rw [Gd.vl_int (hf 0 (by omega)).1 (hf 0 (by omega)).2]
      refine cp_law_gray hp ?_
      walk_at "go"
      rw [Gd.xr_ne]
      rw [if_pos (show j = 1 by omega)] at q
      exact q
    · obtain ⟨xs, b, h1, h2, h3⟩ := ll.get (j := 2) (by omega)
      walk_at "go"
      refine Gx.ixL (SqL.of h1) h2 ?_
      walk_at "go"
      refine Gx.ixL (SqL.of h3) (Gx.at_map (hf 2 (by omega)).1) ?_
      walk_at "go"
      rw [Gd.vl_int (hf 2 (by omega)).1 (hf 2 (by omega)).2]
      refine cp_law_gray hp ?_
      walk_at "go"
      rw [Gd.xr_ne]
      rw [if_neg (show ¬ j = 1 by omega)] at q
      exact q

theorem cp_law_stored {v : Addr} {c j k p : Nat} {f : Nat → List Int} {H : Hp} {Q : VK} {E : XK} (ll : Gx.LL H v c f) (hc : c = 1 ∨ c = 3) (hj : j < c) (hp : p ≤ 1000) (hf : ∀ i, i < c → k < (f i).length ∧ ∀ z ∈ f i, 0 ≤ z) (q : Q (.int (Gd.sb f c j k p : Nat)) H) :
    Gx.CP sp_law_stored [.ref v, .int (j : Int), .int (k : Int), .int (p : Int)] [] H Q E := ⟨v, c, j, k, p, f, rfl, ll, hc, hj, hp, hf, q⟩

def sp_law_is_int : Sp := fun vs H Q _ => ∃ i : Int, vs = [.int i] ∧ Q (.bl true) H

theorem sc_law_is_int : FnScope ["actual"] ["actual"] (defScope s_law_is_int) := ⟨rfl, rfl, rfl, by decide +kernel, rfl, by decide +kernel, by decide +kernel⟩
theorem ok_law_is_int (T : Tx K mg) : FnOk P w K mg base CX0 1 T.law_is_int.a T.law_is_int.d ["actual"] (sp_law_is_int) := by
  refine T.law_is_int.f.ok sc_law_is_int (fun vs H Q E h => ?_) (fun cdv A outer s H vs Q E hr h => ⟨_, pss_one (ps_ret (pe_and (pe_callB call_isi rfl T.n_isinstance (by decide +kernel) (pa_cons (pv 0) (pa_cons (pe_bltn (v := .ty "int") rfl T.n_int (by decide +kernel) rfl) pa_nil))) (pe_one (pe_not (pe_callB call_isi rfl T.n_isinstance (by decide +kernel) (pa_cons (pv 0) (pa_cons (pe_bltn (v := .ty "bool") rfl T.n_bool (by decide +kernel) rfl) pa_nil))))))), ?_⟩)
  · obtain ⟨i, rfl, _⟩ := h
    rfl
  · skip
    obtain ⟨i, rfl, q⟩ := h
    walk_at "go"
    refine Gx.isiI ?_ (by decide +kernel : kitB "int" "int" = some true)
    walk_at "go"
    refine Gx.isiI ?_ (by decide +kernel : kitB "int" "bool" = some false)
    walk_at "go"
    exact q

theorem cp_law_is_int {i : Int} {H : Hp} {Q : VK} {E : XK} (q : Q (.bl true) H) : Gx.CP sp_law_is_int [.int i] [] H Q E := ⟨i, rfl, q⟩

def sp_gray_bit : Sp := fun vs H Q _ => ∃ (v p : Nat), vs = [.int (v : Int), .int (p : Int)] ∧ Q (.int (Gy.gb v p : Nat)) H

theorem sc_gray_bit : FnScope ["value", "plane"] ["value", "plane"] (defScope s_gray_bit) := ⟨rfl, rfl, rfl, by decide +kernel, rfl, by decide +kernel, by decide +kernel⟩
theorem ok_gray_bit (T : Tx K mg) : FnOk P w K mg base CX0 1 T.gray_bit.a T.gray_bit.d ["value", "plane"] (sp_gray_bit) := by
  refine T.gray_bit.f.ok sc_gray_bit (fun vs H Q E h => ?_) (fun cdv A outer s H vs Q E hr h => ⟨_, pss_one (ps_ret (pe_op op_and (pe_op op_xor (pe_op op_shr (pv 0) (pv 1)) (pe_op op_shr (pv 0) (pe_op op_add (pv 1) (pe_int)))) (pe_int))), ?_⟩)
  · obtain ⟨v, p, rfl, _⟩ := h
    rfl
  · skip
    obtain ⟨v, p, rfl, q⟩ := h
    walk_at "go"
    refine Gx.ic (by walk_at "side") ?_
    walk_at "go"
    refine Gx.ic (by walk_at "side") ?_
    walk_at "go"
    rw [show (Builtin.bitAnd (Builtin.bitXor ((v : Int) / 2 ^ (p : Int).toNat) ((v : Int) / 2 ^ ((p : Int) + 1).toNat)) 1) = ((Gy.gb v p : Nat) : Int) from Gy.gb_int v p]
    exact q

theorem cp_gray_bit {a b : Int} {H : Hp} {Q : VK} {E : XK} (h0 : 0 ≤ a) (h1 : 0 ≤ b) (q : Q (.int (Gy.gb a.toNat b.toNat : Nat)) H) : Gx.CP sp_gray_bit [.int a, .int b] [] H Q E :=
  ⟨a.toNat, b.toNat, by rw [List.append_nil, Int.toNat_of_nonneg h0, Int.toNat_of_nonneg h1], q⟩

def sp_Picture_value (C : Addr) : Sp := fun vs H Q _ => ∃ (x r : Addr) (w h d c j k : Nat) (f : Nat → List Int), vs = [.ref x, .int (j : Int), .int (k : Int)] ∧ Pic C H x r w h d c f ∧ j < c ∧ k < (f j).length ∧ Q (.int ((f j).getD k 0)) H

theorem sc_Picture_value : FnScope ["self", "channel", "pixel"] ["self", "channel", "pixel"] (defScope s_Picture_value) := ⟨rfl, rfl, rfl, by decide +kernel, rfl, by decide +kernel, by decide +kernel⟩
theorem ok_Picture_value (T : Tx K mg) : FnOk P w K mg base CX0 1 T.Picture_value.a T.Picture_value.d ["self", "channel", "pixel"] (sp_Picture_value T.a_Picture) := by
  refine T.Picture_value.f.ok sc_Picture_value (fun vs H Q E h => ?_) (fun cdv A outer s H vs Q E hr h => ⟨_, pss_one (ps_ret (pe_ix ix_seq (pe_ix ix_seq (pe_fld (pv 0) rfl) (pv 1) (fun _ _ => rfl)) (pv 2) (fun _ _ => rfl))), ?_⟩)
  · obtain ⟨x, r, w, h, d, c, j, k, f, rfl, _⟩ := h
    rfl
  · skip
    obtain ⟨x, r, w, h, d, c, j, k, f, rfl, ⟨⟨dx, hx⟩, ll⟩, hj, hk, q⟩ := h
    obtain ⟨xs, b, h1, h2, h3⟩ := ll.get hj
    walk_at "go"
    refine Gx.ixL (SqL.of h1) h2 ?_
    walk_at "go"
    refine Gx.ixL (SqL.of h3) (Gx.at_map hk) ?_
    exact q

theorem cp_Picture_value {C x r : Addr} {w h d c j k : Nat} {f : Nat → List Int} {H : Hp} {Q : VK} {E : XK} (p : Pic C H x r w h d c f) (hj : j < c) (hk : k < (f j).length) (q : Q (.int ((f j).getD k 0)) H) : Gx.CP (sp_Picture_value C) [.ref x, .int (j : Int), .int (k : Int)] [] H Q E := ⟨x, r, w, h, d, c, j, k, f, rfl, p, hj, hk, q⟩

def sp_stored_bit (C : Addr) : Sp := fun vs H Q _ => ∃ (x r : Addr) (w h d c j k p : Nat) (f : Nat → List Int), vs = [.ref x, .int (j : Int), .int (k : Int), .int (p : Int)] ∧ Pic C H x r w h d c f ∧ (c = 1 ∨ c = 3) ∧ j < c ∧ (∀ i, i < c → k < (f i).length ∧ ∀ z ∈ f i, 0 ≤ z) ∧ Q (.int (Gd.sb f c j k p : Nat)) H

theorem sc_stored_bit : FnScope ["picture", "channel", "pixel", "plane", "middle", "other"] ["picture", "channel", "pixel", "plane"] (defScope s_stored_bit) := ⟨rfl, rfl, rfl, by decide +kernel, rfl, by decide +kernel, by decide +kernel⟩
theorem ok_stored_bit (T : Tx K mg) : FnOk P w K mg base CX0 2 T.stored_bit.a T.stored_bit.d ["picture", "channel", "pixel", "plane"] (sp_stored_bit T.a_Picture) := by
  refine T.stored_bit.f.ok sc_stored_bit (fun vs H Q E h => ?_) (fun cdv A outer s H vs Q E hr h => ⟨_, pss_cons (ps_if (pt_cmpR op_eq (pe_fld (pv 0) rfl) (pe_int) (nomark _)) (pss_one (ps_ret (pe_call (ok_gray_bit T) (hr.mono (by decide)) rfl T.gray_bit.g T.gray_bit.f.kp T.gray_bit.b .nil pass0 (pa_cons (pe_meth (pv 0) T.cl_Picture T.Picture_value.m (ok_Picture_value T) (hr.mono (by decide)) T.Picture_value.b .nil pass0 (pa_cons (pe_int) (pa_cons (pv 2) pa_nil))) (pa_cons (pv 3) pa_nil))))) (pss_nil))
      (pss_cons (ps_set (i := 4) sc_stored_bit.nd rfl (Or.inl rfl) (pe_call (ok_gray_bit T) (hr.mono (by decide)) rfl T.gray_bit.g T.gray_bit.f.kp T.gray_bit.b .nil pass0 (pa_cons (pe_meth (pv 0) T.cl_Picture T.Picture_value.m (ok_Picture_value T) (hr.mono (by decide)) T.Picture_value.b .nil pass0 (pa_cons (pe_int) (pa_cons (pv 2) pa_nil))) (pa_cons (pv 3) pa_nil))))
      (pss_cons (ps_if (pt_cmpR op_eq (pv 1) (pe_int) (nomark _)) (pss_one (ps_ret (pv 4))) (pss_nil))
      (pss_cons (ps_set (i := 5) sc_stored_bit.nd rfl (Or.inl rfl) (pe_ifExp (pt_cmpR op_eq (pv 1) (pe_int) (nomark _)) (pe_int) (pe_int)))
      (pss_one (ps_ret (pe_op op_xor (pv 4) (pe_call (ok_gray_bit T) (hr.mono (by decide)) rfl T.gray_bit.g T.gray_bit.f.kp T.gray_bit.b .nil pass0 (pa_cons (pe_meth (pv 0) T.cl_Picture T.Picture_value.m (ok_Picture_value T) (hr.mono (by decide)) T.Picture_value.b .nil pass0 (pa_cons (pv 5) (pa_cons (pv 2) pa_nil))) (pa_cons (pv 3) pa_nil))))))))), ?_⟩)
  · obtain ⟨x, r, w, h, d, c, j, k, p, f, rfl, _⟩ := h
    rfl
  · skip
    obtain ⟨x, r, w, h, d, c, j, k, p, f, rfl, pc, hc, hj, hf, q⟩ := h
    obtain ⟨dx, hx⟩ := pc.ob
    walk_at "go"
    refine Gx.if_d (fun e => ?_) (fun e => ?_)
    · have e1 : c = 1 := by omega
      walk_at "go"
      refine Gx.mp hx no_Picture_value ?_
      walk_at "go"
      refine cp_Picture_value (j := 0) pc (by omega) (hf 0 (by omega)).1 ?_
      walk_at "go"
      rw [Gd.vl_int (hf 0 (by omega)).1 (hf 0 (by omega)).2]
      refine cp_gray_bit (by omega) (by omega) ?_
      rw [Int.toNat_natCast, Int.toNat_natCast]
      unfold Gd.sb at q
      rw [if_pos e1] at q
      exact q
    have e3 : c = 3 := by omega
    have ne1 : ¬ c = 1 := by omega
    unfold Gd.sb at q
    rw [if_neg ne1] at q
    walk_at "go"
    refine Gx.mp hx no_Picture_value ?_
    walk_at "go"
    refine cp_Picture_value (j := 1) pc (by omega) (hf 1 (by omega)).1 ?_
    walk_at "go"
    rw [Gd.vl_int (hf 1 (by omega)).1 (hf 1 (by omega)).2]
    refine cp_gray_bit (by omega) (by omega) ?_
    rw [Int.toNat_natCast, Int.toNat_natCast]
    walk_at "go"
    refine Gx.if_d (fun e => ?_) (fun e => ?_)
    · walk_at "go"
      rw [if_pos (by omega)] at q
      exact q
    rw [if_neg (by omega)] at q
    walk_at "go"
    refine Gx.if_d (fun e1 => ?_) (fun e1 => ?_)
    · walk_at "go"
      refine Gx.mp hx no_Picture_value ?_
      walk_at "go"
      refine cp_Picture_value (j := 0) pc (by omega) (hf 0 (by omega)).1 ?_
      walk_at "go"
      rw [Gd.vl_int (hf 0 (by omega)).1 (hf 0 (by omega)).2]
      refine cp_gray_bit (by omega) (by omega) ?_
      rw [Int.toNat_natCast, Int.toNat_natCast]
      refine Gx.i0 ?_
      rw [Gd.xr_int (Gy.gb_le _ _) (Gy.gb_le _ _)]
      rw [if_pos (show j = 1 by omega)] at q
      exact q
    · walk_at "go"
      refine Gx.mp hx no_Picture_value ?_
      walk_at "go"
      refine cp_Picture_value (j := 2) pc (by omega) (hf 2 (by omega)).1 ?_
      walk_at "go"
      rw [Gd.vl_int (hf 2 (by omega)).1 (hf 2 (by omega)).2]
      refine cp_gray_bit (by omega) (by omega) ?_
      rw [Int.toNat_natCast, Int.toNat_natCast]
      refine Gx.i0 ?_
      rw [Gd.xr_int (Gy.gb_le _ _) (Gy.gb_le _ _)]
      rw [if_neg (show ¬ j = 1 by omega)] at q
      exact q

theorem cp_stored_bit {C x r : Addr} {w h d c j k p : Nat} {f : Nat → List Int} {H : Hp} {Q : VK} {E : XK} (pc : Pic C H x r w h d c f) (hc : c = 1 ∨ c = 3) (hj : j < c) (hf : ∀ i, i < c → k < (f i).length ∧ ∀ z ∈ f i, 0 ≤ z) (q : Q (.int (Gd.sb f c j k p : Nat)) H) :
    Gx.CP (sp_stored_bit C) [.ref x, .int (j : Int), .int (k : Int), .int (p : Int)] [] H Q E := ⟨x, r, w, h, d, c, j, k, p, f, rfl, pc, hc, hj, hf, q⟩

/-- some number from 0 on below the limit -/
def sp_law_mixed : Sp := fun vs H Q _ => ∃ (n k l : Int), vs = [.int n, .int k, .int l] ∧ 0 < l ∧ ∀ r, 0 ≤ r → r < l → Q (.int r) H

theorem sc_law_mixed : FnScope ["number", "k", "limit", "one", "two"] ["number", "k", "limit"] (defScope s_law_mixed) := ⟨rfl, rfl, rfl, by decide +kernel, rfl, by decide +kernel, by decide +kernel⟩
theorem ok_law_mixed (T : Tx K mg) : FnOk P w K mg base CX0 1 T.law_mixed.a T.law_mixed.d ["number", "k", "limit"] (sp_law_mixed) := by
  refine T.law_mixed.f.ok sc_law_mixed (fun vs H Q E h => ?_) (fun cdv A outer s H vs Q E hr h => ⟨_, pss_cons (ps_set (i := 3) sc_law_mixed.nd rfl (Or.inl rfl) (pe_op op_mod (pe_callTy Gx.c_int rfl T.n_int (by decide +kernel) (pa_cons (pe_op op_mul (pe_op op_add (pe_op op_add (pv 0) (pe_op op_mul (pe_int) (pv 1))) (pe_int)) (pe_int)) pa_nil)) (pe_int)))
      (pss_cons (ps_set (i := 4) sc_law_mixed.nd rfl (Or.inl rfl) (pe_op op_mod (pe_callTy Gx.c_int rfl T.n_int (by decide +kernel) (pa_cons (pe_op op_add (pe_op op_mul (pv 3) (pv 3)) (pe_op op_mul (pe_int) (pv 1))) pa_nil)) (pe_int)))
      (pss_one (ps_ret (pe_op op_mod (pe_op op_mod (pe_callTy Gx.c_int rfl T.n_int (by decide +kernel) (pa_cons (pe_op op_add (pe_op op_mul (pv 4) (pe_int)) (pv 3)) pa_nil)) (pe_int)) (pv 2))))), ?_⟩)
  · obtain ⟨n, k, l, rfl, _⟩ := h
    rfl
  · skip
    obtain ⟨n, k, l, rfl, hl, q⟩ := h
    walk_at "go"
    refine Gx.ic (.inl (by decide)) ?_
    walk_at "go"
    refine Gx.ic (.inr (by decide)) ?_
    walk_at "go"
    refine Gx.ic (by decide) ?_
    generalize e1 : ((n + 7 * k + 1) * 48271) % 2147483647 = one
    have h1 : 0 ≤ one ∧ one < 2147483647 := by omega
    walk_at "go"
    refine Gx.ic (.inl (by omega)) ?_
    walk_at "go"
    refine Gx.ic (.inl (by decide)) ?_
    walk_at "go"
    refine Gx.ic (by decide) ?_
    walk_at "go"
    refine Gx.ic (.inr (by decide)) ?_
    walk_at "go"
    refine Gx.ic (by decide) ?_
    walk_at "go"
    refine Gx.ic hl ?_
    exact q _ (Int.emod_nonneg _ (by omega)) (Int.emod_lt_of_pos _ hl)

theorem cp_law_mixed {n k l : Int} {H : Hp} {Q : VK} {E : XK} (hl : 0 < l) (q : ∀ r, 0 ≤ r → r < l → Q (.int r) H) : Gx.CP sp_law_mixed [.int n, .int k, .int l] [] H Q E := ⟨n, k, l, rfl, hl, q⟩

/-- a new list of so many numbers from 0 on below the limit -/
def sp_law_numbers : Sp := fun vs H Q _ => ∃ (c : Int) (n : Nat) (l : Int), vs = [.int c, .int (n : Int), .int l] ∧ 0 < l ∧ l < 1073741824 ∧ n ≤ 100000 ∧
  ∀ (xs : List Int) (p : Addr) (H' : Hp), xs.length = n → (∀ x ∈ xs, 0 ≤ x ∧ x < l) → H p = none → Same H H' → H' p = some (.lst (xs.map V.int)) → Q (.ref p) H'

theorem sc_law_numbers : FnScope ["cell", "count", "limit", "rest", "large", "numbers", "k"] ["cell", "count", "limit"] (defScope s_law_numbers) := ⟨rfl, rfl, rfl, by decide +kernel, rfl, by decide +kernel, by decide +kernel⟩
theorem ok_law_numbers (T : Tx K mg) : FnOk P w K mg base CX0 2 T.law_numbers.a T.law_numbers.d ["cell", "count", "limit"] (sp_law_numbers) := by
  refine T.law_numbers.f.ok sc_law_numbers (fun vs H Q E h => ?_) (fun cdv A outer s H vs Q E hr h => ⟨_, pss_cons (ps_set (i := 3) sc_law_numbers.nd rfl (Or.inl rfl) (pe_callB Gx.c_abs rfl T.n_abs (by decide +kernel) (pa_cons (pv 0) pa_nil)))
      (pss_cons (ps_set (i := 4) sc_law_numbers.nd rfl (Or.inl rfl) (pe_cmpR op_ge (pv 3) (pe_op op_pow (pe_int) (pe_int)) (nomark _)))
      (pss_cons (ps_set (i := 5) sc_law_numbers.nd rfl (Or.inl rfl) (pe_lst pa_nil))
      (pss_cons (ps_for PassesOwn.never rfl (pi_range1 rfl T.n_range (pa_cons (pv 1) pa_nil)) (pg_name (i := 6) sc_law_numbers.nd rfl (Or.inl rfl))
      (pss_one (ps_if (PW.pt (pw_and (pt_val (pv 4)) (pw_and1 (pt_cmpR op_gt (pv 3) (pe_int) (nomark _))))) (pss_cons (ps_expr (pe_bm PySem.F.plainAttrs_list PySem.F.slot_list_append PySem.F.type_list_append mt_append (pv 5) (pa_cons (pe_op op_mod (pe_callTy Gx.c_int rfl T.n_int (by decide +kernel) (pa_cons (pv 3) pa_nil)) (pv 2)) pa_nil)))
      (pss_one (ps_set (i := 3) sc_law_numbers.nd rfl (Or.inl rfl) (pe_op op_fdiv (pv 3) (pv 2))))) (pss_one (ps_expr (pe_bm PySem.F.plainAttrs_list PySem.F.slot_list_append PySem.F.type_list_append mt_append (pv 5) (pa_cons (pe_call (ok_law_mixed T) (hr.mono (by decide)) rfl T.law_mixed.g T.law_mixed.f.kp T.law_mixed.b .nil pass0 (pa_cons (pe_callB Gx.c_abs rfl T.n_abs (by decide +kernel) (pa_cons (pv 0) pa_nil)) (pa_cons (pv 6) (pa_cons (pv 2) pa_nil)))) pa_nil)))))))
      (pss_one (ps_ret (pv 5)))))), ?_⟩)
  · obtain ⟨c, n, l, rfl, _⟩ := h
    rfl
  · skip
    obtain ⟨c, n, l, rfl, h0, h1, hn, q⟩ := h
    walk_at "go"
    refine Gx.ic ⟨by decide, by decide, by decide⟩ ?_
    walk_at "go"
    refine Gx.lstP (Nat.zero_le _) fun p hp => ?_
    walk_at "go"
    refine Gx.r1 (by omega) (by omega) ?_
    refine Gx.fwR (fun i σ' H' => ∃ (xs : List Int) (r : Int) (b : Bool) (kv : Option V), xs.length = i ∧ (∀ x ∈ xs, 0 ≤ x ∧ x < l) ∧ H p = none ∧ Same H H' ∧ H' p = some (.lst (xs.map V.int)) ∧
      σ' = [some (.int c), some (.int (n : Int)), some (.int l), some (.int r), some (.bl b), some (.ref p), kv]) ?_ ?_ ?_
    · exact ⟨[], _, _, none, rfl, (fun _ z => nomatch z), hp, (fun b o e => by rw [upd_ne (ne_of_none e hp)]; exact e), upd_same, rfl⟩
    · rintro i σ' H' hi ⟨xs, r, b, kv, hx, hb, hp0, hs, hL, rfl⟩
      have hz : (xs.map V.int).length < sizeLine := by rw [List.length_map, sizeLine_eq]; omega
      have fin : ∀ (x : Int) (r' : Int) (kv' : Option V), 0 ≤ x → x < l → ∃ (ys : List Int) (r : Int) (b' : Bool) (kv : Option V), ys.length = i + 1 ∧ (∀ x ∈ ys, 0 ≤ x ∧ x < l) ∧ H p = none ∧ Same H (upd H' p (.lst (xs.map V.int ++ [.int x]))) ∧
          upd H' p (.lst (xs.map V.int ++ [.int x])) p = some (.lst (ys.map V.int)) ∧
          [some (V.int c), some (.int (n : Int)), some (.int l), some (.int r'), some (.bl b), some (.ref p), kv'] = [some (V.int c), some (.int (n : Int)), some (.int l), some (.int r), some (.bl b'), some (.ref p), kv] := by
        intro x r' kv' hx0 hx1
        refine ⟨xs ++ [x], r', b, kv', by rw [List.length_append, hx]; rfl, fun y hy => ?_, hp0, fun a o e => ?_, ?_, rfl⟩
        · rcases List.mem_append.mp hy with z | z
          · exact hb y z
          · rw [List.mem_singleton.mp z]; exact ⟨hx0, hx1⟩
        · rw [upd_ne (ne_of_none e hp0)]; exact hs a o e
        · rw [upd_same, List.map_append]; rfl
      walk_at "go"
      refine Gx.if_b (fun hb1 => ?_) (fun hb1 => ?_)
      · walk_at "go"
        refine Gx.if_d (fun hr1 => ?_) (fun hr1 => ?_)
        · walk_at "go"
          refine Gx.bmS (Gx.tyL (SqL.of hL)) ?_
          walk_at "go"
          refine Gx.ic h0 ?_
          walk_at "go"
          refine Gx.app hL hz ?_
          walk_at "go"
          refine Gx.ic ⟨h0, h1⟩ ?_
          walk_at "go"
          exact fin _ _ _ (Int.emod_nonneg _ (by omega)) (Int.emod_lt_of_pos _ h0)
        · walk_at "go"
          refine Gx.bmS (Gx.tyL (SqL.of hL)) ?_
          walk_at "go"
          refine cp_law_mixed h0 fun y hy0 hy1 => ?_
          walk_at "go"
          refine Gx.app hL hz ?_
          exact fin _ _ _ hy0 hy1
      · walk_at "go"
        refine Gx.bmS (Gx.tyL (SqL.of hL)) ?_
        walk_at "go"
        refine cp_law_mixed h0 fun y hy0 hy1 => ?_
        walk_at "go"
        refine Gx.app hL hz ?_
        exact fin _ _ _ hy0 hy1
    · rintro σ' H' ⟨xs, r, b, kv, hx, hb, hp0, hs, hL, rfl⟩
      walk_at "go"
      exact q xs p H' (by omega) hb hp0 hs hL

theorem cp_law_numbers {c n l : Int} {H : Hp} {Q : VK} {E : XK} (hn : 0 ≤ n ∧ n ≤ 100000) (h0 : 0 < l) (h1 : l < 1073741824)
    (q : ∀ (xs : List Int) (p : Addr) (H' : Hp), xs.length = n.toNat → (∀ x ∈ xs, 0 ≤ x ∧ x < l) → H p = none → Same H H' → H' p = some (.lst (xs.map V.int)) → Q (.ref p) H') : Gx.CP sp_law_numbers [.int c, .int n, .int l] [] H Q E :=
  ⟨c, n.toNat, l, by rw [List.append_nil, Int.toNat_of_nonneg hn.1], h0, h1, by omega, q⟩

/-- a cell of the script, 0 beyond its end -/
def sp_law_cell (K : PySem.W.Frag) : Sp := fun vs H Q _ => ∃ (a : Addr) (ns : List Int) (k : Nat), vs = [.ref a, .int (k : Int)] ∧ SqL K H a (ns.map V.int) ∧ k < 100000 ∧ Q (.int (ns.getD k 0)) H

theorem sc_law_cell : FnScope ["script", "k"] ["script", "k"] (defScope s_law_cell) := ⟨rfl, rfl, rfl, by decide +kernel, rfl, by decide +kernel, by decide +kernel⟩
theorem ok_law_cell (T : Tx K mg) : FnOk P w K mg base CX0 1 T.law_cell.a T.law_cell.d ["script", "k"] (sp_law_cell K) := by
  refine T.law_cell.f.ok sc_law_cell (fun vs H Q E h => ?_) (fun cdv A outer s H vs Q E hr h => ⟨_, pss_cons (ps_if (pt_cmpR op_lt (pv 1) (pe_callB Gx.c_len rfl T.n_len (by decide +kernel) (pa_cons (pv 0) pa_nil)) (nomark _)) (pss_one (ps_ret (pe_ix ix_seq (pv 0) (pv 1) (fun _ _ => rfl)))) (pss_nil))
      (pss_one (ps_ret (pe_int))), ?_⟩)
  · obtain ⟨a, ns, k, rfl, _⟩ := h
    rfl
  · skip
    obtain ⟨a, ns, k, rfl, hs, hk, q⟩ := h
    walk_at "go"
    refine Gx.lenL hs ?_
    walk_at "go"
    refine Gx.if_d (fun hlt => ?_) (fun hge => ?_)
    · rw [List.length_map] at hlt
      walk_at "go"
      exact Gx.ixL hs (Gx.at_map (by omega)) q
    · rw [List.length_map] at hge
      walk_at "go"
      have e : ns.getD k 0 = 0 := by
        rw [List.getD_eq_getElem?_getD, List.getElem?_eq_none (by omega)]; rfl
      rw [e] at q
      exact q

theorem cp_law_cell {K : PySem.W.Frag} {a : Addr} {ns : List Int} {k : Int} {H : Hp} {Q : VK} {E : XK} (hs : SqL K H a (ns.map V.int)) (h0 : 0 ≤ k) (h1 : k < 100000) (q : ∀ z : Int, (z ∈ ns ∨ z = 0) → Q (.int z) H) : Gx.CP (sp_law_cell K) [.ref a, .int k] [] H Q E := by
  refine ⟨a, ns, k.toNat, by rw [List.append_nil, Int.toNat_of_nonneg h0], hs, by omega, q _ ?_⟩
  rw [List.getD_eq_getElem?_getD]
  by_cases h : k.toNat < ns.length
  · rw [List.getElem?_eq_getElem h]; exact .inl (List.getElem_mem h)
  · rw [List.getElem?_eq_none (by omega)]; exact .inr rfl

/-- a number that is in range -/
def sp_check_range : Sp := fun vs H Q _ => ∃ (z : Str) (v l m : Int), vs = [.str z, .int v, .int l, .int m] ∧ l ≤ v ∧ v ≤ m ∧ Q .non H

theorem sc_check_range : FnScope ["name", "value", "least", "most"] ["name", "value", "least", "most"] (defScope s_check_range) := ⟨rfl, rfl, rfl, by decide +kernel, rfl, by decide +kernel, by decide +kernel⟩
theorem ok_check_range (T : Tx K mg) : FnOk P w K mg base CX0 3 T.check_range.a T.check_range.d ["name", "value", "least", "most"] (sp_check_range) := by
  refine T.check_range.f.ok sc_check_range (fun vs H Q E h => ?_) (fun cdv A outer s H vs Q E hr h => ⟨_, pss_one (ps_if (PW.pt (pw_or (pt_cmpR op_lt (pv 1) (pv 2) (nomark _)) (pw_or1 (pt_cmpR op_gt (pv 1) (pv 3) (nomark _))))) (pss_one (ps_never)) (pss_nil)), ?_⟩)
  · obtain ⟨z, v, l, m, rfl, _⟩ := h
    rfl
  · skip
    obtain ⟨z, v, l, m, rfl, h1, h2, q⟩ := h
    walk_at "go"
    refine Gx.if_dno (by omega) ?_
    walk_at "go"
    refine Gx.if_dno (by omega) ?_
    walk_at "go"
    exact q

theorem cp_check_range {z : Str} {v l m : Int} {H : Hp} {Q : VK} {E : XK} (h1 : l ≤ v) (h2 : v ≤ m) (q : Q .non H) : Gx.CP sp_check_range [.str z, .int v, .int l, .int m] [] H Q E := ⟨z, v, l, m, rfl, h1, h2, q⟩

def sp_check_values (K : PySem.W.Frag) : Sp := fun vs H Q _ => ∃ (v : Addr) (w h d c : Nat) (f : Nat → List Int), vs = [.int (w : Int), .int (h : Int), .int (d : Int), .int (c : Int), .ref v] ∧ Gx.LL H v c f ∧ w ≤ 64 ∧ d ≤ 8 ∧ (∀ j, j < c → (f j).length = w * h ∧ ∀ z ∈ f j, 0 ≤ z ∧ z < ((2 ^ d : Nat) : Int)) ∧ Q .non H

theorem sc_check_values : FnScope ["width", "height", "depth", "channels", "values", "row", "value"] ["width", "height", "depth", "channels", "values"] (defScope s_check_values) := ⟨rfl, rfl, rfl, by decide +kernel, rfl, by decide +kernel, by decide +kernel⟩
theorem ok_check_values (T : Tx K mg) : FnOk P w K mg base CX0 4 T.check_values.a T.check_values.d ["width", "height", "depth", "channels", "values"] (sp_check_values K) := by
  refine T.check_values.f.ok sc_check_values (fun vs H Q E h => ?_) (fun cdv A outer s H vs Q E hr h => ⟨_, pss_cons (ps_if (pt_cmpR op_ne (pe_callB Gx.c_len rfl T.n_len (by decide +kernel) (pa_cons (pv 4) pa_nil)) (pv 3) (nomark _)) (pss_one (ps_never)) (pss_nil))
      (pss_one (ps_for PassesOwn.never rfl (pi_list (pv 4)) (pg_name (i := 5) sc_check_values.nd rfl (Or.inl rfl))
      (pss_cons (ps_if (pt_cmpR op_ne (pe_callB Gx.c_len rfl T.n_len (by decide +kernel) (pa_cons (pv 5) pa_nil)) (pe_op op_mul (pv 0) (pv 1)) (nomark _)) (pss_one (ps_never)) (pss_nil))
      (pss_one (ps_for PassesOwn.never rfl (pi_list (pv 5)) (pg_name (i := 6) sc_check_values.nd rfl (Or.inl rfl))
      (pss_one (ps_expr (pe_call (ok_check_range T) (hr.mono (by decide)) rfl T.check_range.g T.check_range.f.kp T.check_range.b .nil pass0 (pa_cons (pe_str) (pa_cons (pv 6) (pa_cons (pe_int) (pa_cons (pe_op op_sub (pe_op op_shl (pe_int) (pv 2)) (pe_int)) pa_nil)))))))))))), ?_⟩)
  · obtain ⟨v, w, h, d, c, f, rfl, _⟩ := h
    rfl
  · skip
    obtain ⟨v, w, h, d, c, f, rfl, ll, hw, hd, hf, q⟩ := h
    obtain ⟨xs, hv, hl, hall⟩ := ll.all
    walk_at "go"
    refine Gx.lenL (SqL.of hv) ?_
    rw [hl]
    walk_at "go"
    rw [decide_eq_true rfl]
    walk_at "go"
    refine Gx.lp (SqL.of hv) ?_
    refine Gx.fw walk_list (fun i σ' H' => H' = H ∧ ∃ v1 v2 : Option V, σ' = [some (.int (w : Int)), some (.int (h : Int)), some (.int (d : Int)), some (.int (c : Int)), some (.ref v), v1, v2]) ⟨rfl, none, none, rfl⟩ (fun i σ' H' _ hh => by rw [hh.1]; exact SqL.of hv) ?_ ?_
    · rintro i x σ' H2 H2' hi ⟨rfl, v1, v2, rfl⟩ ⟨rfl, hx⟩
      obtain ⟨b, rfl, hb⟩ := hall i x hx
      obtain ⟨hn, hz⟩ := hf i (by omega)
      walk_at "go"
      refine Gx.lenL (SqL.of hb) ?_
      rw [List.length_map, hn]
      walk_at "go"
      refine Gx.ic (.inl (by omega)) ?_
      walk_at "go"
      rw [← Int.natCast_mul, decide_eq_true rfl]
      walk_at "go"
      refine Gx.lp (SqL.of hb) ?_
      refine Gx.fw walk_list (fun k σ' H' => H' = H2' ∧ ∃ v2 : Option V, σ' = [some (.int (w : Int)), some (.int (h : Int)), some (.int (d : Int)), some (.int (c : Int)), some (.ref v), some (.ref b), v2]) ⟨rfl, _, rfl⟩ (fun i σ' H' _ hh => by rw [hh.1]; exact SqL.of hb) ?_ ?_
      · rintro k y σ' H3 H3' hk ⟨rfl, v2, rfl⟩ ⟨rfl, hy⟩
        obtain ⟨z, rfl, hz0⟩ : ∃ z : Int, y = .int z ∧ z ∈ f i := by
          rw [List.getElem?_map] at hy
          cases e : (f i)[k]? with
          | none => rw [e] at hy; cases hy
          | some z => rw [e] at hy; exact ⟨z, (Option.some.inj hy).symm, List.mem_of_getElem? e⟩
        have hz1 := hz z hz0
        walk_at "go"
        refine Gx.ic ⟨by omega, by omega, by decide⟩ ?_
        walk_at "go"
        rw [Gy.pw]
        refine cp_check_range (by omega) (by omega) ?_
        walk_at "go"
        exact ⟨rfl, _, rfl⟩
      · rintro σ' H3 ⟨rfl, v2, rfl⟩
        walk_at "go"
        exact ⟨rfl, _, _, rfl⟩
    · rintro σ' H2 ⟨rfl, v1, v2, rfl⟩
      walk_at "go"
      exact q

theorem cp_check_values {K : PySem.W.Frag} {v : Addr} {w h d c : Nat} {f : Nat → List Int} {H : Hp} {Q : VK} {E : XK} (ll : Gx.LL H v c f) (hw : w ≤ 64) (hd : d ≤ 8) (hf : ∀ j, j < c → (f j).length = w * h ∧ ∀ z ∈ f j, 0 ≤ z ∧ z < ((2 ^ d : Nat) : Int)) (q : Q .non H) :
    Gx.CP (sp_check_values K) [.int (w : Int), .int (h : Int), .int (d : Int), .int (c : Int), .ref v] [] H Q E := ⟨v, w, h, d, c, f, rfl, ll, hw, hd, hf, q⟩

def sp_check_size : Sp := fun vs H Q _ => ∃ (w h c : Nat), vs = [.int (w : Int), .int (h : Int), .int (c : Int)] ∧ w ≤ 64 ∧ h ≤ 64 ∧ c ≤ 3 ∧ w * h * c ≤ 3072 ∧ Q .non H

theorem sc_check_size : FnScope ["width", "height", "channels"] ["width", "height", "channels"] (defScope s_check_size) := ⟨rfl, rfl, rfl, by decide +kernel, rfl, by decide +kernel, by decide +kernel⟩
theorem ok_check_size (T : Tx K mg) : FnOk P w K mg base CX0 3 T.check_size.a T.check_size.d ["width", "height", "channels"] (sp_check_size) := by
  refine T.check_size.f.ok sc_check_size (fun vs H Q E h => ?_) (fun cdv A outer s H vs Q E hr h => ⟨_, pss_one (ps_if (pt_cmpR op_gt (pe_op op_mul (pe_op op_mul (pv 0) (pv 1)) (pv 2)) (pe_glob (v := .int 3072) rfl T.c_VALUES_MOST ⟨_, rfl⟩) (nomark _)) (pss_one (ps_never)) (pss_nil)), ?_⟩)
  · obtain ⟨w, h, c, rfl, _⟩ := h
    rfl
  · skip
    obtain ⟨w, h, c, rfl, hw, hh, hc, hs, q⟩ := h
    walk_at "go"
    refine Gx.ic (by walk_at "side") ?_
    walk_at "go"
    refine Gx.ic (.inr (by omega)) ?_
    walk_at "go"
    rw [show (w : Int) * (h : Int) * (c : Int) = ((w * h * c : Nat) : Int) by rw [Int.natCast_mul, Int.natCast_mul]]
    refine Gx.if_dno (by omega) ?_
    walk_at "go"
    exact q

theorem cp_check_size {w h c : Nat} {H : Hp} {Q : VK} {E : XK} (hw : w ≤ 64) (hh : h ≤ 64) (hc : c ≤ 3) (hs : w * h * c ≤ 3072) (q : Q .non H) : Gx.CP sp_check_size [.int (w : Int), .int (h : Int), .int (c : Int)] [] H Q E := ⟨w, h, c, rfl, hw, hh, hc, hs, q⟩

def sp_check_kind : Sp := fun vs H Q _ => ∃ (w h d c : Nat), vs = [.int (w : Int), .int (h : Int), .int (d : Int), .int (c : Int)] ∧ 1 ≤ w ∧ w ≤ 64 ∧ 1 ≤ h ∧ h ≤ 64 ∧ 1 ≤ d ∧ d ≤ 8 ∧ (c = 1 ∨ c = 3) ∧ ∀ H', Same H H' → Q .non H'

theorem sc_check_kind : FnScope ["width", "height", "depth", "channels"] ["width", "height", "depth", "channels"] (defScope s_check_kind) := ⟨rfl, rfl, rfl, by decide +kernel, rfl, by decide +kernel, by decide +kernel⟩
theorem ok_check_kind (T : Tx K mg) : FnOk P w K mg base CX0 4 T.check_kind.a T.check_kind.d ["width", "height", "depth", "channels"] (sp_check_kind) := by
  refine T.check_kind.f.ok sc_check_kind (fun vs H Q E h => ?_) (fun cdv A outer s H vs Q E hr h => ⟨_, pss_cons (ps_expr (pe_call (ok_check_range T) (hr.mono (by decide)) rfl T.check_range.g T.check_range.f.kp T.check_range.b .nil pass0 (pa_cons (pe_str) (pa_cons (pv 0) (pa_cons (pe_int) (pa_cons (pe_glob (v := .int 64) rfl T.c_SIDE_MOST ⟨_, rfl⟩) pa_nil))))))
      (pss_cons (ps_expr (pe_call (ok_check_range T) (hr.mono (by decide)) rfl T.check_range.g T.check_range.f.kp T.check_range.b .nil pass0 (pa_cons (pe_str) (pa_cons (pv 1) (pa_cons (pe_int) (pa_cons (pe_glob (v := .int 64) rfl T.c_SIDE_MOST ⟨_, rfl⟩) pa_nil))))))
      (pss_cons (ps_expr (pe_call (ok_check_range T) (hr.mono (by decide)) rfl T.check_range.g T.check_range.f.kp T.check_range.b .nil pass0 (pa_cons (pe_str) (pa_cons (pv 2) (pa_cons (pe_int) (pa_cons (pe_glob (v := .int 8) rfl T.c_DEPTH_MOST ⟨_, rfl⟩) pa_nil))))))
      (pss_one (ps_if (pt_cmpR op_notIn_seq (pv 3) (pe_tup (pa_cons (pe_int) (pa_cons (pe_int) pa_nil))) (by rfl)) (pss_one (ps_never)) (pss_nil))))), ?_⟩)
  · obtain ⟨w, h, d, c, rfl, _⟩ := h
    rfl
  · skip
    obtain ⟨w, h, d, c, rfl, hw1, hw2, hh1, hh2, hd1, hd2, hc, q⟩ := h
    walk_at "go"
    refine cp_check_range (by omega) (by omega) ?_
    walk_at "go"
    refine cp_check_range (by omega) (by omega) ?_
    walk_at "go"
    refine cp_check_range (by omega) (by omega) ?_
    walk_at "go"
    refine Gx.tupP (by show 2 ≤ sizeLine; decide) fun p hp => ?_
    walk_at "go"
    refine Gx.inT (SqT.of upd_same) rfl ?_
    walk_at "go"
    refine Gx.if_n (by rcases hc with e | e <;> subst e <;> decide) ?_
    walk_at "go"
    exact q _ (Gx.same_new hp)

theorem cp_check_kind {w h d c : Nat} {H : Hp} {Q : VK} {E : XK} (hw1 : 1 ≤ w) (hw2 : w ≤ 64) (hh1 : 1 ≤ h) (hh2 : h ≤ 64) (hd1 : 1 ≤ d) (hd2 : d ≤ 8) (hc : c = 1 ∨ c = 3) (q : ∀ H', Same H H' → Q .non H') :
    Gx.CP sp_check_kind [.int (w : Int), .int (h : Int), .int (d : Int), .int (c : Int)] [] H Q E := ⟨w, h, d, c, rfl, hw1, hw2, hh1, hh2, hd1, hd2, hc, q⟩

def sp_Picture_init (K : PySem.W.Frag) (C : Addr) : Sp := fun vs H Q _ => ∃ (H0 : Hp) (x dx v : Addr) (w h d c : Nat) (f : Nat → List Int), vs = [.ref x, .int (w : Int), .int (h : Int), .int (d : Int), .int (c : Int), .ref v] ∧ H x = some (.ins C dx []) ∧ Same H0 H ∧ H0 x = none ∧ Gx.LL H0 v c f ∧
  1 ≤ w ∧ w ≤ 64 ∧ 1 ≤ h ∧ h ≤ 64 ∧ 1 ≤ d ∧ d ≤ 8 ∧ (c = 1 ∨ c = 3) ∧ w * h * c ≤ 3072 ∧ (∀ j, j < c → (f j).length = w * h ∧ ∀ z ∈ f j, 0 ≤ z ∧ z < ((2 ^ d : Nat) : Int)) ∧ ∀ (r : Addr) (H' : Hp), Same H0 H' → Pic C H' x r w h d c f → Q .non H'

theorem sc_Picture___init__ : FnScope ["self", "width", "height", "depth", "channels", "values", "row"] ["self", "width", "height", "depth", "channels", "values"] (defScope s_Picture___init__) := ⟨rfl, rfl, rfl, by decide +kernel, rfl, by decide +kernel, by decide +kernel⟩
theorem ok_Picture___init__ (T : Tx K mg) : FnOk P w K mg base CX0 5 T.Picture___init__.a T.Picture___init__.d ["self", "width", "height", "depth", "channels", "values"] (sp_Picture_init K T.a_Picture) := by
  refine T.Picture___init__.f.ok sc_Picture___init__ (fun vs H Q E h => ?_) (fun cdv A outer s H vs Q E hr h => ⟨_, pss_cons (ps_expr (pe_call (ok_check_kind T) (hr.mono (by decide)) rfl T.check_kind.g T.check_kind.f.kp T.check_kind.b .nil pass0 (pa_cons (pv 1) (pa_cons (pv 2) (pa_cons (pv 3) (pa_cons (pv 4) pa_nil))))))
      (pss_cons (ps_expr (pe_call (ok_check_size T) (hr.mono (by decide)) rfl T.check_size.g T.check_size.f.kp T.check_size.b .nil pass0 (pa_cons (pv 1) (pa_cons (pv 2) (pa_cons (pv 4) pa_nil)))))
      (pss_cons (ps_expr (pe_call (ok_check_values T) (hr.mono (by decide)) rfl T.check_values.g T.check_values.f.kp T.check_values.b .nil pass0 (pa_cons (pv 1) (pa_cons (pv 2) (pa_cons (pv 3) (pa_cons (pv 4) (pa_cons (pv 5) pa_nil)))))))
      (pss_cons (ps_fld (pv 0) (pv 1) rfl)
      (pss_cons (ps_fld (pv 0) (pv 2) rfl)
      (pss_cons (ps_fld (pv 0) (pv 3) rfl)
      (pss_cons (ps_fld (pv 0) (pv 4) rfl)
      (pss_one (ps_fld (pv 0) (pe_lc (own := [("row", 6)]) (g := gName 6) (tt := tYes) rfl sc_Picture___init__.nd (pi_list (pv 5)) (blkOk_by (own := [("row", 6)]) (N := ["self", "width", "height", "depth", "channels", "values", "row"]) (sc := defScope s_Picture___init__) (by decide +kernel)) (fun _ _ _ _ _ => pg_name (i := 6) sc_Picture___init__.nd rfl (Or.inl rfl)) (fun _ _ _ _ _ => pts_nil) (fun _ _ _ _ _ => pe_callTy (Gx.c_listK (K := K) rfl) rfl T.n_list (by decide +kernel) (pa_cons (pv 6) pa_nil))) rfl)))))))), ?_⟩)
  · obtain ⟨H0, x, dx, v, w, h, d, c, f, rfl, _⟩ := h
    rfl
  · skip
    obtain ⟨H0, x, dx, v, w, h, d, c, f, rfl, hx, s0, h0, ll, hw1, hw2, hh1, hh2, hd1, hd2, hc, hs, hf, q⟩ := h
    walk_at "go"
    refine cp_check_kind hw1 hw2 hh1 hh2 hd1 hd2 hc fun H1 s1 => ?_
    walk_at "go"
    refine cp_check_size hw2 hh2 (by omega) hs ?_
    walk_at "go"
    refine cp_check_values (ll.keep (s0.trans s1)) hw2 hd2 hf ?_
    have hx := s1 _ _ hx
    have s0 := s0.trans s1
    walk_at "go"
    refine Gx.sfp hx T.cl_Picture T.na_Picture_width (by walk_at "few") rfl ?_
    walk_at "go"
    refine Gx.sfp upd_same T.cl_Picture T.na_Picture_height (by walk_at "few") rfl ?_
    walk_at "go"
    refine Gx.sfp upd_same T.cl_Picture T.na_Picture_depth (by walk_at "few") rfl ?_
    walk_at "go"
    refine Gx.sfp upd_same T.cl_Picture T.na_Picture_channels (by walk_at "few") rfl ?_
    rw [upd_upd, upd_upd, upd_upd]
    have s2 : Same H0 (upd H1 x (.ins T.a_Picture dx (putF "channels" (.int (c : Int)) (putF "depth" (.int (d : Int)) (putF "height" (.int (h : Int)) (putF "width" (.int (w : Int)) [])))))) := Gx.same_up h0 s0
    have ll2 := ll.keep s2
    obtain ⟨xs, hv, hl, hall⟩ := ll2.all
    walk_at "go"
    refine Gx.lp (SqL.of hv) ?_
    refine Gx.lcLst walk_list (by omega) f (fun _ s => s.seq (SqL.of hv)) Gx.sameAt ?_ ?_
    · rintro i y H3 H3' R R0 hi s3 ⟨rfl, hy⟩ hr
      obtain ⟨b, rfl, hb⟩ := hall i y hy
      have hb := s3 _ _ hb
      walk_at "go"
      refine Gx.listL (SqL.of hb) fun p hp => ?_
      exact hr p _ hp (Gx.same_new hp) upd_same
    intro r H3 hr s3 llr
    rw [hl] at llr
    walk_at "go"
    refine Gx.sfp (s3 _ _ upd_same) T.cl_Picture T.na_Picture__rows (by walk_at "few") rfl ?_
    rw [ini_Picture]
    obtain ⟨zs, hz, _⟩ := llr.len
    have rx : r ≠ x := fun e => by rw [e, upd_same] at hr; cases hr
    refine q r _ (Gx.same_up h0 (s2.trans s3)) ⟨⟨dx, upd_same⟩, ?_⟩
    obtain ⟨ps, e1, e2, e3⟩ := llr
    have hx3 := s3 _ _ upd_same
    exact ⟨ps, by rw [upd_ne rx]; exact e1, e2, fun j a e => by rw [upd_ne (ne_of (e3 j a e) hx3 (by intro z; cases z))]; exact e3 j a e⟩


def sp_law_values : Sp := fun vs H Q _ => ∃ (cell : Int) (s : Addr) (w h d c t : Nat), vs = [.int cell, .ref s] ∧ H s = some (.lst [.int (w : Int), .int (h : Int), .int (d : Int), .int (c : Int), .int (t : Int)]) ∧ w ≤ 64 ∧ d ≤ 8 ∧ c ≤ 3 ∧ w * h * c ≤ 3072 ∧
  ∀ p H' f, H p = none → Same H H' → Gx.LL H' p c f → (∀ j, j < c → (f j).length = w * h ∧ ∀ z ∈ f j, 0 ≤ z ∧ z < ((2 ^ d : Nat) : Int)) → Q (.ref p) H'

theorem sc_law_values : FnScope ["cell", "sizes", "pixels", "row", "k"] ["cell", "sizes"] (defScope s_law_values) := ⟨rfl, rfl, rfl, by decide +kernel, rfl, by decide +kernel, by decide +kernel⟩
theorem ok_law_values (T : Tx K mg) : FnOk P w K mg base CX0 3 T.law_values.a T.law_values.d ["cell", "sizes"] (sp_law_values) := by
  refine T.law_values.f.ok sc_law_values (fun vs H Q E h => ?_) (fun cdv A outer s H vs Q E hr h => ⟨_, pss_cons (ps_set (i := 2) sc_law_values.nd rfl (Or.inr rfl) (pe_op op_mul (pe_ix ix_seq (pv 1) (pe_int) (fun _ _ => rfl)) (pe_ix ix_seq (pv 1) (pe_int) (fun _ _ => rfl))))
      (pss_cons (ps_set (i := 3) sc_law_values.nd rfl (Or.inr rfl) (pe_call (ok_law_numbers T) (hr.mono (by decide)) rfl T.law_numbers.g T.law_numbers.f.kp T.law_numbers.b .nil pass0 (pa_cons (pv 0) (pa_cons (pe_op op_mul (pv 2) (pe_ix ix_seq (pv 1) (pe_int) (fun _ _ => rfl))) (pa_cons (pe_op op_shl (pe_int) (pe_ix ix_seq (pv 1) (pe_int) (fun _ _ => rfl))) pa_nil)))))
      (pss_one (ps_ret (pe_lc (own := [("k", 4)]) (g := gName 4) (tt := tYes) rfl sc_law_values.nd (pi_range1 rfl T.n_range (pa_cons (pe_ix ix_seq (pv 1) (pe_int) (fun _ _ => rfl)) pa_nil)) (blkOk_by (own := [("k", 4)]) (N := ["cell", "sizes", "pixels", "row", "k"]) (sc := defScope s_law_values) (by decide +kernel)) (fun _ _ _ _ _ => pg_name (i := 4) sc_law_values.nd rfl (Or.inl rfl)) (fun _ _ _ _ _ => pts_nil) (fun _ _ _ _ _ => pe_slice (Gx.sl_listK (K := K) rfl) (pv 3) (po_some (pe_op op_mul (pv 2) (pv 4))) (po_some (pe_op op_add (pe_op op_mul (pv 2) (pv 4)) (pv 2)))))))), ?_⟩)
  · obtain ⟨cell, s, w, h, d, c, t, rfl, _⟩ := h
    rfl
  · skip
    obtain ⟨cell, s, w, h, d, c, t, rfl, hS, hw, hd, hc, hs, q⟩ := h
    have e2 : 2 ^ d ≤ 2 ^ 8 := Nat.pow_le_pow_right (by decide) hd
    have e0 := Nat.two_pow_pos d
    walk_at "go"
    refine Gx.ixL (SqL.of hS) (at_of (j := 0) rfl rfl) ?_
    walk_at "go"
    refine Gx.ixL (SqL.of hS) (at_of (j := 1) rfl rfl) ?_
    refine Gx.ic (.inl (by omega)) ?_
    walk_at "go"
    rw [← Int.natCast_mul]
    refine Gx.ixL (SqL.of hS) (at_of (j := 3) rfl rfl) ?_
    refine Gx.ic (.inr (by omega)) ?_
    walk_at "go"
    rw [← Int.natCast_mul]
    refine Gx.ixL (SqL.of hS) (at_of (j := 2) rfl rfl) ?_
    refine Gx.ic ⟨by omega, by omega, by decide⟩ ?_
    walk_at "go"
    rw [Gy.pw]
    refine cp_law_numbers ⟨by omega, by omega⟩ (by omega) (by omega) fun xs pr H1 hl hb hpr s1 hr => ?_
    rw [Int.toNat_natCast] at hl
    walk_at "go"
    refine Gx.ixL (SqL.of (s1 _ _ hS)) (at_of (j := 3) rfl rfl) ?_
    walk_at "go"
    refine Gx.r1 (by omega) (by omega) ?_
    rw [Int.toNat_natCast]
    have inn : ∀ j, j < c → w * h * j + w * h ≤ xs.length := fun j hj => by
      have := Nat.mul_le_mul_left (w * h) (show j + 1 ≤ c by omega)
      rw [Nat.mul_succ] at this
      omega
    refine Gx.lcLst walk_range (by omega) (fun j => (xs.drop (w * h * j)).take (w * h)) (fun _ _ => trivial) Gx.sameFn ?_ ?_
    · rintro i y H3 H3' R R0 hi s3 ⟨rfl, hy⟩ hr2
      have hy2 : y = .int (i : Int) := hy.trans (congrArg V.int (by omega))
      subst hy2
      walk_at "go"
      refine Gx.ic (.inr (by omega)) ?_
      walk_at "go"
      refine Gx.ic (.inr (by omega)) ?_
      walk_at "go"
      rw [← Int.natCast_mul, ← Int.natCast_add]
      refine Gx.slL (SqL.of (s3 _ _ hr)) fun p hp => ?_
      rw [Gx.cutV_ints xs (inn i hi)]
      exact hr2 p _ hp (Gx.same_new hp) upd_same
    intro p H2 hp s2 ll
    refine q p H2 _ (s1.free hp) (s1.trans s2) ll fun j hj => ⟨?_, fun z hz => hb z (List.mem_of_mem_drop (List.mem_of_mem_take hz))⟩
    have := inn j hj
    rw [List.length_take, List.length_drop]; omega

theorem cp_law_values {cell : Int} {s : Addr} {w h d c t : Nat} {H : Hp} {Q : VK} {E : XK} (hS : H s = some (.lst [.int (w : Int), .int (h : Int), .int (d : Int), .int (c : Int), .int (t : Int)])) (hw : w ≤ 64) (hd : d ≤ 8) (hc : c ≤ 3) (hs : w * h * c ≤ 3072)
    (q : ∀ p H' f, H p = none → Same H H' → Gx.LL H' p c f → (∀ j, j < c → (f j).length = w * h ∧ ∀ z ∈ f j, 0 ≤ z ∧ z < ((2 ^ d : Nat) : Int)) → Q (.ref p) H') : Gx.CP sp_law_values [.int cell, .ref s] [] H Q E := ⟨cell, s, w, h, d, c, t, rfl, hS, hw, hd, hc, hs, q⟩

/-- width, height, depth, channels, tile -/
def sp_law_sizes : Sp := fun vs H Q _ => ∃ (c : Int) (m : Nat), vs = [.int c, .int (m : Int)] ∧ 1 ≤ m ∧ m ≤ 64 ∧
  ∀ (w h d ch t : Nat) (p : Addr) (H' : Hp), 1 ≤ w ∧ w ≤ m ∧ 1 ≤ h ∧ h ≤ m ∧ 1 ≤ d ∧ d ≤ 8 ∧ (ch = 1 ∨ ch = 3) ∧ 1 ≤ t ∧ t ≤ 16 ∧ w * h * ch ≤ 3072 → H p = none → Same H H' → H' p = some (.lst [.int (w : Int), .int (h : Int), .int (d : Int), .int (ch : Int), .int (t : Int)]) → Q (.ref p) H'

theorem sc_law_sizes : FnScope ["cell", "most", "row", "channels", "width", "height"] ["cell", "most"] (defScope s_law_sizes) := ⟨rfl, rfl, rfl, by decide +kernel, rfl, by decide +kernel, by decide +kernel⟩
theorem ok_law_sizes (T : Tx K mg) : FnOk P w K mg base CX0 3 T.law_sizes.a T.law_sizes.d ["cell", "most"] (sp_law_sizes) := by
  refine T.law_sizes.f.ok sc_law_sizes (fun vs H Q E h => ?_) (fun cdv A outer s H vs Q E hr h => ⟨_, pss_cons (ps_set (i := 2) sc_law_sizes.nd rfl (Or.inl rfl) (pe_call (ok_law_numbers T) (hr.mono (by decide)) rfl T.law_numbers.g T.law_numbers.f.kp T.law_numbers.b .nil pass0 (pa_cons (pv 0) (pa_cons (pe_int) (pa_cons (pe_int) pa_nil)))))
      (pss_cons (ps_set (i := 3) sc_law_sizes.nd rfl (Or.inl rfl) (pe_op op_add (pe_int) (pe_op op_mul (pe_int) (pe_op op_mod (pe_ix ix_seq (pv 2) (pe_int) (fun _ _ => rfl)) (pe_int)))))
      (pss_cons (ps_set (i := 4) sc_law_sizes.nd rfl (Or.inl rfl) (pe_op op_add (pe_int) (pe_op op_mod (pe_ix ix_seq (pv 2) (pe_int) (fun _ _ => rfl)) (pv 1))))
      (pss_cons (ps_set (i := 5) sc_law_sizes.nd rfl (Or.inl rfl) (pe_callB (Gx.c_min2 rfl) rfl T.n_min (by decide +kernel) (pa_cons (pe_op op_add (pe_int) (pe_op op_mod (pe_ix ix_seq (pv 2) (pe_int) (fun _ _ => rfl)) (pv 1))) (pa_cons (pe_op op_fdiv (pe_int) (pe_op op_mul (pv 4) (pv 3))) pa_nil))))
      (pss_one (ps_ret (pe_lst (pa_cons (pv 4) (pa_cons (pv 5) (pa_cons (pe_op op_add (pe_int) (pe_op op_mod (pe_ix ix_seq (pv 2) (pe_int) (fun _ _ => rfl)) (pe_int))) (pa_cons (pv 3) (pa_cons (pe_op op_add (pe_int) (pe_op op_mod (pe_ix ix_seq (pv 2) (pe_int) (fun _ _ => rfl)) (pe_int))) pa_nil))))))))))), ?_⟩)
  · obtain ⟨c, m, rfl, _⟩ := h
    rfl
  · skip
    obtain ⟨c, m, rfl, hm1, hm2, q⟩ := h
    walk_at "go"
    refine cp_law_numbers (by decide) (by decide) (by decide) fun xs p H1 hl hb hp s1 hL => ?_
    obtain ⟨r0, r1, r2, r3, r4, rfl⟩ : ∃ r0 r1 r2 r3 r4 : Int, xs = [r0, r1, r2, r3, r4] := by
      match xs, hl with
      | [r0, r1, r2, r3, r4], _ => exact ⟨_, _, _, _, _, rfl⟩
    have b0 := hb r0 (by simp)
    have b1 := hb r1 (by simp)
    have b2 := hb r2 (by simp)
    have b3 := hb r3 (by simp)
    have b4 := hb r4 (by simp)
    obtain ⟨ch, hch, hc⟩ : ∃ ch : Nat, 1 + 2 * (r3 % 2) = (ch : Int) ∧ (ch = 1 ∨ ch = 3) := ⟨(1 + 2 * (r3 % 2)).toNat, by omega, by omega⟩
    obtain ⟨w, hw, hw1, hw2⟩ : ∃ w : Nat, 1 + r0 % (m : Int) = (w : Int) ∧ 1 ≤ w ∧ w ≤ m := by
      have e0 := Int.emod_nonneg r0 (show (m : Int) ≠ 0 by omega)
      have e1 := Int.emod_lt_of_pos r0 (show (0 : Int) < m by omega)
      exact ⟨(1 + r0 % (m : Int)).toNat, by omega, by omega, by omega⟩
    obtain ⟨g, hg, hg1, hg2⟩ : ∃ g : Nat, 1 + r1 % (m : Int) = (g : Int) ∧ 1 ≤ g ∧ g ≤ m := by
      have e0 := Int.emod_nonneg r1 (show (m : Int) ≠ 0 by omega)
      have e1 := Int.emod_lt_of_pos r1 (show (0 : Int) < m by omega)
      exact ⟨(1 + r1 % (m : Int)).toNat, by omega, by omega, by omega⟩
    obtain ⟨d, hd, hd1, hd2⟩ : ∃ d : Nat, 1 + r2 % 8 = (d : Int) ∧ 1 ≤ d ∧ d ≤ 8 := ⟨(1 + r2 % 8).toNat, by omega, by omega, by omega⟩
    obtain ⟨t, ht, ht1, ht2⟩ : ∃ t : Nat, 1 + r4 % 16 = (t : Int) ∧ 1 ≤ t ∧ t ≤ 16 := ⟨(1 + r4 % 16).toNat, by omega, by omega, by omega⟩
    have wc1 : w * ch ≤ 64 * 3 := Nat.mul_le_mul (by omega) (by omega)
    have wc0 : 0 < w * ch := Nat.mul_pos (by omega) (by omega)
    have q3 : 16 ≤ 3072 / (w * ch) := (Nat.le_div_iff_mul_le wc0).mpr (by omega)
    obtain ⟨h, hh, hh1, hh2, hh3⟩ : ∃ h : Nat, (if ((3072 / (w * ch) : Nat) : Int) < (g : Int) then ((3072 / (w * ch) : Nat) : Int) else (g : Int)) = (h : Int) ∧ 1 ≤ h ∧ h ≤ m ∧ h ≤ 3072 / (w * ch) := by
      generalize 3072 / (w * ch) = z at *
      by_cases e : ((z : Nat) : Int) < (g : Int)
      · exact ⟨z, by rw [if_pos e], by omega, by omega, by omega⟩
      · exact ⟨g, by rw [if_neg e], by omega, by omega, by omega⟩
    have big := Gd.room hh3 wc0
    have at' : ∀ {i : Nat} {z : Int}, [r0, r1, r2, r3, r4][i]? = some z → atI ([r0, r1, r2, r3, r4].map V.int) (i : Int) = some (.int z) := fun {i z} e => atI_nat (by rw [List.getElem?_map, e]; rfl)
    walk_at "go"
    refine Gx.ixL (SqL.of hL) (at' (i := 3) rfl) ?_
    walk_at "go"
    refine Gx.ic (by decide) ?_
    walk_at "go"
    refine Gx.ic (.inl (by decide)) ?_
    walk_at "go"
    rw [hch]
    refine Gx.ixL (SqL.of hL) (at' (i := 0) rfl) ?_
    walk_at "go"
    refine Gx.ic (show (0 : Int) < (m : Int) by omega) ?_
    walk_at "go"
    rw [hw]
    refine Gx.ixL (SqL.of hL) (at' (i := 1) rfl) ?_
    walk_at "go"
    refine Gx.ic (show (0 : Int) < (m : Int) by omega) ?_
    walk_at "go"
    rw [hg]
    refine Gx.ic (.inl (by omega)) ?_
    walk_at "go"
    rw [← Int.natCast_mul]
    refine Gx.ic ⟨by omega, by omega⟩ ?_
    walk_at "go"
    refine Gx.min2 ?_
    walk_at "go"
    rw [show (3072 : Int) / ((w * ch : Nat) : Int) = ((3072 / (w * ch) : Nat) : Int) from rfl, hh]
    refine Gx.ixL (SqL.of hL) (at' (i := 2) rfl) ?_
    walk_at "go"
    refine Gx.ic (by decide) ?_
    walk_at "go"
    refine Gx.ixL (SqL.of hL) (at' (i := 4) rfl) ?_
    walk_at "go"
    refine Gx.ic (by decide) ?_
    walk_at "go"
    rw [hd, ht]
    refine Gx.lstP (by show 5 ≤ sizeLine; decide) fun p2 hp2 => ?_
    exact q w h d ch t p2 _ ⟨hw1, hw2, hh1, hh2, hd1, hd2, hc, ht1, ht2, big⟩ (s1.free hp2) (Gx.same_up (s1.free hp2) s1) upd_same

theorem cp_law_sizes {c : Int} {m : Nat} {H : Hp} {Q : VK} {E : XK} (hm1 : 1 ≤ m) (hm2 : m ≤ 64)
    (q : ∀ (w h d ch t : Nat) (p : Addr) (H' : Hp), 1 ≤ w ∧ w ≤ m ∧ 1 ≤ h ∧ h ≤ m ∧ 1 ≤ d ∧ d ≤ 8 ∧ (ch = 1 ∨ ch = 3) ∧ 1 ≤ t ∧ t ≤ 16 ∧ w * h * ch ≤ 3072 → H p = none → Same H H' → H' p = some (.lst [.int (w : Int), .int (h : Int), .int (d : Int), .int (ch : Int), .int (t : Int)]) → Q (.ref p) H') :
    Gx.CP sp_law_sizes [.int c, .int (m : Int)] [] H Q E := ⟨c, m, rfl, hm1, hm2, q⟩


theorem sc_law : FnScope ["script", "sizes", "values", "picture", "picks", "pick", "pixel", "plane", "channel", "told"] ["script"] (defScope s_law) := ⟨rfl, rfl, rfl, by decide +kernel, rfl, by decide +kernel, by decide +kernel⟩
theorem ok_law (T : Tx K mg) : FnOk P w K mg base CX0 7 T.law.a T.law.d ["script"] (spLaw K) := by
  refine T.law.f.ok sc_law (fun vs H Q E h => ?_) (fun cdv A outer s H vs Q E hr h => ⟨_, pss_cons (ps_set (i := 1) sc_law.nd rfl (Or.inl rfl) (pe_call (ok_law_sizes T) (hr.mono (by decide)) rfl T.law_sizes.g T.law_sizes.f.kp T.law_sizes.b .nil pass0 (pa_cons (pe_call (ok_law_cell T) (hr.mono (by decide)) rfl T.law_cell.g T.law_cell.f.kp T.law_cell.b .nil pass0 (pa_cons (pv 0) (pa_cons (pe_int) pa_nil))) (pa_cons (pe_ifExp (pt_cmpR op_eq (pe_op op_mod (pe_call (ok_law_cell T) (hr.mono (by decide)) rfl T.law_cell.g T.law_cell.f.kp T.law_cell.b .nil pass0 (pa_cons (pv 0) (pa_cons (pe_int) pa_nil))) (pe_int)) (pe_int) (nomark _)) (pe_int) (pe_int)) pa_nil))))
      (pss_cons (ps_set (i := 2) sc_law.nd rfl (Or.inl rfl) (pe_call (ok_law_values T) (hr.mono (by decide)) rfl T.law_values.g T.law_values.f.kp T.law_values.b .nil pass0 (pa_cons (pe_call (ok_law_cell T) (hr.mono (by decide)) rfl T.law_cell.g T.law_cell.f.kp T.law_cell.b .nil pass0 (pa_cons (pv 0) (pa_cons (pe_int) pa_nil))) (pa_cons (pv 1) pa_nil))))
      (pss_cons (ps_set (i := 3) sc_law.nd rfl (Or.inl rfl) (pe_make ⟨T.mk_Picture, T.Picture___init__.m.at_, T.Picture___init__.m.fn, T.kp_Picture⟩ (ok_Picture___init__ T) (hr.mono (by decide)) rfl T.g_Picture T.Picture___init__.b .nil pass0 (pa_cons (pe_ix ix_seq (pv 1) (pe_int) (fun _ _ => rfl)) (pa_cons (pe_ix ix_seq (pv 1) (pe_int) (fun _ _ => rfl)) (pa_cons (pe_ix ix_seq (pv 1) (pe_int) (fun _ _ => rfl)) (pa_cons (pe_ix ix_seq (pv 1) (pe_int) (fun _ _ => rfl)) (pa_cons (pv 2) pa_nil)))))))
      (pss_cons (ps_set (i := 4) sc_law.nd rfl (Or.inl rfl) (pe_call (ok_law_numbers T) (hr.mono (by decide)) rfl T.law_numbers.g T.law_numbers.f.kp T.law_numbers.b .nil pass0 (pa_cons (pe_call (ok_law_cell T) (hr.mono (by decide)) rfl T.law_cell.g T.law_cell.f.kp T.law_cell.b .nil pass0 (pa_cons (pv 0) (pa_cons (pe_int) pa_nil))) (pa_cons (pe_int) (pa_cons (pe_int) pa_nil)))))
      (pss_cons (ps_for PassesOwn.never rfl (pi_list (pe_op op_cat (pv 4) (pe_lst (pa_cons (pe_int) (pa_cons (pe_int) pa_nil))))) (pg_name (i := 5) sc_law.nd rfl (Or.inl rfl))
      (pss_cons (ps_set (i := 6) sc_law.nd rfl (Or.inl rfl) (pe_op op_mod (pe_op op_fdiv (pv 5) (pe_int)) (pe_op op_mul (pe_ix ix_seq (pv 1) (pe_int) (fun _ _ => rfl)) (pe_ix ix_seq (pv 1) (pe_int) (fun _ _ => rfl)))))
      (pss_cons (ps_set (i := 7) sc_law.nd rfl (Or.inl rfl) (pe_op op_mod (pe_op op_fdiv (pv 5) (pe_int)) (pe_ix ix_seq (pv 1) (pe_int) (fun _ _ => rfl))))
      (pss_one (ps_for PassesOwn.never rfl (pi_range1 rfl T.n_range (pa_cons (pe_ix ix_seq (pv 1) (pe_int) (fun _ _ => rfl)) pa_nil)) (pg_name (i := 8) sc_law.nd rfl (Or.inl rfl))
      (pss_cons (ps_set (i := 9) sc_law.nd rfl (Or.inl rfl) (pe_call (ok_stored_bit T) (hr.mono (by decide)) rfl T.stored_bit.g T.stored_bit.f.kp T.stored_bit.b .nil pass0 (pa_cons (pv 3) (pa_cons (pv 8) (pa_cons (pv 6) (pa_cons (pv 7) pa_nil))))))
      (pss_one (ps_if (PW.pt (pw_or (pt_not (pt_val (pe_call (ok_law_is_int T) (hr.mono (by decide)) rfl T.law_is_int.g T.law_is_int.f.kp T.law_is_int.b .nil pass0 (pa_cons (pv 9) pa_nil)))) (pw_or1 (pt_cmpR op_ne (pv 9) (pe_call (ok_law_stored T) (hr.mono (by decide)) rfl T.law_stored.g T.law_stored.f.kp T.law_stored.b .nil pass0 (pa_cons (pv 2) (pa_cons (pv 8) (pa_cons (pv 6) (pa_cons (pv 7) pa_nil))))) (nomark _))))) (pss_one (ps_ret (pe_bl))) (pss_nil)))))))))
      (pss_one (ps_ret (pe_cmpR (op_eqD hr.units) (pe_meth0 (pv 3) T.cl_Picture T.Picture_rows.m (ok_Picture_rows T) (hr.mono (by decide)) T.Picture_rows.b .nil pass0) (pv 2) (nomark _)))))))), ?_⟩)
  · obtain ⟨a, ns, rfl, _⟩ := h
    rfl
  · skip
    obtain ⟨a, ns, rfl, hs, hlen, hbits, q⟩ := h
    walk_at "go"
    refine cp_law_cell hs (by decide) (by decide) fun c0 _ => ?_
    walk_at "go"
    refine cp_law_cell hs (by decide) (by decide) fun c1 _ => ?_
    walk_at "go"
    refine Gx.ic (by decide) ?_
    walk_at "go"
    refine Gx.if_two fun n hn => ?_
    obtain ⟨n, rfl⟩ : ∃ m : Nat, n = m := ⟨n.toNat, by omega⟩
    refine cp_law_sizes (by omega) (by omega) fun w h d ch t ps H1 hb hps s1 hL => ?_
    obtain ⟨hw1, hw2, hh1, hh2, hd1, hd2, hc, ht1, ht2, big⟩ := hb
    have hc3 : ch ≤ 3 := by omega
    have hs := s1.seq hs
    walk_at "go"
    refine cp_law_cell hs (by decide) (by decide) fun c2 _ => ?_
    walk_at "go"
    refine cp_law_values hL (by omega) hd2 hc3 big fun pv H2 f hpv s2 ll hf => ?_
    have hL := s2 _ _ hL
    have hs := s2.seq hs
    walk_at "go"
    refine Gx.ixL (SqL.of hL) (at_of (j := 0) rfl rfl) ?_
    walk_at "go"
    refine Gx.ixL (SqL.of hL) (at_of (j := 1) rfl rfl) ?_
    walk_at "go"
    refine Gx.ixL (SqL.of hL) (at_of (j := 2) rfl rfl) ?_
    walk_at "go"
    refine Gx.ixL (SqL.of hL) (at_of (j := 3) rfl rfl) ?_
    walk_at "go"
    intro x dx hx hdx hne
    refine ⟨H2, x, dx, pv, w, h, d, ch, f, rfl, upd_same, Gx.same_up hx (Gx.same_new hdx), hx, ll, hw1, by omega, hh1, by omega, hd1, hd2, hc, big, hf, fun r H3 s3 pc => ⟨rfl, ?_⟩⟩
    have hL := s3 _ _ hL
    have hs := s3.seq hs
    have ll := ll.keep s3
    walk_at "go"
    refine cp_law_cell hs (by decide) (by decide) fun c3 _ => ?_
    walk_at "go"
    refine cp_law_numbers (by decide) (by decide) (by decide) fun xs pn H5 hl hbx hpn s5 hN5 => ?_
    walk_at "go"
    refine Gx.lstP (by show 2 ≤ sizeLine; decide) fun p6 hp6 => ?_
    refine Gx.cat (Gx.same_new hp6 _ _ hN5) upd_same (by rw [List.length_map, hl, sizeLine_eq]; show 20 + 2 ≤ 16777216; decide) fun pp hpp => ?_
    have s6 := (s5.trans (Gx.same_new (o := .lst [.int 0, .int 959999]) hp6)).trans (Gx.same_new (o := .lst (xs.map V.int ++ [.int 0, .int 959999])) hpp)
    have hpl : upd (upd H5 p6 (.lst [.int 0, .int 959999])) pp (.lst (xs.map V.int ++ [.int 0, .int 959999])) pp = some (.lst ((xs ++ [0, 959999]).map V.int)) := by rw [upd_same, List.map_append]; rfl
    generalize upd (upd H5 p6 (.lst [.int 0, .int 959999])) pp (.lst (xs.map V.int ++ [.int 0, .int 959999])) = H6 at *
    have inb : ∀ z ∈ xs ++ [0, 959999], 0 ≤ z ∧ z < (960000 : Int) := fun z hz => by
      rcases List.mem_append.mp hz with y | y
      · exact hbx z y
      · rcases List.mem_cons.mp y with e | y
        · omega
        · have := List.mem_singleton.mp y; omega
    generalize xs ++ [0, 959999] = zs at *
    have hL := s6 _ _ hL
    have ll := ll.keep s6
    have pc := pc.keep s6
    have wh0 : 0 < w * h := Nat.mul_pos (by omega) (by omega)
    walk_at "go"
    refine Gx.lp (SqL.of hpl) ?_
    refine Gx.fw walk_list (fun i σ' H' => Same H6 H' ∧ ∃ v1 v2 v3 v4 v5 : Option V, σ' = [some (.ref a), some (.ref ps), some (.ref pv), some (.ref x), some (.ref pn), v1, v2, v3, v4, v5]) ⟨Same.refl _, _, _, _, _, _, rfl⟩ (fun i σ' H' _ hh => hh.1.seq (SqL.of hpl)) ?_ ?_
    · rintro i z σ' H7 H7' hi ⟨s7, v1, v2, v3, v4, v5, rfl⟩ ⟨rfl, hz⟩
      obtain ⟨z, rfl, hz0, hz1⟩ : ∃ y : Int, z = .int y ∧ 0 ≤ y ∧ y < 960000 := by
        rw [List.getElem?_map] at hz
        cases e : zs[i]? with
        | none => rw [e] at hz; cases hz
        | some y =>
          rw [e] at hz
          exact ⟨y, (Option.some.inj hz).symm, inb y (List.mem_of_getElem? e)⟩
      have hL7 := s7 _ _ hL
      walk_at "go"
      refine Gx.ic ⟨by decide, by decide⟩ ?_
      walk_at "go"
      refine Gx.ixL (SqL.of hL7) (at_of (j := 0) rfl rfl) ?_
      walk_at "go"
      refine Gx.ixL (SqL.of hL7) (at_of (j := 1) rfl rfl) ?_
      refine Gx.ic (.inl (by omega)) ?_
      rw [← Int.natCast_mul]
      refine Gx.ic (Int.natCast_pos.mpr wh0) ?_
      walk_at "go"
      refine Gx.ic ⟨by decide, by decide⟩ ?_
      walk_at "go"
      refine Gx.ixL (SqL.of hL7) (at_of (j := 2) rfl rfl) ?_
      refine Gx.ic (show (0 : Int) < (d : Int) by omega) ?_
      walk_at "go"
      obtain ⟨k, hk, hk2⟩ : ∃ k : Nat, z / 24 % ((w * h : Nat) : Int) = (k : Int) ∧ k < w * h := by
        have e0 := Int.emod_nonneg (z / 24) (show ((w * h : Nat) : Int) ≠ 0 by omega)
        have e1 := Int.emod_lt_of_pos (z / 24) (show (0 : Int) < ((w * h : Nat) : Int) by omega)
        exact ⟨(z / 24 % ((w * h : Nat) : Int)).toNat, by omega, by omega⟩
      obtain ⟨p, hp, hp2⟩ : ∃ p : Nat, z / 3 % (d : Int) = (p : Int) ∧ p < d := by
        have e0 := Int.emod_nonneg (z / 3) (show (d : Int) ≠ 0 by omega)
        have e1 := Int.emod_lt_of_pos (z / 3) (show (0 : Int) < (d : Int) by omega)
        exact ⟨(z / 3 % (d : Int)).toNat, by omega, by omega⟩
      rw [hk, hp]
      refine Gx.ixL (SqL.of hL7) (at_of (j := 3) rfl rfl) ?_
      walk_at "go"
      refine Gx.r1 (by omega) (by omega) ?_
      rw [Int.toNat_natCast]
      have hf2 : ∀ i, i < ch → k < (f i).length ∧ ∀ z ∈ f i, 0 ≤ z := fun i hi => ⟨by rw [(hf i hi).1]; exact hk2, fun z hz => ((hf i hi).2 z hz).1⟩
      refine Gx.fw walk_range (fun j σ' H' => H' = H7' ∧ ∃ v4 v5 : Option V, σ' = [some (.ref a), some (.ref ps), some (.ref pv), some (.ref x), some (.ref pn), some (.int z), some (.int (k : Int)), some (.int (p : Int)), v4, v5]) ⟨rfl, _, _, rfl⟩ (fun _ _ _ _ _ => trivial) ?_ ?_
      · rintro j y σ' H8 H8' hj ⟨rfl, v4, v5, rfl⟩ ⟨rfl, hy⟩
        have hy2 : y = .int (j : Int) := hy.trans (congrArg V.int (by omega))
        subst hy2
        walk_at "go"
        refine cp_stored_bit (pc.keep s7) hc hj hf2 ?_
        walk_at "go"
        refine cp_law_is_int ?_
        walk_at "go"
        refine cp_law_stored (ll.keep s7) hc hj (by omega) hf2 ?_
        walk_at "go"
        rw [decide_eq_true rfl]
        walk_at "go"
        exact ⟨rfl, _, _, rfl⟩
      · rintro σ' H8 ⟨rfl, v4, v5, rfl⟩
        walk_at "go"
        exact ⟨s7, _, _, _, _, _, rfl⟩
    · rintro σ' H7 ⟨s7, v1, v2, v3, v4, v5, rfl⟩
      obtain ⟨dx7, hx7⟩ := (pc.keep s7).ob
      walk_at "go"
      refine Gx.mp hx7 no_Picture_rows ?_
      walk_at "go"
      refine cp_Picture_rows (pc.keep s7) hc3 fun pr H8 hpr s8 llr => ?_
      walk_at "go"
      refine Gx.eqLL llr (ll.keep (s7.trans s8)) ?_
      exact q _


end
theorem all_mk {l : PySem.W.OpenLaw} {w : World} {K : PySem.W.Frag} {h : Heap} {mg : Str → Option Value} {fa : Addr} (X : K.In h) (G : h.Ns mainGlobals mg) (hfa : mg "law" = some (.ref fa))
    {C_Picture : Addr}
    {f_Picture_rows : Addr} {od_Picture_rows an_Picture_rows : Option Addr} {sl_Picture_rows : Array (Option Value)} {oc_Picture_rows kV_Picture_rows dc_Picture_rows pm_Picture_rows cd_Picture_rows ct_Picture_rows : Value}
    {f_law_gray : Addr} {od_law_gray an_law_gray : Option Addr} {sl_law_gray : Array (Option Value)} {oc_law_gray kV_law_gray dc_law_gray pm_law_gray cd_law_gray ct_law_gray : Value}
    {f_law_stored : Addr} {od_law_stored an_law_stored : Option Addr} {sl_law_stored : Array (Option Value)} {oc_law_stored kV_law_stored dc_law_stored pm_law_stored cd_law_stored ct_law_stored : Value}
    {f_law_is_int : Addr} {od_law_is_int an_law_is_int : Option Addr} {sl_law_is_int : Array (Option Value)} {oc_law_is_int kV_law_is_int dc_law_is_int pm_law_is_int cd_law_is_int ct_law_is_int : Value}
    {f_gray_bit : Addr} {od_gray_bit an_gray_bit : Option Addr} {sl_gray_bit : Array (Option Value)} {oc_gray_bit kV_gray_bit dc_gray_bit pm_gray_bit cd_gray_bit ct_gray_bit : Value}
    {f_Picture_value : Addr} {od_Picture_value an_Picture_value : Option Addr} {sl_Picture_value : Array (Option Value)} {oc_Picture_value kV_Picture_value dc_Picture_value pm_Picture_value cd_Picture_value ct_Picture_value : Value}
    {f_stored_bit : Addr} {od_stored_bit an_stored_bit : Option Addr} {sl_stored_bit : Array (Option Value)} {oc_stored_bit kV_stored_bit dc_stored_bit pm_stored_bit cd_stored_bit ct_stored_bit : Value}
    {f_law_mixed : Addr} {od_law_mixed an_law_mixed : Option Addr} {sl_law_mixed : Array (Option Value)} {oc_law_mixed kV_law_mixed dc_law_mixed pm_law_mixed cd_law_mixed ct_law_mixed : Value}
    {f_law_numbers : Addr} {od_law_numbers an_law_numbers : Option Addr} {sl_law_numbers : Array (Option Value)} {oc_law_numbers kV_law_numbers dc_law_numbers pm_law_numbers cd_law_numbers ct_law_numbers : Value}
    {f_law_cell : Addr} {od_law_cell an_law_cell : Option Addr} {sl_law_cell : Array (Option Value)} {oc_law_cell kV_law_cell dc_law_cell pm_law_cell cd_law_cell ct_law_cell : Value}
    {f_check_range : Addr} {od_check_range an_check_range : Option Addr} {sl_check_range : Array (Option Value)} {oc_check_range kV_check_range dc_check_range pm_check_range cd_check_range ct_check_range : Value}
    {f_check_values : Addr} {od_check_values an_check_values : Option Addr} {sl_check_values : Array (Option Value)} {oc_check_values kV_check_values dc_check_values pm_check_values cd_check_values ct_check_values : Value}
    {f_check_size : Addr} {od_check_size an_check_size : Option Addr} {sl_check_size : Array (Option Value)} {oc_check_size kV_check_size dc_check_size pm_check_size cd_check_size ct_check_size : Value}
    {f_check_kind : Addr} {od_check_kind an_check_kind : Option Addr} {sl_check_kind : Array (Option Value)} {oc_check_kind kV_check_kind dc_check_kind pm_check_kind cd_check_kind ct_check_kind : Value}
    {f_Picture___init__ : Addr} {od_Picture___init__ an_Picture___init__ : Option Addr} {sl_Picture___init__ : Array (Option Value)} {oc_Picture___init__ kV_Picture___init__ dc_Picture___init__ pm_Picture___init__ cd_Picture___init__ ct_Picture___init__ : Value}
    {f_law_values : Addr} {od_law_values an_law_values : Option Addr} {sl_law_values : Array (Option Value)} {oc_law_values kV_law_values dc_law_values pm_law_values cd_law_values ct_law_values : Value}
    {f_law_sizes : Addr} {od_law_sizes an_law_sizes : Option Addr} {sl_law_sizes : Array (Option Value)} {oc_law_sizes kV_law_sizes dc_law_sizes pm_law_sizes cd_law_sizes ct_law_sizes : Value}
    {f_law : Addr} {od_law an_law : Option Addr} {sl_law : Array (Option Value)} {oc_law kV_law dc_law pm_law cd_law ct_law : Value}
    {t_DEPTH_MOST : Tok}
    {t_SIDE_MOST : Tok}
    {t_VALUES_MOST : Tok}
    (g_Picture : PySem.W.nsIn K mainGlobals "Picture" = some (some (.ref C_Picture)))
    (pg_Picture : PySem.W.plainGet K C_Picture Str.empty = true)
    (hd_Picture : PySem.W.hasDictIn K C_Picture = true)
    (po_Picture : PySem.W.plainOver K C_Picture = true)
    (sa_Picture : PySem.W.findIn K (.ref C_Picture) "__setattr__" = some (some (.builtin "object.__setattr__")))
    (mk_Picture : PySem.W.makesIn K C_Picture = true)
    (kc_Picture : PySem.W.keepIn K (.ref C_Picture) = true)
    (na_Picture_width : PySem.W.findIn K (.ref C_Picture) "width" = some none)
    (na_Picture_height : PySem.W.findIn K (.ref C_Picture) "height" = some none)
    (na_Picture_depth : PySem.W.findIn K (.ref C_Picture) "depth" = some none)
    (na_Picture_channels : PySem.W.findIn K (.ref C_Picture) "channels" = some none)
    (na_Picture__rows : PySem.W.findIn K (.ref C_Picture) "_rows" = some none)
    (a_Picture_rows : PySem.W.findIn K (.ref C_Picture) "rows" = some (some (.ref f_Picture_rows)))
    (i_Picture_rows : PySem.W.isFn K (.ref f_Picture_rows) = true)
    (l_Picture_rows : K.lookup f_Picture_rows = some ⟨oc_Picture_rows, od_Picture_rows, .func (PySem.W.fnOf "rows" "Picture.rows" (defArgs s_Picture_rows) (defBody s_Picture_rows) (defScope s_Picture_rows) .none kV_Picture_rows dc_Picture_rows pm_Picture_rows an_Picture_rows cd_Picture_rows ct_Picture_rows), sl_Picture_rows⟩)
    (c_Picture_rows : PySem.W.codeIn K cd_Picture_rows "Picture.rows" = true)
    (k_Picture_rows : PySem.W.keepIn K (.ref f_Picture_rows) = true)
    (a_law_gray : PySem.W.nsIn K mainGlobals "_law_gray" = some (some (.ref f_law_gray)))
    (l_law_gray : K.lookup f_law_gray = some ⟨oc_law_gray, od_law_gray, .func (PySem.W.fnOf "_law_gray" "_law_gray" (defArgs s_law_gray) (defBody s_law_gray) (defScope s_law_gray) .none kV_law_gray dc_law_gray pm_law_gray an_law_gray cd_law_gray ct_law_gray), sl_law_gray⟩)
    (c_law_gray : PySem.W.codeIn K cd_law_gray "_law_gray" = true)
    (k_law_gray : PySem.W.keepIn K (.ref f_law_gray) = true)
    (a_law_stored : PySem.W.nsIn K mainGlobals "_law_stored" = some (some (.ref f_law_stored)))
    (l_law_stored : K.lookup f_law_stored = some ⟨oc_law_stored, od_law_stored, .func (PySem.W.fnOf "_law_stored" "_law_stored" (defArgs s_law_stored) (defBody s_law_stored) (defScope s_law_stored) .none kV_law_stored dc_law_stored pm_law_stored an_law_stored cd_law_stored ct_law_stored), sl_law_stored⟩)
    (c_law_stored : PySem.W.codeIn K cd_law_stored "_law_stored" = true)
    (k_law_stored : PySem.W.keepIn K (.ref f_law_stored) = true)
    (a_law_is_int : PySem.W.nsIn K mainGlobals "_law_is_int" = some (some (.ref f_law_is_int)))
    (l_law_is_int : K.lookup f_law_is_int = some ⟨oc_law_is_int, od_law_is_int, .func (PySem.W.fnOf "_law_is_int" "_law_is_int" (defArgs s_law_is_int) (defBody s_law_is_int) (defScope s_law_is_int) .none kV_law_is_int dc_law_is_int pm_law_is_int an_law_is_int cd_law_is_int ct_law_is_int), sl_law_is_int⟩)
    (c_law_is_int : PySem.W.codeIn K cd_law_is_int "_law_is_int" = true)
    (k_law_is_int : PySem.W.keepIn K (.ref f_law_is_int) = true)
    (a_gray_bit : PySem.W.nsIn K mainGlobals "gray_bit" = some (some (.ref f_gray_bit)))
    (l_gray_bit : K.lookup f_gray_bit = some ⟨oc_gray_bit, od_gray_bit, .func (PySem.W.fnOf "gray_bit" "gray_bit" (defArgs s_gray_bit) (defBody s_gray_bit) (defScope s_gray_bit) .none kV_gray_bit dc_gray_bit pm_gray_bit an_gray_bit cd_gray_bit ct_gray_bit), sl_gray_bit⟩)
    (c_gray_bit : PySem.W.codeIn K cd_gray_bit "gray_bit" = true)
    (k_gray_bit : PySem.W.keepIn K (.ref f_gray_bit) = true)
    (a_Picture_value : PySem.W.findIn K (.ref C_Picture) "value" = some (some (.ref f_Picture_value)))
    (i_Picture_value : PySem.W.isFn K (.ref f_Picture_value) = true)
    (l_Picture_value : K.lookup f_Picture_value = some ⟨oc_Picture_value, od_Picture_value, .func (PySem.W.fnOf "value" "Picture.value" (defArgs s_Picture_value) (defBody s_Picture_value) (defScope s_Picture_value) .none kV_Picture_value dc_Picture_value pm_Picture_value an_Picture_value cd_Picture_value ct_Picture_value), sl_Picture_value⟩)
    (c_Picture_value : PySem.W.codeIn K cd_Picture_value "Picture.value" = true)
    (k_Picture_value : PySem.W.keepIn K (.ref f_Picture_value) = true)
    (a_stored_bit : PySem.W.nsIn K mainGlobals "stored_bit" = some (some (.ref f_stored_bit)))
    (l_stored_bit : K.lookup f_stored_bit = some ⟨oc_stored_bit, od_stored_bit, .func (PySem.W.fnOf "stored_bit" "stored_bit" (defArgs s_stored_bit) (defBody s_stored_bit) (defScope s_stored_bit) .none kV_stored_bit dc_stored_bit pm_stored_bit an_stored_bit cd_stored_bit ct_stored_bit), sl_stored_bit⟩)
    (c_stored_bit : PySem.W.codeIn K cd_stored_bit "stored_bit" = true)
    (k_stored_bit : PySem.W.keepIn K (.ref f_stored_bit) = true)
    (a_law_mixed : PySem.W.nsIn K mainGlobals "_law_mixed" = some (some (.ref f_law_mixed)))
    (l_law_mixed : K.lookup f_law_mixed = some ⟨oc_law_mixed, od_law_mixed, .func (PySem.W.fnOf "_law_mixed" "_law_mixed" (defArgs s_law_mixed) (defBody s_law_mixed) (defScope s_law_mixed) .none kV_law_mixed dc_law_mixed pm_law_mixed an_law_mixed cd_law_mixed ct_law_mixed), sl_law_mixed⟩)
    (c_law_mixed : PySem.W.codeIn K cd_law_mixed "_law_mixed" = true)
    (k_law_mixed : PySem.W.keepIn K (.ref f_law_mixed) = true)
    (a_law_numbers : PySem.W.nsIn K mainGlobals "_law_numbers" = some (some (.ref f_law_numbers)))
    (l_law_numbers : K.lookup f_law_numbers = some ⟨oc_law_numbers, od_law_numbers, .func (PySem.W.fnOf "_law_numbers" "_law_numbers" (defArgs s_law_numbers) (defBody s_law_numbers) (defScope s_law_numbers) .none kV_law_numbers dc_law_numbers pm_law_numbers an_law_numbers cd_law_numbers ct_law_numbers), sl_law_numbers⟩)
    (c_law_numbers : PySem.W.codeIn K cd_law_numbers "_law_numbers" = true)
    (k_law_numbers : PySem.W.keepIn K (.ref f_law_numbers) = true)
    (a_law_cell : PySem.W.nsIn K mainGlobals "_law_cell" = some (some (.ref f_law_cell)))
    (l_law_cell : K.lookup f_law_cell = some ⟨oc_law_cell, od_law_cell, .func (PySem.W.fnOf "_law_cell" "_law_cell" (defArgs s_law_cell) (defBody s_law_cell) (defScope s_law_cell) .none kV_law_cell dc_law_cell pm_law_cell an_law_cell cd_law_cell ct_law_cell), sl_law_cell⟩)
    (c_law_cell : PySem.W.codeIn K cd_law_cell "_law_cell" = true)
    (k_law_cell : PySem.W.keepIn K (.ref f_law_cell) = true)
    (a_check_range : PySem.W.nsIn K mainGlobals "check_range" = some (some (.ref f_check_range)))
    (l_check_range : K.lookup f_check_range = some ⟨oc_check_range, od_check_range, .func (PySem.W.fnOf "check_range" "check_range" (defArgs s_check_range) (defBody s_check_range) (defScope s_check_range) .none kV_check_range dc_check_range pm_check_range an_check_range cd_check_range ct_check_range), sl_check_range⟩)
    (c_check_range : PySem.W.codeIn K cd_check_range "check_range" = true)
    (k_check_range : PySem.W.keepIn K (.ref f_check_range) = true)
    (a_check_values : PySem.W.nsIn K mainGlobals "check_values" = some (some (.ref f_check_values)))
    (l_check_values : K.lookup f_check_values = some ⟨oc_check_values, od_check_values, .func (PySem.W.fnOf "check_values" "check_values" (defArgs s_check_values) (defBody s_check_values) (defScope s_check_values) .none kV_check_values dc_check_values pm_check_values an_check_values cd_check_values ct_check_values), sl_check_values⟩)
    (c_check_values : PySem.W.codeIn K cd_check_values "check_values" = true)
    (k_check_values : PySem.W.keepIn K (.ref f_check_values) = true)
    (a_check_size : PySem.W.nsIn K mainGlobals "check_size" = some (some (.ref f_check_size)))
    (l_check_size : K.lookup f_check_size = some ⟨oc_check_size, od_check_size, .func (PySem.W.fnOf "check_size" "check_size" (defArgs s_check_size) (defBody s_check_size) (defScope s_check_size) .none kV_check_size dc_check_size pm_check_size an_check_size cd_check_size ct_check_size), sl_check_size⟩)
    (c_check_size : PySem.W.codeIn K cd_check_size "check_size" = true)
    (k_check_size : PySem.W.keepIn K (.ref f_check_size) = true)
    (a_check_kind : PySem.W.nsIn K mainGlobals "check_kind" = some (some (.ref f_check_kind)))
    (l_check_kind : K.lookup f_check_kind = some ⟨oc_check_kind, od_check_kind, .func (PySem.W.fnOf "check_kind" "check_kind" (defArgs s_check_kind) (defBody s_check_kind) (defScope s_check_kind) .none kV_check_kind dc_check_kind pm_check_kind an_check_kind cd_check_kind ct_check_kind), sl_check_kind⟩)
    (c_check_kind : PySem.W.codeIn K cd_check_kind "check_kind" = true)
    (k_check_kind : PySem.W.keepIn K (.ref f_check_kind) = true)
    (a_Picture___init__ : PySem.W.findIn K (.ref C_Picture) "__init__" = some (some (.ref f_Picture___init__)))
    (i_Picture___init__ : PySem.W.isFn K (.ref f_Picture___init__) = true)
    (l_Picture___init__ : K.lookup f_Picture___init__ = some ⟨oc_Picture___init__, od_Picture___init__, .func (PySem.W.fnOf "__init__" "Picture.__init__" (defArgs s_Picture___init__) (defBody s_Picture___init__) (defScope s_Picture___init__) .none kV_Picture___init__ dc_Picture___init__ pm_Picture___init__ an_Picture___init__ cd_Picture___init__ ct_Picture___init__), sl_Picture___init__⟩)
    (c_Picture___init__ : PySem.W.codeIn K cd_Picture___init__ "Picture.__init__" = true)
    (k_Picture___init__ : PySem.W.keepIn K (.ref f_Picture___init__) = true)
    (a_law_values : PySem.W.nsIn K mainGlobals "_law_values" = some (some (.ref f_law_values)))
    (l_law_values : K.lookup f_law_values = some ⟨oc_law_values, od_law_values, .func (PySem.W.fnOf "_law_values" "_law_values" (defArgs s_law_values) (defBody s_law_values) (defScope s_law_values) .none kV_law_values dc_law_values pm_law_values an_law_values cd_law_values ct_law_values), sl_law_values⟩)
    (c_law_values : PySem.W.codeIn K cd_law_values "_law_values" = true)
    (k_law_values : PySem.W.keepIn K (.ref f_law_values) = true)
    (a_law_sizes : PySem.W.nsIn K mainGlobals "_law_sizes" = some (some (.ref f_law_sizes)))
    (l_law_sizes : K.lookup f_law_sizes = some ⟨oc_law_sizes, od_law_sizes, .func (PySem.W.fnOf "_law_sizes" "_law_sizes" (defArgs s_law_sizes) (defBody s_law_sizes) (defScope s_law_sizes) .none kV_law_sizes dc_law_sizes pm_law_sizes an_law_sizes cd_law_sizes ct_law_sizes), sl_law_sizes⟩)
    (c_law_sizes : PySem.W.codeIn K cd_law_sizes "_law_sizes" = true)
    (k_law_sizes : PySem.W.keepIn K (.ref f_law_sizes) = true)
    (a_law : PySem.W.nsIn K mainGlobals "law" = some (some (.ref f_law)))
    (l_law : K.lookup f_law = some ⟨oc_law, od_law, .func (PySem.W.fnOf "law" "law" (defArgs s_law) (defBody s_law) (defScope s_law) .none kV_law dc_law pm_law an_law cd_law ct_law), sl_law⟩)
    (c_law : PySem.W.codeIn K cd_law "law" = true)
    (k_law : PySem.W.keepIn K (.ref f_law) = true)
    (n_abs : PySem.W.nsIn K mainGlobals "abs" = some none)
    (n_bool : PySem.W.nsIn K mainGlobals "bool" = some none)
    (n_int : PySem.W.nsIn K mainGlobals "int" = some none)
    (n_isinstance : PySem.W.nsIn K mainGlobals "isinstance" = some none)
    (n_len : PySem.W.nsIn K mainGlobals "len" = some none)
    (n_list : PySem.W.nsIn K mainGlobals "list" = some none)
    (n_min : PySem.W.nsIn K mainGlobals "min" = some none)
    (n_range : PySem.W.nsIn K mainGlobals "range" = some none)
    (c_DEPTH_MOST : PySem.W.nsIn K mainGlobals "DEPTH_MOST" = some (some (.int 8 t_DEPTH_MOST)))
    (c_SIDE_MOST : PySem.W.nsIn K mainGlobals "SIDE_MOST" = some (some (.int 64 t_SIDE_MOST)))
    (c_VALUES_MOST : PySem.W.nsIn K mainGlobals "VALUES_MOST" = some (some (.int 3072 t_VALUES_MOST))) :
    ∃ fd : FuncData, (∀ (s : Shared) (v : Value), BindsTo s fd ⟨[v], []⟩ [("script", v)]) ∧ ∀ base : Heap, K.In base → base.Ns mainGlobals mg → FnOk l.prog w K mg base CX0 7 fa fd ["script"] (spLaw K) := by
  have e := hfa.symm.trans (PySem.W.mg_of X G a_law)
  cases e
  have F_Picture_rows := fun_mk (st := s_Picture_rows) l_Picture_rows c_Picture_rows k_Picture_rows
  have F_law_gray := fun_mk (st := s_law_gray) l_law_gray c_law_gray k_law_gray
  have F_law_stored := fun_mk (st := s_law_stored) l_law_stored c_law_stored k_law_stored
  have F_law_is_int := fun_mk (st := s_law_is_int) l_law_is_int c_law_is_int k_law_is_int
  have F_gray_bit := fun_mk (st := s_gray_bit) l_gray_bit c_gray_bit k_gray_bit
  have F_Picture_value := fun_mk (st := s_Picture_value) l_Picture_value c_Picture_value k_Picture_value
  have F_stored_bit := fun_mk (st := s_stored_bit) l_stored_bit c_stored_bit k_stored_bit
  have F_law_mixed := fun_mk (st := s_law_mixed) l_law_mixed c_law_mixed k_law_mixed
  have F_law_numbers := fun_mk (st := s_law_numbers) l_law_numbers c_law_numbers k_law_numbers
  have F_law_cell := fun_mk (st := s_law_cell) l_law_cell c_law_cell k_law_cell
  have F_check_range := fun_mk (st := s_check_range) l_check_range c_check_range k_check_range
  have F_check_values := fun_mk (st := s_check_values) l_check_values c_check_values k_check_values
  have F_check_size := fun_mk (st := s_check_size) l_check_size c_check_size k_check_size
  have F_check_kind := fun_mk (st := s_check_kind) l_check_kind c_check_kind k_check_kind
  have F_Picture___init__ := fun_mk (st := s_Picture___init__) l_Picture___init__ c_Picture___init__ k_Picture___init__
  have F_law_values := fun_mk (st := s_law_values) l_law_values c_law_values k_law_values
  have F_law_sizes := fun_mk (st := s_law_sizes) l_law_sizes c_law_sizes k_law_sizes
  have F_law := fun_mk (st := s_law) l_law c_law k_law
  exact ⟨PySem.W.fnOf "law" "law" (defArgs s_law) (defBody s_law) (defScope s_law) .none kV_law dc_law pm_law an_law cd_law ct_law, fun s v => .of_eq rfl, fun base _ _ => ok_law (mg := mg) {
    a_Picture := C_Picture,
    cl_Picture := ⟨pg_Picture, hd_Picture, po_Picture, sa_Picture⟩,
    g_Picture := PySem.W.mg_of X G g_Picture,
    mk_Picture := mk_Picture,
    kp_Picture := kc_Picture,
    na_Picture_width := na_Picture_width,
    na_Picture_height := na_Picture_height,
    na_Picture_depth := na_Picture_depth,
    na_Picture_channels := na_Picture_channels,
    na_Picture__rows := na_Picture__rows,
    Picture_rows := ⟨_, _, F_Picture_rows, F_Picture_rows.binds fun _ _ _ _ _ _ us hl => match us, hl with | [_], _ => rfl, ⟨a_Picture_rows, i_Picture_rows, k_Picture_rows⟩⟩,
    law_gray := ⟨_, _, F_law_gray, PySem.W.mg_of X G a_law_gray, F_law_gray.binds fun _ _ _ _ _ _ us hl => match us, hl with | [_, _], _ => rfl⟩,
    law_stored := ⟨_, _, F_law_stored, PySem.W.mg_of X G a_law_stored, F_law_stored.binds fun _ _ _ _ _ _ us hl => match us, hl with | [_, _, _, _], _ => rfl⟩,
    law_is_int := ⟨_, _, F_law_is_int, PySem.W.mg_of X G a_law_is_int, F_law_is_int.binds fun _ _ _ _ _ _ us hl => match us, hl with | [_], _ => rfl⟩,
    gray_bit := ⟨_, _, F_gray_bit, PySem.W.mg_of X G a_gray_bit, F_gray_bit.binds fun _ _ _ _ _ _ us hl => match us, hl with | [_, _], _ => rfl⟩,
    Picture_value := ⟨_, _, F_Picture_value, F_Picture_value.binds fun _ _ _ _ _ _ us hl => match us, hl with | [_, _, _], _ => rfl, ⟨a_Picture_value, i_Picture_value, k_Picture_value⟩⟩,
    stored_bit := ⟨_, _, F_stored_bit, PySem.W.mg_of X G a_stored_bit, F_stored_bit.binds fun _ _ _ _ _ _ us hl => match us, hl with | [_, _, _, _], _ => rfl⟩,
    law_mixed := ⟨_, _, F_law_mixed, PySem.W.mg_of X G a_law_mixed, F_law_mixed.binds fun _ _ _ _ _ _ us hl => match us, hl with | [_, _, _], _ => rfl⟩,
    law_numbers := ⟨_, _, F_law_numbers, PySem.W.mg_of X G a_law_numbers, F_law_numbers.binds fun _ _ _ _ _ _ us hl => match us, hl with | [_, _, _], _ => rfl⟩,
    law_cell := ⟨_, _, F_law_cell, PySem.W.mg_of X G a_law_cell, F_law_cell.binds fun _ _ _ _ _ _ us hl => match us, hl with | [_, _], _ => rfl⟩,
    check_range := ⟨_, _, F_check_range, PySem.W.mg_of X G a_check_range, F_check_range.binds fun _ _ _ _ _ _ us hl => match us, hl with | [_, _, _, _], _ => rfl⟩,
    check_values := ⟨_, _, F_check_values, PySem.W.mg_of X G a_check_values, F_check_values.binds fun _ _ _ _ _ _ us hl => match us, hl with | [_, _, _, _, _], _ => rfl⟩,
    check_size := ⟨_, _, F_check_size, PySem.W.mg_of X G a_check_size, F_check_size.binds fun _ _ _ _ _ _ us hl => match us, hl with | [_, _, _], _ => rfl⟩,
    check_kind := ⟨_, _, F_check_kind, PySem.W.mg_of X G a_check_kind, F_check_kind.binds fun _ _ _ _ _ _ us hl => match us, hl with | [_, _, _, _], _ => rfl⟩,
    Picture___init__ := ⟨_, _, F_Picture___init__, F_Picture___init__.binds fun _ _ _ _ _ _ us hl => match us, hl with | [_, _, _, _, _, _], _ => rfl, ⟨a_Picture___init__, i_Picture___init__, k_Picture___init__⟩⟩,
    law_values := ⟨_, _, F_law_values, PySem.W.mg_of X G a_law_values, F_law_values.binds fun _ _ _ _ _ _ us hl => match us, hl with | [_, _], _ => rfl⟩,
    law_sizes := ⟨_, _, F_law_sizes, PySem.W.mg_of X G a_law_sizes, F_law_sizes.binds fun _ _ _ _ _ _ us hl => match us, hl with | [_, _], _ => rfl⟩,
    law := ⟨_, _, F_law, PySem.W.mg_of X G a_law, F_law.binds fun _ _ _ _ _ _ us hl => match us, hl with | [_], _ => rfl⟩,
    n_abs := PySem.W.mg_none_of X G n_abs,
    n_bool := PySem.W.mg_none_of X G n_bool,
    n_int := PySem.W.mg_none_of X G n_int,
    n_isinstance := PySem.W.mg_none_of X G n_isinstance,
    n_len := PySem.W.mg_none_of X G n_len,
    n_list := PySem.W.mg_none_of X G n_list,
    n_min := PySem.W.mg_none_of X G n_min,
    n_range := PySem.W.mg_none_of X G n_range,
    t_DEPTH_MOST := t_DEPTH_MOST,
    c_DEPTH_MOST := PySem.W.mg_of X G c_DEPTH_MOST,
    t_SIDE_MOST := t_SIDE_MOST,
    c_SIDE_MOST := PySem.W.mg_of X G c_SIDE_MOST,
    t_VALUES_MOST := t_VALUES_MOST,
    c_VALUES_MOST := PySem.W.mg_of X G c_VALUES_MOST }⟩
theorem walk {l : PySem.W.OpenLaw} {q : Program} {loose : List Str} {XP : (Str → Option Value) → Heap → Prop} {YP : World → Heap → Prop} {d : DefRec} {K : Params → PySem.W.Frag} (hn : l.most = some 63) (hdf : d.params.defaults = [])
    (hY : ∀ (w : World) (h : Heap), YP w h → (K w.params).In h)
    (F : ∀ (w : World) (mg : Str → Option Value) (fa : Addr) (h : Heap), (K w.params).In h → h.Ns mainGlobals mg → mg d.name = some (.ref fa) →
      ∃ fd : FuncData, (∀ (s : Shared) (u : Value), BindsTo s fd ⟨[u], []⟩ [("script", u)]) ∧ ∀ base : Heap, (K w.params).In base → base.Ns mainGlobals mg → FnOk l.prog w (K w.params) mg base CX0 7 fa fd ["script"] (spLaw (K w.params))) :
    PySem.W.WalkO q loose XP YP l.row.toRowW d [] (fun f vs => PySem.call f vs) :=
  L2.walk_ofB (n := 63) (k := 7) (x := "script") (CX := fun _ => CX0) (sp := fun w => spLaw (K w.params)) hn (by decide) hdf ⟨rfl, by decide, by decide⟩ hY F (fun _ _ a ns hl hb _ hS => ⟨a, ns, rfl, hS, hl, hb, fun _ => rfl⟩) fun _ _ _ _ _ z => z
end My
open PySem PySem.W PyProof.Rows
set_option maxRecDepth 100000 in
set_option maxHeartbeats 0 in
theorem PySem.Challenge.cw_packetpicture_k12_stored_bits_holds : PySem.Challenge.rw_packetpicture_k12_stored_bits.Holds := by
  w_on; o_law; k_head; (case hw => w_witness2)
  k_fill
  refine My.walk (l := PySem.Challenge.rw_packetpicture_k12_stored_bits) rfl rfl (fun w h Y => PySem.W.kIn_of Y) ?F
  case F =>
    intro w mg fa h KX G hmg
    refine' My.all_mk KX G hmg ?g_Picture ?pg_Picture ?hd_Picture ?po_Picture ?sa_Picture ?mk_Picture ?kc_Picture ?na_Picture_width ?na_Picture_height ?na_Picture_depth ?na_Picture_channels ?na_Picture__rows ?a_Picture_rows ?i_Picture_rows ?l_Picture_rows ?c_Picture_rows ?k_Picture_rows ?a_law_gray ?l_law_gray ?c_law_gray ?k_law_gray ?a_law_stored ?l_law_stored ?c_law_stored ?k_law_stored ?a_law_is_int ?l_law_is_int ?c_law_is_int ?k_law_is_int ?a_gray_bit ?l_gray_bit ?c_gray_bit ?k_gray_bit ?a_Picture_value ?i_Picture_value ?l_Picture_value ?c_Picture_value ?k_Picture_value ?a_stored_bit ?l_stored_bit ?c_stored_bit ?k_stored_bit ?a_law_mixed ?l_law_mixed ?c_law_mixed ?k_law_mixed ?a_law_numbers ?l_law_numbers ?c_law_numbers ?k_law_numbers ?a_law_cell ?l_law_cell ?c_law_cell ?k_law_cell ?a_check_range ?l_check_range ?c_check_range ?k_check_range ?a_check_values ?l_check_values ?c_check_values ?k_check_values ?a_check_size ?l_check_size ?c_check_size ?k_check_size ?a_check_kind ?l_check_kind ?c_check_kind ?k_check_kind ?a_Picture___init__ ?i_Picture___init__ ?l_Picture___init__ ?c_Picture___init__ ?k_Picture___init__ ?a_law_values ?l_law_values ?c_law_values ?k_law_values ?a_law_sizes ?l_law_sizes ?c_law_sizes ?k_law_sizes ?a_law ?l_law ?c_law ?k_law ?n_abs ?n_bool ?n_int ?n_isinstance ?n_len ?n_list ?n_min ?n_range ?c_DEPTH_MOST ?c_SIDE_MOST ?c_VALUES_MOST
    (case g_Picture => k_is)
    (case pg_Picture => k_is)
    (case hd_Picture => k_is)
    (case po_Picture => k_is)
    (case sa_Picture => k_is)
    (case mk_Picture => k_is)
    (case kc_Picture => k_is)
    (case na_Picture_width => k_is)
    (case na_Picture_height => k_is)
    (case na_Picture_depth => k_is)
    (case na_Picture_channels => k_is)
    (case na_Picture__rows => k_is)
    (case a_Picture_rows => k_is)
    (case i_Picture_rows => k_is)
    (case l_Picture_rows => k_is)
    (case c_Picture_rows => k_is)
    (case k_Picture_rows => k_is)
    (case a_law_gray => k_is)
    (case l_law_gray => k_is)
    (case c_law_gray => k_is)
    (case k_law_gray => k_is)
    (case a_law_stored => k_is)
    (case l_law_stored => k_is)
    (case c_law_stored => k_is)
    (case k_law_stored => k_is)
    (case a_law_is_int => k_is)
    (case l_law_is_int => k_is)
    (case c_law_is_int => k_is)
    (case k_law_is_int => k_is)
    (case a_gray_bit => k_is)
    (case l_gray_bit => k_is)
    (case c_gray_bit => k_is)
    (case k_gray_bit => k_is)
    (case a_Picture_value => k_is)
    (case i_Picture_value => k_is)
    (case l_Picture_value => k_is)
    (case c_Picture_value => k_is)
    (case k_Picture_value => k_is)
    (case a_stored_bit => k_is)
    (case l_stored_bit => k_is)
    (case c_stored_bit => k_is)
    (case k_stored_bit => k_is)
    (case a_law_mixed => k_is)
    (case l_law_mixed => k_is)
    (case c_law_mixed => k_is)
    (case k_law_mixed => k_is)
    (case a_law_numbers => k_is)
    (case l_law_numbers => k_is)
    (case c_law_numbers => k_is)
    (case k_law_numbers => k_is)
    (case a_law_cell => k_is)
    (case l_law_cell => k_is)
    (case c_law_cell => k_is)
    (case k_law_cell => k_is)
    (case a_check_range => k_is)
    (case l_check_range => k_is)
    (case c_check_range => k_is)
    (case k_check_range => k_is)
    (case a_check_values => k_is)
    (case l_check_values => k_is)
    (case c_check_values => k_is)
    (case k_check_values => k_is)
    (case a_check_size => k_is)
    (case l_check_size => k_is)
    (case c_check_size => k_is)
    (case k_check_size => k_is)
    (case a_check_kind => k_is)
    (case l_check_kind => k_is)
    (case c_check_kind => k_is)
    (case k_check_kind => k_is)
    (case a_Picture___init__ => k_is)
    (case i_Picture___init__ => k_is)
    (case l_Picture___init__ => k_is)
    (case c_Picture___init__ => k_is)
    (case k_Picture___init__ => k_is)
    (case a_law_values => k_is)
    (case l_law_values => k_is)
    (case c_law_values => k_is)
    (case k_law_values => k_is)
    (case a_law_sizes => k_is)
    (case l_law_sizes => k_is)
    (case c_law_sizes => k_is)
    (case k_law_sizes => k_is)
    (case a_law => k_is)
    (case l_law => k_is)
    (case c_law => k_is)
    (case k_law => k_is)
    (case n_abs => k_is)
    (case n_bool => k_is)
    (case n_int => k_is)
    (case n_isinstance => k_is)
    (case n_len => k_is)
    (case n_list => k_is)
    (case n_min => k_is)
    (case n_range => k_is)
    (case c_DEPTH_MOST => k_is)
    (case c_SIDE_MOST => k_is)
    (case c_VALUES_MOST => k_is)
