import PyProof.Rows.All
import Wide.All
import OpenK.AllK
import Wide.FinOn
import HandS.ForMost
import HandS.EndBits
import HandS.IsInst
import HandS.Conv
import HandS.RevRange
import HandS.Walk
import HandS.Wide
import HandS.Codes
import PySem.Challenge.RW_packetpicture_k17_interval_of_bits
set_option Elab.async false
set_option linter.all false
set_option maxRecDepth 100000
set_option maxHeartbeats 4000000
/-! Steps of a reading, one lemma a construct; `walk_at "go"` tries them one after another. -/
namespace Gx
open PySem L2
section
variable {K : PySem.W.Frag} {σ : L2.St} {H : Hp} {Q : VK} {D : Ends} {ta tb te to ti tv : TE} {t u : TT} {tr : TA} {tu tw : TS} {x y z v : V} {i j : Int} {B : Bool → Hp → Prop} {A1 A2 : Prop} {b : Bool}
/-- a test's answer; a branch -/
def TB (x : V) (H : Hp) (Q : Bool → Hp → Prop) : Prop := ∃ k, x = .bl k ∧ Q k H
def IfP (c : Bool) (A B : Prop) : Prop := if c = true then A else B
theorem tB_ (q : TB (.bl b) H B ) : TB (.bl b) H B := q
theorem tb_go (q : B b H) : TB (.bl b) H B := ⟨b, rfl, q⟩
theorem if_t (q : A1) : IfP true A1 A2 := by unfold IfP; rw [if_pos rfl]; exact q
theorem if_f (q : A2) : IfP false A1 A2 := by unfold IfP; rw [if_neg Bool.false_ne_true]; exact q
theorem if_nt (q : A2) : IfP (!true) A1 A2 := if_f q
theorem if_nf (q : A1) : IfP (!false) A1 A2 := if_t q
theorem if_y {c : Bool} (h : c = true) (q : A1) : IfP c A1 A2 := by subst h; exact if_t q
theorem if_n {c : Bool} (h : c = false) (q : A2) : IfP c A1 A2 := by subst h; exact if_f q
theorem if_b {c : Bool} (q1 : c = true → A1) (q2 : c = false → A2) : IfP c A1 A2 := by
  cases c with
  | true => exact if_t (q1 rfl)
  | false => exact if_f (q2 rfl)
theorem if_d {p : Prop} [Decidable p] (q1 : p → A1) (q2 : ¬ p → A2) : IfP (decide p) A1 A2 := if_b (fun h => q1 (of_decide_eq_true h)) (fun h => q2 (of_decide_eq_false h))
theorem if_dn {p : Prop} [Decidable p] (q1 : ¬ p → A1) (q2 : p → A2) : IfP (!decide p) A1 A2 := by
  by_cases h : p
  · rw [decide_eq_true h]; exact if_f (q2 h)
  · rw [decide_eq_false h]; exact if_t (q1 h)
theorem if_andc {c d : Bool} {X : Prop} {B : Bool → Hp → Prop} {H : Hp} (h : B d H → X) (q : B (c && d) H) : IfP c X (B false H) := by
  cases c with
  | true => exact if_t (h q)
  | false => exact if_f q
theorem if_orc {c d : Bool} {X : Prop} {B : Bool → Hp → Prop} {H : Hp} (h : B d H → X) (q : B (c || d) H) : IfP c (B true H) X := by
  cases c with
  | true => exact if_t q
  | false => exact if_f (h q)
theorem if_dy {p : Prop} [Decidable p] (h : p) (q : A1) : IfP (decide p) A1 A2 := if_y (decide_eq_true h) q
theorem if_dno {p : Prop} [Decidable p] (h : ¬ p) (q : A2) : IfP (decide p) A1 A2 := if_n (decide_eq_false h) q
theorem if_two {c : Bool} {x y : Int} {σ : L2.St} {H : Hp} {Q' : VK} (q : ∀ n, (n = x ∨ n = y) → Q' (.int n) H) : IfP c (tC (.int x) σ H Q') (tC (.int y) σ H Q') := if_b (fun _ => q x (.inl rfl)) (fun _ => q y (.inr rfl))
/-- names, constants -/
theorem var {i : Nat} (h : σ[i]? = some (some v)) (q : Q v H) : tVar i σ H Q := ⟨v, h, q⟩
theorem cst (q : Q v H) : tC v σ H Q := q
/-- operators -/
theorem op {r : R2} (q : ta σ H fun x H1 => tb σ H1 fun y H2 => r x y H2 Q) : tOp r ta tb σ H Q := q
theorem un {r : V → Hp → VK → Prop} (q : ta σ H fun x H1 => r x H1 Q) : tUn r ta σ H Q := q
theorem i0 {g : Int → Int → V} (q : Q (g i j) H) : rI0 g (.int i) (.int j) H Q := ⟨i, j, rfl, rfl, q⟩
theorem ic {C : Int → Int → Prop} {g : Int → Int → V} (c : C i j) (q : Q (g i j) H) : rI C g (.int i) (.int j) H Q := ⟨i, j, rfl, rfl, c, q⟩
theorem uu {g : Int → V} (q : Q (g i) H) : rU g (.int i) H Q := ⟨i, rfl, q⟩
theorem eqv (q : Q (.bl (decide (x = y))) H) (h : scal x y = true := by rfl) : rEq x y H Q := ⟨h, q⟩
theorem nev (q : Q (.bl (!decide (x = y))) H) (h : scal x y = true := by rfl) : rNe x y H Q := ⟨h, q⟩
theorem eqI {p : Int} {q' : Int} : decide (V.int p = V.int q') = decide (p = q') := by simp
theorem eqS {p q' : Str} : decide (V.str p = V.str q') = decide (p = q') := by simp
theorem eqvI (q : Q (.bl (decide (i = j))) H) : rEq (.int i) (.int j) H Q := eqv (by rw [eqI]; exact q)
theorem nevI (q : Q (.bl (!decide (i = j))) H) : rNe (.int i) (.int j) H Q := nev (by rw [eqI]; exact q)
theorem eqvS {a b : Str} (q : Q (.bl (decide (a = b))) H) : rEq (.str a) (.str b) H Q := eqv (by rw [eqS]; exact q)
theorem nevS {a b : Str} (q : Q (.bl (!decide (a = b))) H) : rNe (.str a) (.str b) H Q := nev (by rw [eqS]; exact q)
/-- tests -/
theorem test (q : te σ H fun x H1 => TB x H1 B) : tTest te σ H B := q
theorem tB (q : te σ H fun x H1 => TB x H1 B) : L2.tB te σ H B := q
theorem and_ (q : t σ H fun c H1 => IfP c (u σ H1 B) (B false H1)) : tAnd t u σ H B := q
theorem or_ (q : t σ H fun c H1 => IfP c (B true H1) (u σ H1 B)) : tOr t u σ H B := q
theorem not_ (q : t σ H fun c H1 => B (!c) H1) : tNot t σ H B := q
theorem ifx (q : t σ H fun c H1 => IfP c (ta σ H1 Q) (tb σ H1 Q)) : tIf t ta tb σ H Q := q
/-- and, or, not as values -/
def BV (x : V) (H : Hp) (Q : Bool → Hp → Prop) : Prop := ∃ c, x = .bl c ∧ Q c H
theorem bv_go (q : B b H) : BV (.bl b) H B := ⟨b, rfl, q⟩
theorem andV (q : ta σ H fun x H1 => BV x H1 fun c H1 => IfP c (tb σ H1 Q) (Q (.bl false) H1)) : tAndV ta tb σ H Q := q
theorem orV (q : ta σ H fun x H1 => BV x H1 fun c H1 => IfP c (Q (.bl true) H1) (tb σ H1 Q)) : tOrV ta tb σ H Q := q
theorem notV (q : ta σ H fun x H1 => BV x H1 fun c H1 => Q (.bl (!c)) H1) : tNotV ta σ H Q := q
/-- argument lists, displays -/
theorem nil {R : List V → Hp → Prop} (q : R [] H) : tNil σ H R := q
theorem cons {R : List V → Hp → Prop} (q : ta σ H fun x H1 => tr σ H1 fun xs H2 => R (x :: xs) H2) : tCons ta tr σ H R := q
/-- a new object -/
def NewP (H : Hp) (o : HO) (Q : VK) : Prop := ∀ p, H p = none → Q (.ref p) (upd H p o)
def LstP (xs : List V) (H : Hp) (Q : VK) : Prop := xs.length ≤ sizeLine ∧ NewP H (.lst xs) Q
def TupP (xs : List V) (H : Hp) (Q : VK) : Prop := xs.length ≤ sizeLine ∧ NewP H (.tup xs) Q
theorem lst (q : tr σ H fun xs H1 => LstP xs H1 Q) : tLst tr σ H Q := q
theorem tup (q : tr σ H fun xs H1 => TupP xs H1 Q) : tTup tr σ H Q := q
theorem lstP {xs : List V} (h : xs.length ≤ sizeLine) (q : ∀ p, H p = none → Q (.ref p) (upd H p (.lst xs))) : LstP xs H Q := ⟨h, q⟩
theorem tupP {xs : List V} (h : xs.length ≤ sizeLine) (q : ∀ p, H p = none → Q (.ref p) (upd H p (.tup xs))) : TupP xs H Q := ⟨h, q⟩
/-- calls -/
def CP (sp : Sp) (vs dvs : List V) (H : Hp) (Q : VK) (E : XK) : Prop := sp (vs ++ dvs) H Q E
theorem call {sp : Sp} {dvs : List V} {E : XK} (q : tr σ H fun vs H1 => CP sp vs dvs H1 Q E) : tCall sp dvs E tr σ H Q := q
theorem cb {r : List V → Hp → VK → Prop} (q : tr σ H fun vs H1 => r vs H1 Q) : tCB r tr σ H Q := q
/-- statements -/
theorem seq (q : tu { D with nx := tw D } σ H) : tSeq tu tw D σ H := q
theorem next (q : D.nx σ H) : tNext D σ H := q
theorem ret (q : te σ H D.rt) : tRet te D σ H := q
theorem retN (q : D.rt .non H) : tRetN D σ H := q
theorem drop (q : te σ H fun _ H1 => D.nx σ H1) : tDrop te D σ H := q
theorem asg {g : TG} (q : te σ H fun x H1 => g x σ H1 D.nx) : tAsg te g D σ H := q
theorem name {i : Nat} {R : L2.St → Hp → Prop} (q : R (σ.set i (some v)) H) : gName i v σ H R := q
theorem ifs {c : TT} (q : c σ H fun b H1 => IfP b (tu D σ H1) (tw D σ H1)) : tIfS c tu tw D σ H := q
theorem brk (q : D.bk σ H) : tBreak D σ H := q
theorem cnt (q : D.ct σ H) : tCont D σ H := q
def AugP (i : Nat) (x y : V) (ip : TIp) (D : Ends) (σ : L2.St) (H : Hp) : Prop := ip x y H fun z H2 => D.nx (σ.set i (some z)) H2
theorem aug {i : Nat} {tip : TIp} (h : σ[i]? = some (some x)) (q : te σ H fun y H1 => AugP i x y tip D σ H1) : tAug i te tip D σ H := ⟨x, h, q⟩
theorem augI {n : Nat} {f : Int → Int → Int} (q : D.nx (σ.set n (some (.int (f i j)))) H) : AugP n (.int i) (.int j) (ipI f) D σ H := ⟨i, j, rfl, rfl, q⟩
/-- loops: what walks (FW), for a range -/
def FW (J : It) (g : TG) (tb : TS) (D : Ends) (σ : L2.St) (H : Hp) : Prop := ∃ W : Nat → Nat → L2.St → Hp → Prop, (∃ m, W 0 m σ H) ∧ ∀ i m σ H, W i m σ H →
  (J.stop i H ∧ D.nx σ H) ∨ (J.go i H ∧ ∃ N : L2.St → Hp → Prop, (∀ σ' H', N σ' H' → ∃ m', m' < m ∧ W (i + 1) m' σ' H') ∧ ∀ x H', J.yld i H x H' → g x σ H' fun σ2 H2 => tb { D with nx := N, ct := N, bk := D.nx } σ2 H2)
theorem for_ {wi : TI} {g : TG} (q : wi σ H fun J H1 => FW J g tu D σ H1) : tFor wi g tu D σ H := q
def R1P (vs : List V) (H : Hp) (R : It → Hp → Prop) : Prop := ∃ j : Int, vs = [.int j] ∧ -(2 ^ 62) ≤ j ∧ j < 2 ^ 62 ∧ R (Itr 0 j.toNat) H
def R2P (vs : List V) (H : Hp) (R : It → Hp → Prop) : Prop := ∃ i j : Int, vs = [.int i, .int j] ∧ (-(2 ^ 62) ≤ i ∧ i < 2 ^ 62 ∧ -(2 ^ 62) ≤ j ∧ j < 2 ^ 62) ∧ R (Itr i (j - i).toNat) H
theorem rng1 {R : It → Hp → Prop} (q : tr σ H fun vs H1 => R1P vs H1 R) : iRng1 tr σ H R := q
theorem rng2 {R : It → Hp → Prop} (q : tr σ H fun vs H1 => R2P vs H1 R) : iRng2 tr σ H R := q
theorem r1 {R : It → Hp → Prop} (h1 : -(2 ^ 62) ≤ j) (h2 : j < 2 ^ 62) (q : R (Itr 0 j.toNat) H) : R1P [.int j] H R := ⟨j, rfl, h1, h2, q⟩
theorem r2 {R : It → Hp → Prop} (h1 : -(2 ^ 62) ≤ i ∧ i < 2 ^ 62 ∧ -(2 ^ 62) ≤ j ∧ j < 2 ^ 62) (q : R (Itr i (j - i).toNat) H) : R2P [.int i, .int j] H R := ⟨i, j, rfl, h1, q⟩
theorem fwR {lo : Int} {n : Nat} {g : TG} (Pv : Nat → L2.St → Hp → Prop) (h0 : Pv 0 σ H) (hs : ∀ i σ H, i < n → Pv i σ H → g (.int (lo + i)) σ H fun σ2 H2 => tu { D with nx := Pv (i + 1), ct := Pv (i + 1), bk := D.nx } σ2 H2) (hd : ∀ σ H, Pv n σ H → D.nx σ H) :
    FW (Itr lo n) g tu D σ H := for_range Pv h0 hs hd
def LP (K : PySem.W.Frag) (x : V) (H : Hp) (R : It → Hp → Prop) : Prop := ∃ a, x = .ref a ∧ (∃ xs, SqL K H a xs) ∧ R (Itl K a) H
theorem lwk {R : It → Hp → Prop} (q : te σ H fun x H1 => LP K x H1 R) : iList K te σ H R := q
theorem lp {a : Addr} {xs : List V} {R : It → Hp → Prop} (h : SqL K H a xs) (q : R (Itl K a) H) : LP K (.ref a) H R := ⟨a, rfl, ⟨xs, h⟩, q⟩
theorem fwL {a : Addr} {g : TG} (xs : List V) (Pv : Nat → L2.St → Hp → Prop) (h0 : Pv 0 σ H) (hl : ∀ i σ H, i ≤ xs.length → Pv i σ H → SqL K H a xs)
    (hs : ∀ i x σ H, xs[i]? = some x → Pv i σ H → g x σ H fun σ2 H2 => tu { D with nx := Pv (i + 1), ct := Pv (i + 1), bk := D.nx } σ2 H2) (hd : ∀ σ H, Pv xs.length σ H → D.nx σ H) : FW (Itl K a) g tu D σ H := for_list Pv h0 hl hs hd
/-- built-in functions, under names of their own -/
def rInt1 : List V → Hp → VK → Prop := fun xs H Q => (∃ i, xs = [.int i] ∧ Q (.int i) H) ∨ ∃ k, xs = [.bl k] ∧ Q (.int (if k then 1 else 0)) H
def rAbs : List V → Hp → VK → Prop := fun xs H Q => ∃ i, xs = [.int i] ∧ Q (.int (if i < 0 then -i else i)) H
def rStrI : List V → Hp → VK → Prop := fun xs H Q => ∃ i, xs = [.int i] ∧ i.natAbs.log2 < 1920 ∧ Q (.str (toString i)) H
def rLen (K : PySem.W.Frag) : List V → Hp → VK → Prop := fun xs H Q => ∃ x n, xs = [x] ∧ LenV K x H n ∧ Q (.int n) H
theorem int1 (q : Q (.int i) H) : rInt1 [.int i] H Q := .inl ⟨i, rfl, q⟩
theorem intB {k : Bool} (q : Q (.int (if k then 1 else 0)) H) : rInt1 [.bl k] H Q := .inr ⟨k, rfl, q⟩
theorem abs1 (q : Q (.int (if i < 0 then -i else i)) H) : rAbs [.int i] H Q := ⟨i, rfl, q⟩
theorem strI (h : i.natAbs.log2 < 1920) (q : Q (.str (toString i)) H) : rStrI [.int i] H Q := ⟨i, rfl, h, q⟩
theorem lenS {s : Str} (h : s.length ≤ sizeLine) (q : Q (.int (s.length : Nat)) H) : rLen K [.str s] H Q := ⟨_, _, rfl, ⟨h, rfl⟩, q⟩
theorem lenL {p : Addr} {xs : List V} (h : SqL K H p xs) (q : Q (.int (xs.length : Nat)) H) : rLen K [.ref p] H Q := ⟨_, _, rfl, .inl ⟨_, h, rfl⟩, q⟩
theorem lenT {p : Addr} {xs : List V} (h : SqT K H p xs) (q : Q (.int (xs.length : Nat)) H) : rLen K [.ref p] H Q := ⟨_, _, rfl, .inr ⟨_, h, rfl⟩, q⟩
/-- xs[i], s[i] -/
theorem ixL {p : Addr} {xs : List V} (h : SqL K H p xs) (ha : atI xs i = some v) (q : Q v H) : rIx K (.ref p) (.int i) H Q := .inl ⟨p, xs, i, v, rfl, rfl, h, ha, q⟩
theorem ixT {p : Addr} {xs : List V} (h : SqT K H p xs) (ha : atI xs i = some v) (q : Q v H) : rIx K (.ref p) (.int i) H Q := .inr (.inl ⟨p, xs, i, v, rfl, rfl, h, ha, q⟩)
theorem ixS {s : Str} {c : Nat} (h : s.length ≤ sizeLine) (ha : atI s.cps.toList i = some c) (q : Q (.str ⟨#[c]⟩) H) : rIx K (.str s) (.int i) H Q := .inr (.inr ⟨s, i, c, rfl, rfl, h, ha, q⟩)
/-- o.f, o.f = v, o.m(..), C(..) -/
def FP (K : PySem.W.Frag) (f : Str) (x : V) (H : Hp) (Q : VK) : Prop := ∃ a C dx fs v, x = .ref a ∧ H a = some (.ins C dx fs) ∧ Cls K C ∧ NoAttr K C f ∧ fs.lookup f = some v ∧ Q v H
theorem fld {f : Str} (q : ta σ H fun x H1 => FP K f x H1 Q) : tFld K ta f σ H Q := q
theorem fp {f : Str} {a C dx : Addr} {fs : List (Str × V)} (h : H a = some (.ins C dx fs)) (c : Cls K C) (n : NoAttr K C f) (l : fs.lookup f = some v) (q : Q v H) : FP K f (.ref a) H Q := ⟨a, C, dx, fs, v, rfl, h, c, n, l, q⟩
def SFP (K : PySem.W.Frag) (f : Str) (y x : V) (D : Ends) (σ : L2.St) (H : Hp) : Prop := ∃ a C dx fs, x = .ref a ∧ H a = some (.ins C dx fs) ∧ Cls K C ∧ NoAttr K C f ∧ fs.length < 1000 ∧ D.nx σ (upd H a (.ins C dx (putF f y fs)))
theorem sfld {f : Str} (q : tv σ H fun y H1 => ta σ H1 fun x H2 => SFP K f y x D σ H2) : sFld K ta tv f D σ H := q
theorem sfp {f : Str} {a C dx : Addr} {fs gs : List (Str × V)} (h : H a = some (.ins C dx fs)) (c : Cls K C) (n : NoAttr K C f) (l : fs.length < 1000) (e : putF f y fs = gs) (q : D.nx σ (upd H a (.ins C dx gs))) : SFP K f y (.ref a) D σ H := ⟨a, C, dx, fs, rfl, h, c, n, l, by rw [e]; exact q⟩
theorem few {f : Str} {v : V} : ∀ {fs : List (Str × V)} {k : Nat}, fs.length ≤ k → (putF f v fs).length ≤ k + 1
  | [], k, _ => Nat.succ_le_succ (Nat.zero_le k)
  | (g, u) :: r, k, h => by
    unfold putF
    split
    · exact Nat.le_succ_of_le h
    · cases k with
      | zero => cases h
      | succ k => exact Nat.succ_le_succ (few (Nat.le_of_succ_le_succ h))
def MP (C : Addr) (m : Str) (sp : Sp) (dvs : List V) (E : XK) (t : TA) (σ : L2.St) (x : V) (H : Hp) (Q : VK) : Prop := ∃ a dx fs, x = .ref a ∧ H a = some (.ins C dx fs) ∧ fs.lookup m = none ∧ t σ H fun vs H2 => sp (x :: (vs ++ dvs)) H2 Q E
theorem meth {C : Addr} {m : Str} {sp : Sp} {dvs : List V} {E : XK} (q : ta σ H fun x H1 => MP C m sp dvs E tr σ x H1 Q) : tMeth C m sp dvs E ta tr σ H Q := q
theorem mp {C a dx : Addr} {m : Str} {sp : Sp} {dvs : List V} {E : XK} {fs : List (Str × V)} (h : H a = some (.ins C dx fs)) (n : fs.lookup m = none) (q : tr σ H fun vs H2 => CP sp (.ref a :: vs) dvs H2 Q E) : MP C m sp dvs E tr σ (.ref a) H Q := ⟨a, dx, fs, rfl, h, n, q⟩
def MkP (C : Addr) (sp : Sp) (vs dvs : List V) (H : Hp) (Q : VK) (E : XK) : Prop := ∀ x dx, H x = none → H dx = none → dx ≠ x → CP sp (.ref x :: vs) dvs (upd (upd H dx (.own x)) x (.ins C dx [])) (fun v H2 => v = .non ∧ Q (.ref x) H2) E
theorem make {C : Addr} {sp : Sp} {dvs : List V} {E : XK} (q : tr σ H fun vs H1 => MkP C sp vs dvs H1 Q E) : tMake C sp dvs E tr σ H Q := q
/-- [v] * n -/
def rRepN : R2 := fun x y H Q => ∃ l k xs, x = .ref l ∧ y = .int k ∧ H l = some (.lst xs) ∧ -(2 ^ 63) ≤ k ∧ k < 2 ^ 63 ∧ xs.length * k.toNat ≤ sizeLine ∧ ∀ p, H p = none → Q (.ref p) (upd H p (.lst (List.replicate k.toNat xs).flatten))
theorem repN {l : Addr} {n : Nat} (h : H l = some (.lst [v])) (hn : n ≤ 100000) (q : ∀ p, H p = none → Q (.ref p) (upd H p (.lst (List.replicate n v)))) : rRepN (.ref l) (.int (n : Int)) H Q :=
  ⟨l, n, [v], rfl, rfl, h, by omega, by omega, by rw [Int.toNat_natCast, sizeLine_eq]; show 1 * n ≤ _; omega, fun p hp => by
    rw [Int.toNat_natCast, show (List.replicate n [v]).flatten = List.replicate n v by simp]; exact q p hp⟩
/-- xs[i] op= e -/
def rGetN (K : PySem.W.Frag) : V → V → Hp → VK → Prop := fun x y H Q => ∃ (p : Addr) (xs : List V) (i : Nat) (v : V), x = .ref p ∧ y = .int (i : Int) ∧ SqL K H p xs ∧ i < 1000000 ∧ xs[i]? = some v ∧ Q v H
def AgP (tip : TIp) (tset : TSet) (o i x y : V) (D : Ends) (σ : L2.St) (H : Hp) : Prop := tip x y H fun z H5 => tset o i z H5 fun H6 => D.nx σ H6
theorem augS {tget : V → V → Hp → VK → Prop} {tip : TIp} {tset : TSet} (q : to σ H fun o H1 => ti σ H1 fun i H2 => tget o i H2 fun x H3 => te σ H3 fun y H4 => AgP tip tset o i x y D σ H4) : tAugS to ti te tget tip tset D σ H := q
theorem getN {p : Addr} {xs : List V} {i : Nat} (h : SqL K H p xs) (hi : i < 1000000) (hx : xs[i]? = some v) (q : Q v H) : rGetN K (.ref p) (.int (i : Int)) H Q := ⟨p, xs, i, v, rfl, rfl, h, hi, hx, q⟩
theorem agL {l : Addr} {xs : List V} {k : Nat} {f : Int → Int → Int} (h : H l = some (.lst xs)) (hk : k < xs.length) (q : D.nx σ (upd H l (.lst (xs.set k (.int (f i j)))))) : AgP (ipI f) rSetL (.ref l) (.int (k : Int)) (.int i) (.int j) D σ H :=
  ⟨i, j, rfl, rfl, l, xs, k, k, rfl, rfl, h, by unfold ixN; rw [if_pos (by omega), if_pos (by omega)]; rfl, q⟩
/-- o[i] = v -/
def SbP (ti : TE) (t : TSet) (v : V) (σ : L2.St) (o : V) (H : Hp) (R : L2.St → Hp → Prop) : Prop := ti σ H fun i H2 => t o i v H2 fun H3 => R σ H3
theorem sub {ts : TSet} {R : L2.St → Hp → Prop} (q : to σ H fun o H1 => SbP ti ts v σ o H1 R) : gSub to ti ts v σ H R := q
theorem sbp {ts : TSet} {R : L2.St → Hp → Prop} (q : ti σ H fun i H2 => ts x i v H2 fun H3 => R σ H3) : SbP ti ts v σ x H R := q
theorem setL {l : Addr} {xs : List V} {k : Int} {j : Nat} {R : Hp → Prop} (h : H l = some (.lst xs)) (hk : ixN xs.length k = some j) (q : R (upd H l (.lst (xs.set j v)))) : rSetL (.ref l) (.int k) v H R := ⟨l, xs, k, j, rfl, rfl, h, hk, q⟩
/-- slices -/
def PtP (x : V) (H : Hp) (R : Option Int → Hp → Prop) : Prop := ∃ i, x = .int i ∧ R (some i) H
theorem slc {r : V → Option Int → Option Int → Hp → VK → Prop} {tl th : TO} (q : te σ H fun x H1 => tl σ H1 fun a H2 => th σ H2 fun b H3 => r x a b H3 Q) : tSl r te tl th σ H Q := q
theorem noP {R : Option Int → Hp → Prop} (q : R none H) : tNoPart σ H R := q
theorem part {R : Option Int → Hp → Prop} (q : te σ H fun x H1 => PtP x H1 R) : tPart te σ H R := q
theorem ptp {R : Option Int → Hp → Prop} (q : R (some i) H) : PtP (.int i) H R := ⟨i, rfl, q⟩
theorem slS {z : Str} {lo hi : Option Int} (h : z.length ≤ sizeLine) (q : Q (.str (cutS z lo hi)) H) : rSlS (.str z) lo hi H Q := ⟨z, rfl, h, q⟩
/-- texts put together -/
def rCatS : R2 := fun x y H Q => ∃ i j, x = .str i ∧ y = .str j ∧ i.length + j.length ≤ sizeLine ∧ Q (.str (i ++ j)) H
theorem addS {a b : Str} (h : a.length + b.length ≤ sizeLine) (q : Q (.str (a ++ b)) H) : rCatS (.str a) (.str b) H Q := ⟨a, b, rfl, rfl, h, q⟩
theorem at_map {ns : List Int} {k : Nat} (h : k < ns.length) : atI (ns.map V.int) (k : Int) = some (.int (ns.getD k 0)) := by
  refine atI_nat ?_
  rw [List.getElem?_map, List.getElem?_eq_getElem h]
  simp [List.getD_eq_getElem?_getD, List.getElem?_eq_getElem h]
/-- methods of built-in types -/
def BmP (K : PySem.W.Frag) (T : String) (r : V → List V → Hp → VK → Prop) (t : TA) (σ : L2.St) (x : V) (H : Hp) (Q : VK) : Prop := tyV K T x H ∧ t σ H fun xs H2 => r x xs H2 Q
theorem bm {T : String} {r : V → List V → Hp → VK → Prop} (q : to σ H fun x H1 => BmP K T r tr σ x H1 Q) : tBM K T r to tr σ H Q := q
theorem bmS {T : String} {r : V → List V → Hp → VK → Prop} (h : tyV K T x H) (q : tr σ H fun xs H2 => r x xs H2 Q) : BmP K T r tr σ x H Q := ⟨h, q⟩
theorem app {l : Addr} {xs : List V} (h : H l = some (.lst xs)) (hz : xs.length < sizeLine) (q : Q .non (upd H l (.lst (xs ++ [y])))) : rAppend (.ref l) [y] H Q := ⟨l, xs, y, rfl, rfl, h, hz, q⟩
theorem tyL {p : Addr} {xs : List V} (h : SqL K H p xs) : tyV K "list" (.ref p) H := .inl ⟨rfl, _, h⟩
/-- what follows is shown once, from the word between -/
theorem cut {tz : TS} (M : L2.St → Hp → Prop) (h : tu { D with nx := M } σ H) (k : ∀ σ' H', M σ' H' → tz D σ' H') : C8.tCut tu tz D σ H := ⟨M, h, k⟩
/-- while: a word that falls -/
def WhI (W : Nat → L2.St → Hp → Prop) (m : Nat) (tb : TS) (D : Ends) (σ : L2.St) (b : Bool) (H : Hp) : Prop :=
  if b = true then ∃ N : L2.St → Hp → Prop, (∀ σ' H', N σ' H' → ∃ m', m' < m ∧ W m' σ' H') ∧ tb { D with nx := N, ct := N, bk := D.nx } σ H else D.nx σ H
theorem whI_t {W : Nat → L2.St → Hp → Prop} {m : Nat} (q : tu { D with nx := fun σ' H' => ∃ m', m' < m ∧ W m' σ' H', ct := fun σ' H' => ∃ m', m' < m ∧ W m' σ' H', bk := D.nx } σ H) : WhI W m tu D σ true H := by
  unfold WhI; rw [if_pos rfl]; exact ⟨_, fun _ _ h => h, q⟩
theorem whI_f {W : Nat → L2.St → Hp → Prop} {m : Nat} (q : D.nx σ H) : WhI W m tu D σ false H := by
  unfold WhI; rw [if_neg Bool.false_ne_true]; exact q
theorem whI_d {W : Nat → L2.St → Hp → Prop} {m : Nat} {p : Prop} [Decidable p] (q1 : p → WhI W m tu D σ true H) (q2 : ¬ p → WhI W m tu D σ false H) : WhI W m tu D σ (decide p) H := by
  by_cases h : p
  · rw [decide_eq_true h]; exact q1 h
  · rw [decide_eq_false h]; exact q2 h
theorem whI_b {W : Nat → L2.St → Hp → Prop} {m : Nat} (q1 : b = true → WhI W m tu D σ true H) (q2 : b = false → WhI W m tu D σ false H) : WhI W m tu D σ b H := by
  cases b with
  | true => exact q1 rfl
  | false => exact q2 rfl
theorem whl (W : Nat → L2.St → Hp → Prop) (m0 : Nat) (h0 : W m0 σ H) (hs : ∀ m σ' H', W m σ' H' → t σ' H' fun b H1 => WhI W m tu D σ' b H1) : tWhile t tu D σ H := ⟨W, ⟨m0, h0⟩, hs⟩
/-- any walk -/
theorem fw {J : It} {n : Nat} {G : Hp → Prop} {Y : Nat → Hp → V → Hp → Prop} {g : TG} (w : Walk J n G Y) (Pv : Nat → L2.St → Hp → Prop) (h0 : Pv 0 σ H) (hG : ∀ i σ H, i ≤ n → Pv i σ H → G H)
    (hs : ∀ i x σ H H', i < n → Pv i σ H → Y i H x H' → g x σ H' fun σ2 H2 => tu { D with nx := Pv (i + 1), ct := Pv (i + 1), bk := D.nx } σ2 H2) (hd : ∀ σ H, Pv n σ H → D.nx σ H) : FW J g tu D σ H := for_it w Pv h0 hG hs hd
def StrP (x : V) (H : Hp) (R : It → Hp → Prop) : Prop := ∃ z, x = .str z ∧ R (Its z) H
theorem strw {R : It → Hp → Prop} (q : te σ H fun x H1 => StrP x H1 R) : iStr te σ H R := q
theorem strp {z : Str} {R : It → Hp → Prop} (q : R (Its z) H) : StrP (.str z) H R := ⟨z, rfl, q⟩
/-- comprehensions -/
def LcP (J : It) (g : TG) (tt : TT) (te : TE) (vs : List Nat) (σ : L2.St) (Q : VK) (H1 : Hp) : Prop := ∀ D, H1 D = none → ∃ W : Nat → Nat → Hp → Prop, (∃ m, W 0 m (upd H1 D (.lst []))) ∧ ∀ i m H, W i m H →
  (J.stop i H ∧ Q (.ref D) H) ∨ (J.go i H ∧ ∃ Nx : Hp → Prop, (∀ H', Nx H' → ∃ m', m' < m ∧ W (i + 1) m' H') ∧ ∀ x H', J.yld i H x H' → g x (wipe σ vs) H' fun σ2 H2 => wipe σ2 vs = wipe σ vs ∧ tt σ2 H2 fun b H3 =>
    if b = true then te σ2 H3 fun y H4 => ∃ acc, H4 D = some (.lst acc) ∧ acc.length < sizeLine ∧ Nx (upd H4 D (.lst (acc ++ [y]))) else Nx H3)
theorem lc {wi : TI} {g : TG} {vs : List Nat} (q : wi σ H fun J H1 => LcP J g t te vs σ Q H1) : tLc wi g t te vs σ H Q := q
def WP (A B : Prop) : Prop := A ∧ B
theorem wp (h : A1) (q : A2) : WP A1 A2 := ⟨h, q⟩
theorem yes (q : B true H) : tYes σ H B := q
theorem same_up {H H' : Hp} {p : Addr} {o : HO} (h : H p = none) (s : Same H H') : Same H (upd H' p o) := fun a u e => by rw [upd_ne (ne_of_none e h)]; exact s a u e
theorem same_new {H : Hp} {p : Addr} {o : HO} (h : H p = none) : Same H (upd H p o) := same_up h (Same.refl H)
theorem snoc {H : Hp} {p : Addr} {xs : List Int} {z : Int} : upd H p (.lst (xs.map V.int ++ [.int z])) p = some (.lst ((xs ++ [z]).map V.int)) := by rw [upd_same, List.map_append]; rfl
/-- a comprehension whose turns leave what stands: the list of the turns that are kept -/
theorem lcFil {J : It} {n : Nat} {G : Hp → Prop} {Y : Nat → Hp → V → Hp → Prop} {g : TG} {vs : List Nat} (w : Walk J n G Y) (hn : n < 16777216) (c : Nat → Bool) (f : Nat → V) (hG : ∀ H', Same H H' → G H') (hY : ∀ i H x H', Y i H x H' → Same H H')
    (hs : ∀ i x H1 H' (R : V → Hp → Prop) (R0 : Hp → Prop), i < n → Same H H1 → Y i H1 x H' → (c i = true → ∀ H4, Same H' H4 → R (f i) H4) → (c i = false → ∀ H4, Same H' H4 → R0 H4) →
      g x (wipe σ vs) H' fun σ2 H2 => WP (wipe σ2 vs = wipe σ vs) (t σ2 H2 fun b H3 => IfP b (te σ2 H3 R) (R0 H3)))
    (q : ∀ p H2, H p = none → Same H H2 → H2 p = some (.lst (((List.range n).filter c).map f)) → Q (.ref p) H2) : LcP J g t te vs σ Q H := fun p hp => by
  refine lc_it w (fun i H' => Same H H' ∧ H' p = some (.lst (((List.range i).filter c).map f))) ⟨same_new hp, upd_same⟩ (fun i H' _ h => hG H' h.1) (fun i x H1 H' hi h y => ?_) (fun H' h => q p H' hp h.1 h.2)
  obtain ⟨h1, h2⟩ := h
  have s1 := hY i H1 x H' y
  refine hs i x H1 H' _ _ hi h1 y (fun hc H4 s4 => ⟨_, s4 _ _ (s1 _ _ h2), ?_, same_up hp (h1.trans (s1.trans s4)), ?_⟩) (fun hc H4 s4 => ⟨h1.trans (s1.trans s4), ?_⟩)
  · rw [List.length_map]
    have := List.length_filter_le c (List.range i)
    rw [List.length_range] at this
    rw [sizeLine_eq]; omega
  · rw [upd_same, List.range_succ, List.filter_append, List.map_append, List.filter_cons, if_pos hc]; rfl
  · rw [List.range_succ, List.filter_append, List.map_append, List.filter_cons, if_neg (by rw [hc]; decide)]
    rw [s4 _ _ (s1 _ _ h2)]; simp
theorem lcMap {J : It} {n : Nat} {G : Hp → Prop} {Y : Nat → Hp → V → Hp → Prop} {g : TG} {vs : List Nat} (w : Walk J n G Y) (hn : n < 16777216) (f : Nat → V) (hG : ∀ H', Same H H' → G H') (hY : ∀ i H x H', Y i H x H' → Same H H')
    (hs : ∀ i x H1 H' (R : V → Hp → Prop) (R0 : Hp → Prop), i < n → Same H H1 → Y i H1 x H' → (∀ H4, Same H' H4 → R (f i) H4) →
      g x (wipe σ vs) H' fun σ2 H2 => WP (wipe σ2 vs = wipe σ vs) (t σ2 H2 fun b H3 => IfP b (te σ2 H3 R) (R0 H3)))
    (q : ∀ p H2, H p = none → Same H H2 → H2 p = some (.lst ((List.range n).map f)) → Q (.ref p) H2) : LcP J g t te vs σ Q H := by
  refine lcFil w hn (fun _ => true) f hG hY (fun i x H1 H' R R0 hi h1 y hr _ => hs i x H1 H' R R0 hi h1 y (hr rfl)) ?_
  rw [List.filter_eq_self.mpr (fun _ _ => rfl)]
  exact q
theorem sameFn {f : Nat → V} : ∀ i H x H', YFn f i H x H' → Same H H' := fun _ _ _ _ y => y.1 ▸ Same.refl _
theorem sameAt {xs : List V} : ∀ i H x H', YAt xs i H x H' → Same H H' := fun _ _ _ _ y => y.1 ▸ Same.refl _
/-- reversed ranges -/
def RrP (a b : Int) (H : Hp) (R : It → Hp → Prop) : Prop := -(2 ^ 62) ≤ a ∧ a < 2 ^ 62 ∧ -(2 ^ 62) ≤ b ∧ b < 2 ^ 62 ∧ R (Itc (a + (((b - a).toNat : Nat) : Int) - 1) (-1) (b - a).toNat) H
def Rg1P (x : V) (H : Hp) (R : Int → Int → Hp → Prop) : Prop := ∃ j, x = .int j ∧ R 0 j H
theorem rrv {tr : L2.St → Hp → (Int → Int → Hp → Prop) → Prop} {R : It → Hp → Prop} (q : tr σ H fun a b H1 => RrP a b H1 R) : iRevR tr σ H R := q
theorem rr {a b : Int} {R : It → Hp → Prop} (h : -(2 ^ 62) ≤ a ∧ a < 2 ^ 62 ∧ -(2 ^ 62) ≤ b ∧ b < 2 ^ 62) (q : R (Itc (a + (((b - a).toNat : Nat) : Int) - 1) (-1) (b - a).toNat) H) : RrP a b H R := ⟨h.1, h.2.1, h.2.2.1, h.2.2.2, q⟩
theorem rg1 {R : Int → Int → Hp → Prop} (q : ta σ H fun x H1 => Rg1P x H1 R) : tRg1 ta σ H R := q
theorem rg1p {R : Int → Int → Hp → Prop} (q : R 0 j H) : Rg1P (.int j) H R := ⟨j, rfl, q⟩
/-- isinstance with a built-in class -/
theorem isi {n : String} {tv : Value} (ty : TyX K H x tv) (q : Q (.bl b) H) (e : PySem.W.kitOne K tv (.type n) = some b) : rIsi K [x, .ty n] H Q := ⟨x, .ty n, tv, .type n, b, rfl, .ty n, ty, e, q⟩
theorem isiI {n : String} (q : Q (.bl b) H) (e : kitB "int" n = some b) : rIsi K [.int i, .ty n] H Q := isi (.base (.int i)) q (kit_ty e)
theorem isiS {n : String} {z : Str} (q : Q (.bl b) H) (e : kitB "str" n = some b) : rIsi K [.str z, .ty n] H Q := isi (.base (.str z)) q (kit_ty e)
theorem isiB {n : String} {k : Bool} (q : Q (.bl b) H) (e : kitB "bool" n = some b) : rIsi K [.bl k, .ty n] H Q := isi (.base (.bl k)) q (kit_ty e)
theorem isiN {n : String} (q : Q (.bl b) H) (e : kitB "NoneType" n = some b) : rIsi K [.non, .ty n] H Q := isi (.base .non) q (kit_ty e)
/-- == of lists of ints -/
theorem eqvAll_int : ∀ xs ys : List Int, PyData.eqvAll (xs.map .int) (ys.map .int) = decide (xs = ys)
  | [], [] => by simp [PyData.eqvAll]
  | [], _ :: _ => by simp [PyData.eqvAll]
  | _ :: _, [] => by simp [PyData.eqvAll]
  | x :: xs, y :: ys => by
    simp only [List.map_cons, PyData.eqvAll, PyData.eqv, eqvAll_int xs ys]
    by_cases h : x = y
    · subst h; simp
    · simp [h]
theorem canLay_ints : ∀ xs : List Int, PyData.canLayAll0 (xs.map .int) = true
  | [] => rfl
  | _ :: xs => by simp [PyData.canLayAll0, PyData.canLay0, canLay_ints xs]
theorem depth_ints : ∀ xs : List Int, PyData.depthAll (xs.map .int) = 0
  | [] => rfl
  | _ :: xs => by simp [PyData.depthAll, PyData.depth, depth_ints xs]
theorem shaped_ints (xs : List Int) : SeqAt.shaped (.list (xs.map .int)) = true := by
  simp [SeqAt.shaped, PyData.canLay0, PyData.depth, canLay_ints, depth_ints]
theorem shaped_tints (xs : List Int) : SeqAt.shaped (.tuple (xs.map .int)) = true := by
  simp [SeqAt.shaped, PyData.canLay0, PyData.depth, canLay_ints, depth_ints]
theorem dpAll_int : ∀ xs : List Int, DpAll K H (xs.map V.int) (xs.map PyData.int)
  | [] => .nil
  | x :: xs => .cons (.int x) (dpAll_int xs)
theorem eqDI {p q' : Addr} {xs ys : List Int} (h1 : SqL K H p (xs.map V.int)) (h2 : SqL K H q' (ys.map V.int)) (q : Q (.bl (decide (xs = ys))) H) : rEqD K (.ref p) (.ref q') H Q :=
  ⟨_, _, .lst h1 (dpAll_int xs), .lst h2 (dpAll_int ys), shaped_ints xs, shaped_ints ys, by rw [show PyData.eqv (.list (xs.map .int)) (.list (ys.map .int)) = decide (xs = ys) from eqvAll_int xs ys]; exact q⟩
theorem neDI {p q' : Addr} {xs ys : List Int} (h1 : SqL K H p (xs.map V.int)) (h2 : SqL K H q' (ys.map V.int)) (q : Q (.bl (!decide (xs = ys))) H) : rNeD K (.ref p) (.ref q') H Q :=
  ⟨_, _, .lst h1 (dpAll_int xs), .lst h2 (dpAll_int ys), shaped_ints xs, shaped_ints ys, by rw [show PyData.eqv (.list (xs.map .int)) (.list (ys.map .int)) = decide (xs = ys) from eqvAll_int xs ys]; exact q⟩
theorem eqDT {p q' : Addr} {xs ys : List Int} (h1 : SqT K H p (xs.map V.int)) (h2 : SqT K H q' (ys.map V.int)) (q : Q (.bl (decide (xs = ys))) H) : rEqD K (.ref p) (.ref q') H Q :=
  ⟨_, _, .tup h1 (dpAll_int xs), .tup h2 (dpAll_int ys), shaped_tints xs, shaped_tints ys, by rw [show PyData.eqv (.tuple (xs.map .int)) (.tuple (ys.map .int)) = decide (xs = ys) from eqvAll_int xs ys]; exact q⟩
theorem neDT {p q' : Addr} {xs ys : List Int} (h1 : SqT K H p (xs.map V.int)) (h2 : SqT K H q' (ys.map V.int)) (q : Q (.bl (!decide (xs = ys))) H) : rNeD K (.ref p) (.ref q') H Q :=
  ⟨_, _, .tup h1 (dpAll_int xs), .tup h2 (dpAll_int ys), shaped_tints xs, shaped_tints ys, by rw [show PyData.eqv (.tuple (xs.map .int)) (.tuple (ys.map .int)) = decide (xs = ys) from eqvAll_int xs ys]; exact q⟩
/-- all, any, sum, list(..) of a list -/
theorem allP {p : Addr} {bs : List Bool} (h : SqL K H p (bs.map V.bl)) (q : Q (.bl (bs.all id)) H) : L2.rAll K [.ref p] H Q := ⟨p, bs, rfl, h, q⟩
theorem anyP {p : Addr} {bs : List Bool} (h : SqL K H p (bs.map V.bl)) (q : Q (.bl (bs.any id)) H) : L2.rAny K [.ref p] H Q := ⟨p, bs, rfl, h, q⟩
theorem sumP {p : Addr} {ns : List Int} (h : SqL K H p (ns.map V.int)) (q : Q (.int ns.sum) H) : L2.rSum K [.ref p] H Q := ⟨p, ns, rfl, h, q⟩
def rList (K : PySem.W.Frag) : List V → Hp → VK → Prop := fun xs H Q => ∃ p ys, xs = [.ref p] ∧ (SqL K H p ys ∨ SqT K H p ys) ∧ ∀ l, H l = none → Q (.ref l) (upd H l (.lst ys))
theorem listL {p : Addr} {xs : List V} (h : SqL K H p xs) (q : ∀ l, H l = none → Q (.ref l) (upd H l (.lst xs))) : rList K [.ref p] H Q := ⟨p, xs, rfl, .inl h, q⟩
theorem listT {p : Addr} {xs : List V} (h : SqT K H p xs) (q : ∀ l, H l = none → Q (.ref l) (upd H l (.lst xs))) : rList K [.ref p] H Q := ⟨p, xs, rfl, .inr h, q⟩
theorem up_seq {p l : Addr} {xs : List V} {o : HO} (h : SqL K H p xs) (hl : H l = none) : SqL K (upd H l o) p xs := (same_new hl).seq h
end
section
variable {X : Cx}
theorem o_rep : OpR X (binaryOp .Mult) rRepN := op_rep
theorem pget_list : PGet X (rGetN X.K) := by
  intro pins s σ H o i ov iv Q I ro ri h
  obtain ⟨p, xs, k, v, rfl, rfl, hq, hk, hx, q⟩ := h
  cases ro
  obtain ⟨t, rfl⟩ := ri
  obtain ⟨its, r, pl, hz⟩ := I.list hq
  obtain ⟨w, ew, rw'⟩ := r.get hx
  exact wpAny_getItem_list pl.isList (by omega) (by omega) (by rw [Int.toNat_natCast]; simpa using ew) ⟨v, H, I, rw', q⟩
theorem o_addS : OpR X (binaryOp .Add) rCatS := op_add_str
theorem c_list : CallR X (.type "list") (rList X.K) := call_list_of
theorem c_int : CallR X (.type "int") rInt1 := call_int1
theorem c_abs : CallR X (.builtin "abs") rAbs := call_abs
theorem c_strI : CallR X (.type "str") rStrI := call_str_int
theorem c_len : CallR X (.builtin "len") (rLen X.K) := call_len
end
end Gx
local macro_rules | `(tactic| walk_at "few") => `(tactic| (refine Nat.lt_of_le_of_lt (m := 30) ?_ (by decide); repeat (first | exact Nat.zero_le _ | refine Gx.few ?_)))
local macro_rules | `(tactic| walk_at "side") => `(tactic| ((try dsimp only [L2.CMul, L2.CDiv, L2.CPow, L2.CDivN]); first | omega | decide | assumption))
local macro_rules | `(tactic| walk_at "go1") => `(tactic| (first
  | with_reducible refine Gx.seq ?_
  | with_reducible refine Gx.asg ?_
  | with_reducible refine Gx.op ?_
  | ((with_reducible refine' Gx.var ?h0 ?_); (case h0 => rfl))
  | with_reducible refine Gx.cst ?_
  | with_reducible refine Gx.i0 ?_
  | with_reducible refine Gx.name ?_
  | with_reducible refine Gx.cons ?_
  | with_reducible refine Gx.nil ?_
  | with_reducible refine Gx.call ?_
  | with_reducible refine Gx.cb ?_
  | with_reducible refine Gx.int1 ?_
  | with_reducible refine Gx.intB ?_
  | with_reducible refine Gx.abs1 ?_
  | with_reducible refine Gx.un ?_
  | with_reducible refine Gx.uu ?_
  | with_reducible refine Gx.ifs ?_
  | with_reducible refine Gx.ifx ?_
  | with_reducible refine Gx.test ?_
  | with_reducible refine Gx.tB ?_
  | with_reducible refine Gx.tb_go ?_
  | with_reducible refine Gx.bv_go ?_
  | with_reducible refine Gx.and_ ?_
  | with_reducible refine Gx.or_ ?_
  | with_reducible refine Gx.not_ ?_
  | with_reducible refine Gx.andV ?_
  | with_reducible refine Gx.orV ?_
  | with_reducible refine Gx.notV ?_
  | with_reducible refine Gx.eqvI ?_
  | with_reducible refine Gx.nevI ?_
  | with_reducible refine Gx.eqvS ?_
  | with_reducible refine Gx.nevS ?_
  | with_reducible refine Gx.ret ?_
  | with_reducible refine Gx.retN ?_
  | with_reducible refine Gx.drop ?_
  | with_reducible refine Gx.next ?_
  | with_reducible refine Gx.brk ?_
  | with_reducible refine Gx.cnt ?_
  | with_reducible refine Gx.if_t ?_
  | with_reducible refine Gx.if_f ?_
  | with_reducible refine Gx.if_nt ?_
  | with_reducible refine Gx.whI_t ?_
  | with_reducible refine Gx.whI_f ?_
  | with_reducible refine Gx.if_nf ?_
  | with_reducible refine Gx.for_ ?_
  | with_reducible refine Gx.rng1 ?_
  | with_reducible refine Gx.rng2 ?_
  | with_reducible refine Gx.lwk ?_
  | with_reducible refine Gx.lst ?_
  | with_reducible refine Gx.tup ?_
  | with_reducible refine Gx.bm ?_
  | with_reducible refine Gx.lc ?_
  | with_reducible refine Gx.strw ?_
  | with_reducible refine Gx.strp ?_
  | with_reducible refine Gx.fld ?_
  | with_reducible refine Gx.sfld ?_
  | with_reducible refine Gx.meth ?_
  | with_reducible refine Gx.make ?_
  | with_reducible refine Gx.augS ?_
  | with_reducible refine Gx.sub ?_
  | with_reducible refine Gx.slc ?_
  | with_reducible refine Gx.noP ?_
  | with_reducible refine Gx.part ?_
  | with_reducible refine Gx.ptp ?_
  | with_reducible refine Gx.sbp ?_
  | ((with_reducible refine' Gx.wp ?h0 ?_); (case h0 => rfl))
  | with_reducible refine Gx.yes ?_
  | with_reducible refine Gx.rrv ?_
  | with_reducible refine Gx.rg1 ?_
  | with_reducible refine Gx.rg1p ?_
  | ((with_reducible refine' Gx.aug ?h0 ?_); (case h0 => rfl))
  | with_reducible refine Gx.augI ?_))
local macro_rules | `(tactic| walk_at "go") => `(tactic| repeat walk_at "go1")

namespace Bx
open PySem L2
/-- a box of drawn digits: the list b holds the list p of ints and a place; all of H0 stands beside -/
structure Box (H0 H : Hp) (b p : Addr) (xs : List Int) : Prop where
  same : Same H0 H
  nb : H0 b = none
  np : H0 p = none
  bx : ∃ k : Nat, H b = some (.lst [.ref p, .int (k : Int)])
  dg : H p = some (.lst (xs.map V.int))
theorem Box.ne {H0 H : Hp} {b p : Addr} {xs : List Int} (B : Box H0 H b p xs) : p ≠ b := by
  obtain ⟨k, hk⟩ := B.bx
  intro e
  rw [← e, B.dg] at hk
  have h := Option.some.inj hk
  cases xs with
  | nil => cases h
  | cons x xs => cases h
/-- a new object beside -/
theorem Box.new {H0 H : Hp} {b p c : Addr} {xs : List Int} {o : HO} (B : Box H0 H b p xs) (hc : H c = none) : Box (upd H0 c o) (upd H c o) b p xs := by
  obtain ⟨k, hk⟩ := B.bx
  have h1 : b ≠ c := ne_of_none hk hc
  have h2 : p ≠ c := ne_of_none B.dg hc
  refine ⟨fun a u e => ?_, by rw [upd_ne h1]; exact B.nb, by rw [upd_ne h2]; exact B.np, ⟨k, by rw [upd_ne h1]; exact hk⟩, by rw [upd_ne h2]; exact B.dg⟩
  by_cases ha : a = c
  · subst ha; rw [upd_same] at e ⊢; exact e
  · rw [upd_ne ha] at e ⊢; exact B.same a u e
/-- what was made beside, in a heap that keeps all -/
theorem Box.keep {H0 H H' : Hp} {b p : Addr} {xs : List Int} (B : Box H0 H b p xs) (s : Same H H') : Box H0 H' b p xs := by
  obtain ⟨k, hk⟩ := B.bx
  exact ⟨B.same.trans s, B.nb, B.np, ⟨k, s _ _ hk⟩, s _ _ B.dg⟩
end Bx

namespace Bs
open PySem L2
/-- a bit string as a text of the signs 0 and 1 -/
def cd (b : Bool) : Nat := if b then 49 else 48
def S (bs : List Bool) : Str := ⟨(bs.map cd).toArray⟩
theorem cd_inj {a b : Bool} (h : cd a = cd b) : a = b := by cases a <;> cases b <;> first | rfl | (exact absurd h (by decide))
theorem len (bs : List Bool) : (S bs).length = bs.length := by simp [S, Str.length]
theorem cat (a b : List Bool) : S a ++ S b = S (a ++ b) := by
  show Str.mk ((a.map cd).toArray ++ (b.map cd).toArray) = Str.mk ((a ++ b).map cd).toArray
  rw [List.map_append]; simp
theorem inj {a b : List Bool} : S a = S b ↔ a = b := by
  constructor
  · intro h
    have h2 : a.map cd = b.map cd := congrArg (fun x : Str => x.cps.toList) h
    exact List.map_inj_right (f := cd) (fun _ _ => cd_inj) |>.mp h2
  · intro h; rw [h]
theorem lit0 : Str.ofString "0" = S [false] := by decide +kernel
theorem lit1 : Str.ofString "1" = S [true] := by decide +kernel
theorem lit11 : Str.ofString "11" = S [true, true] := by decide +kernel
theorem lit_ : Str.ofString "" = S [] := by decide +kernel
theorem eq1 (b : Bool) : decide (S [b] = Str.ofString "1") = b := by
  rw [lit1]; cases b
  · exact decide_eq_false (fun h => absurd (inj.mp h) (by decide))
  · exact decide_eq_true rfl
theorem eq0 (b : Bool) : decide (S [b] = Str.ofString "0") = !b := by
  rw [lit0]; cases b
  · exact decide_eq_true rfl
  · exact decide_eq_false (fun h => absurd (inj.mp h) (by decide))
theorem at_ {bs : List Bool} {i : Nat} (h : i < bs.length) : atI (S bs).cps.toList (i : Int) = some (cd (bs.getD i false)) := by
  refine atI_nat ?_
  show (bs.map cd)[i]? = _
  rw [List.getElem?_map, List.getElem?_eq_getElem h]
  simp [List.getD_eq_getElem?_getD, List.getElem?_eq_getElem h]
theorem get_ {bs : List Bool} {i : Nat} (h : i < bs.length) : (S bs).cps[i]? = some (cd (bs.getD i false)) := by
  show ((bs.map cd).toArray)[i]? = _
  rw [List.getElem?_toArray, List.getElem?_map, List.getElem?_eq_getElem h]
  simp [List.getD_eq_getElem?_getD, List.getElem?_eq_getElem h]
section
variable {K : PySem.W.Frag} {H : Hp} {Q : VK}
theorem ix {bs : List Bool} {i : Int} (h0 : 0 ≤ i) (h1 : i < bs.length) (hz : bs.length ≤ 16777216) (q : Q (.str (S [bs.getD i.toNat false])) H) : rIx K (.str (S bs)) (.int i) H Q := by
  have e : i = (i.toNat : Int) := by omega
  rw [e]
  refine Gx.ixS (by rw [len, sizeLine_eq]; exact hz) (at_ (by omega)) ?_
  exact q
theorem lenB {bs : List Bool} (hz : bs.length ≤ 16777216) (q : Q (.int (bs.length : Nat)) H) : Gx.rLen K [.str (S bs)] H Q := by
  refine Gx.lenS (by rw [len, sizeLine_eq]; exact hz) ?_
  rw [len]; exact q
theorem strbit {r : Int} (h : r = 0 ∨ r = 1) (q : ∀ c : Bool, Q (.str (S [c])) H) : Gx.rStrI [.int r] H Q := by
  rcases h with h | h
  · subst h
    refine Gx.strI (by decide) ?_
    rw [show (toString (0 : Int) : Str) = S [false] by decide +kernel]
    exact q _
  · subst h
    refine Gx.strI (by decide) ?_
    rw [show (toString (1 : Int) : Str) = S [true] by decide +kernel]
    exact q _
end
theorem cut_hi (bs : List Bool) (n : Nat) : cutS (S bs) none (some (n : Int)) = S (bs.take n) := by
  unfold cutS
  have e1 : HT.sIx (S bs).length 0 none = 0 := rfl
  have e2 : HT.sIx (S bs).length (S bs).length (some (n : Int)) = min n bs.length := by
    rw [len]; unfold HT.sIx
    first
      | omega
      | (simp only []; split <;> omega)
      | (split <;> omega)
  rw [e1, e2]
  show Str.mk (List.take (min n bs.length - 0) ((bs.map cd).drop 0)).toArray = Str.mk ((bs.take n).map cd).toArray
  rw [List.drop_zero, Nat.sub_zero, ← List.map_take]
  congr 3
  rw [← List.take_take, List.take_length]
theorem cut_lo (bs : List Bool) (n : Nat) : cutS (S bs) (some (n : Int)) none = S (bs.drop n) := by
  unfold cutS
  have e1 : HT.sIx (S bs).length 0 (some (n : Int)) = min n bs.length := by
    rw [len]; unfold HT.sIx
    first
      | omega
      | (simp only []; split <;> omega)
      | (split <;> omega)
  have e2 : HT.sIx (S bs).length (S bs).length none = bs.length := by rw [len]; rfl
  rw [e1, e2]
  show Str.mk (List.take (bs.length - min n bs.length) ((bs.map cd).drop (min n bs.length))).toArray = Str.mk ((bs.drop n).map cd).toArray
  rw [← List.map_drop, ← List.map_take]
  congr 3
  by_cases h : n ≤ bs.length
  · rw [Nat.min_eq_left h, List.take_of_length_le (by rw [List.length_drop]; omega)]
  · rw [Nat.min_eq_right (by omega), List.drop_eq_nil_of_le (Nat.le_refl _), List.drop_eq_nil_of_le (by omega), List.take_nil]
end Bs

namespace Cx_
open PySem L2
def bt (bs : List Bool) (i : Int) : Bool := bs.getD i.toNat false
/-- the context of a place (the document's four neighbours) -/
def ctx (w : Nat) (bs : List Bool) (n : Nat) : Nat :=
  (if n % w ≠ 0 ∧ bs.getD (n - 1) false = true then 1 else 0) + (if w ≤ n then (if n % w ≠ 0 ∧ bs.getD (n - w - 1) false = true then 2 else 0) + (if bs.getD (n - w) false = true then 4 else 0) + (if n % w < w - 1 ∧ bs.getD (n - w + 1) false = true then 8 else 0) else 0)
theorem ctx_lt (w : Nat) (bs : List Bool) (n : Nat) : ctx w bs n < 16 := by
  unfold ctx
  split <;> split <;> (try split) <;> (try split) <;> (try split) <;> omega
/-- it hangs on the bits before the place alone -/
theorem ctx_same {w n : Nat} {bs cs : List Bool} (hw : 0 < w) (h : ∀ i, i < n → bs.getD i false = cs.getD i false) : ctx w bs n = ctx w cs n := by
  unfold ctx
  by_cases h0 : n = 0
  · subst h0
    simp [Nat.zero_mod, show ¬ w = 0 by omega]
  rw [h (n - 1) (by omega)]
  by_cases hwn : w ≤ n
  · rw [if_pos hwn, if_pos hwn, h (n - w - 1) (by omega), h (n - w) (by omega)]
    by_cases hc : n % w < w - 1
    · rw [h (n - w + 1) (by omega)]
    · rw [if_neg (c := n % w < w - 1 ∧ bs.getD (n - w + 1) false = true) (fun z => hc z.1), if_neg (c := n % w < w - 1 ∧ cs.getD (n - w + 1) false = true) (fun z => hc z.1)]
  · rw [if_neg hwn, if_neg hwn]
theorem getD_take {bs : List Bool} {n i : Nat} (h : i < n) : (bs.take n).getD i false = bs.getD i false := by
  rw [List.getD_eq_getElem?_getD, List.getD_eq_getElem?_getD, List.getElem?_take_of_lt h]
theorem ctx_take {w n : Nat} {bs : List Bool} (hw : 0 < w) (hn : n ≤ bs.length) : ctx w (bs.take n) n = ctx w bs n := ctx_same hw fun i h => getD_take h
theorem ctx_more {w n : Nat} {bs cs : List Bool} (hw : 0 < w) (hn : n ≤ bs.length) : ctx w (bs.take n ++ cs) n = ctx w bs n := ctx_same hw fun i h => by
  rw [List.getD_eq_getElem?_getD, List.getElem?_append_left (by rw [List.length_take]; omega), ← List.getD_eq_getElem?_getD, getD_take h]
end Cx_

namespace Iv
open PySem L2 Cx_
/-- how often the bit b came in the context c before place n -/
def cnt (w : Nat) (bs : List Bool) (b : Bool) : Nat → Nat → Nat
  | 0, _ => 0
  | n + 1, c => cnt w bs b n c + if ctx w bs n = c ∧ bs.getD n false = b then 1 else 0
/-- the interval of the first n bits: low, size, whole -/
def iv (w : Nat) (bs : List Bool) : Nat → Nat × Nat × Nat
  | 0 => (0, 1, 1)
  | n + 1 =>
    let l := (iv w bs n).1
    let s := (iv w bs n).2.1
    let h := (iv w bs n).2.2
    let z := 1 + cnt w bs false n (ctx w bs n)
    let o := 1 + cnt w bs true n (ctx w bs n)
    if bs.getD n false = true then (l * (z + o) + s * z, s * o, h * (z + o)) else (l * (z + o), s * z, h * (z + o))
theorem cnt_le (w : Nat) (bs : List Bool) (b : Bool) : ∀ n c, cnt w bs b n c ≤ n
  | 0, _ => Nat.le_refl _
  | n + 1, c => by
    have h := cnt_le w bs b n c
    unfold cnt
    split <;> omega
theorem cnt_same {w : Nat} {bs cs : List Bool} {b : Bool} (hw : 0 < w) : ∀ n c, (∀ i, i < n → bs.getD i false = cs.getD i false) → cnt w bs b n c = cnt w cs b n c
  | 0, _, _ => rfl
  | n + 1, c, h => by
    unfold cnt
    rw [cnt_same hw n c fun i hi => h i (by omega), ctx_same hw fun i hi => h i (by omega), h n (by omega)]
theorem iv_same {w : Nat} {bs cs : List Bool} (hw : 0 < w) : ∀ n, (∀ i, i < n → bs.getD i false = cs.getD i false) → iv w bs n = iv w cs n
  | 0, _ => rfl
  | n + 1, h => by
    unfold iv
    rw [iv_same hw n fun i hi => h i (by omega), cnt_same hw n _ fun i hi => h i (by omega), cnt_same hw n _ fun i hi => h i (by omega), ctx_same hw fun i hi => h i (by omega), h n (by omega)]
theorem getD_app {bs cs : List Bool} {i : Nat} (h : i < bs.length) : (bs ++ cs).getD i false = bs.getD i false := by
  rw [List.getD_eq_getElem?_getD, List.getElem?_append_left h, ← List.getD_eq_getElem?_getD]
theorem getD_len {bs cs : List Bool} {b : Bool} : (bs ++ b :: cs).getD bs.length false = b := by
  rw [List.getD_eq_getElem?_getD, List.getElem?_append_right (Nat.le_refl _), Nat.sub_self]; rfl
/-- the counts of one context after all of some bits -/
def zs (w : Nat) (bs : List Bool) (c : Nat) : Nat := 1 + cnt w bs false bs.length c
def os (w : Nat) (bs : List Bool) (c : Nat) : Nat := 1 + cnt w bs true bs.length c
def lo (w : Nat) (bs : List Bool) : Nat := (iv w bs bs.length).1
def sz (w : Nat) (bs : List Bool) : Nat := (iv w bs bs.length).2.1
def wh (w : Nat) (bs : List Bool) : Nat := (iv w bs bs.length).2.2
/-- the context of the next bit -/
def nx (w : Nat) (bs : List Bool) : Nat := ctx w bs bs.length
def both (w : Nat) (bs : List Bool) : Nat := zs w bs (nx w bs) + os w bs (nx w bs)
section
variable {w : Nat} {bs : List Bool} {b : Bool} (hw : 0 < w)
include hw
theorem app_same (cs : List Bool) : ∀ i, i < bs.length → (bs ++ cs).getD i false = bs.getD i false := fun i hi => getD_app hi
theorem cnt_app (c : Nat) (b' : Bool) : cnt w (bs ++ [b]) b' (bs ++ [b]).length c = cnt w bs b' bs.length c + if nx w bs = c ∧ b = b' then 1 else 0 := by
  rw [List.length_append, List.length_singleton]
  show cnt w (bs ++ [b]) b' bs.length c + (if ctx w (bs ++ [b]) bs.length = c ∧ (bs ++ [b]).getD bs.length false = b' then 1 else 0) = _
  rw [cnt_same hw _ c (app_same hw [b]), ctx_same hw (app_same hw [b]), getD_len]; rfl
theorem zs_app (c : Nat) : zs w (bs ++ [b]) c = zs w bs c + if nx w bs = c ∧ b = false then 1 else 0 := by
  unfold zs; rw [cnt_app hw]; omega
theorem os_app (c : Nat) : os w (bs ++ [b]) c = os w bs c + if nx w bs = c ∧ b = true then 1 else 0 := by
  unfold os; rw [cnt_app hw]; omega
theorem iv_app : iv w (bs ++ [b]) (bs ++ [b]).length = if b = true then (lo w bs * both w bs + sz w bs * zs w bs (nx w bs), sz w bs * os w bs (nx w bs), wh w bs * both w bs) else (lo w bs * both w bs, sz w bs * zs w bs (nx w bs), wh w bs * both w bs) := by
  rw [List.length_append, List.length_singleton]
  rw [iv, iv_same hw bs.length (app_same hw [b]), cnt_same hw _ _ (app_same hw [b]), cnt_same hw _ _ (app_same hw [b]), ctx_same hw (app_same hw [b]), getD_len]
  rfl
theorem lo_app : lo w (bs ++ [b]) = lo w bs * both w bs + if b = true then sz w bs * zs w bs (nx w bs) else 0 := by
  unfold lo; rw [iv_app hw]; cases b <;> simp [lo]
theorem sz_app : sz w (bs ++ [b]) = if b = true then sz w bs * os w bs (nx w bs) else sz w bs * zs w bs (nx w bs) := by
  unfold sz; rw [iv_app hw]; cases b <;> simp [sz]
theorem wh_app : wh w (bs ++ [b]) = wh w bs * both w bs := by
  unfold wh; rw [iv_app hw]; cases b <;> simp [wh]
end
/-- the lists of counts as they stand -/
def zl (w : Nat) (bs : List Bool) : List V := (List.range 16).map fun c => .int (zs w bs c : Nat)
def ol (w : Nat) (bs : List Bool) : List V := (List.range 16).map fun c => .int (os w bs c : Nat)
theorem zl_get {w : Nat} {bs : List Bool} {c : Nat} (h : c < 16) : (zl w bs)[c]? = some (.int (zs w bs c : Nat)) := by
  unfold zl; rw [List.getElem?_map, List.getElem?_range h]; rfl
theorem ol_get {w : Nat} {bs : List Bool} {c : Nat} (h : c < 16) : (ol w bs)[c]? = some (.int (os w bs c : Nat)) := by
  unfold ol; rw [List.getElem?_map, List.getElem?_range h]; rfl
theorem set_map {f g : Nat → V} {n k : Nat} {v : V} (hk : g k = v) (h : ∀ c, c ≠ k → g c = f c) : ((List.range n).map f).set k v = (List.range n).map g := by
  apply List.ext_getElem?
  intro i
  rw [List.getElem?_set, List.getElem?_map, List.getElem?_map, List.length_map, List.length_range]
  by_cases hi : k = i
  · subst hi
    rw [if_pos rfl]
    by_cases hn : k < n
    · rw [if_pos hn, List.getElem?_range hn]; rw [← hk]; rfl
    · rw [if_neg hn, List.getElem?_eq_none (by rw [List.length_range]; omega)]; rfl
  · rw [if_neg hi]
    by_cases hn : i < n
    · rw [List.getElem?_range hn]; simp only [Option.map_some]; rw [h i (Ne.symm hi)]
    · rw [List.getElem?_eq_none (by rw [List.length_range]; omega)]; rfl
theorem zl_app0 {w : Nat} {bs : List Bool} (hw : 0 < w) : (zl w bs).set (nx w bs) (.int ((zs w bs (nx w bs) : Nat) + 1)) = zl w (bs ++ [false]) :=
  set_map (by rw [zs_app hw, if_pos ⟨rfl, rfl⟩]; rfl) fun c hc => by rw [zs_app hw, if_neg (fun z => hc z.1.symm)]; rfl
theorem zl_app1 {w : Nat} {bs : List Bool} (hw : 0 < w) : zl w bs = zl w (bs ++ [true]) :=
  List.map_congr_left fun c _ => by rw [zs_app hw, if_neg (fun z => absurd z.2 (by decide))]; rfl
theorem ol_app1 {w : Nat} {bs : List Bool} (hw : 0 < w) : (ol w bs).set (nx w bs) (.int ((os w bs (nx w bs) : Nat) + 1)) = ol w (bs ++ [true]) :=
  set_map (by rw [os_app hw, if_pos ⟨rfl, rfl⟩]; rfl) fun c hc => by rw [os_app hw, if_neg (fun z => hc z.1.symm)]; rfl
theorem ol_app0 {w : Nat} {bs : List Bool} (hw : 0 < w) : ol w bs = ol w (bs ++ [false]) :=
  List.map_congr_left fun c _ => by rw [os_app hw, if_neg (fun z => absurd z.2 (by decide))]; rfl
theorem nil_zl (w : Nat) : List.replicate 16 (V.int 1) = zl w [] := rfl
theorem nil_ol (w : Nat) : List.replicate 16 (V.int 1) = ol w [] := rfl
theorem zs_le (w : Nat) (bs : List Bool) (c : Nat) : 1 ≤ zs w bs c ∧ zs w bs c ≤ bs.length + 1 := by
  have := cnt_le w bs false bs.length c
  unfold zs; omega
theorem os_le (w : Nat) (bs : List Bool) (c : Nat) : 1 ≤ os w bs c ∧ os w bs c ≤ bs.length + 1 := by
  have := cnt_le w bs true bs.length c
  unfold os; omega
section
variable {w n : Nat} {bs : List Bool}
theorem take_same (i : Nat) (h : i < n) : (bs.take n).getD i false = bs.getD i false := getD_take h
theorem nx_take (hw : 0 < w) (hn : n ≤ bs.length) : nx w (bs.take n) = ctx w bs n := by
  unfold nx; rw [List.length_take, Nat.min_eq_left hn]; exact ctx_take hw hn
theorem zs_take (hw : 0 < w) (hn : n ≤ bs.length) (c : Nat) : zs w (bs.take n) c = 1 + cnt w bs false n c := by
  unfold zs; rw [List.length_take, Nat.min_eq_left hn, cnt_same hw n c fun i hi => take_same i hi]
theorem os_take (hw : 0 < w) (hn : n ≤ bs.length) (c : Nat) : os w (bs.take n) c = 1 + cnt w bs true n c := by
  unfold os; rw [List.length_take, Nat.min_eq_left hn, cnt_same hw n c fun i hi => take_same i hi]
/-- counts from 0, as a list -/
def cl (w : Nat) (bs : List Bool) (b : Bool) (n : Nat) : List V := (List.range 16).map fun c => .int (cnt w bs b n c : Nat)
theorem cl_at {w : Nat} {bs : List Bool} {b : Bool} {n c : Nat} (h : c < 16) : atI (cl w bs b n) (c : Int) = some (.int (cnt w bs b n c : Nat)) := by
  refine atI_nat ?_
  unfold cl; rw [List.getElem?_map, List.getElem?_range h]; rfl
theorem cl_set {b : Bool} (hb : bs.getD n false = b) : (cl w bs b n).set (ctx w bs n) (.int ((cnt w bs b n (ctx w bs n) : Nat) + 1)) = cl w bs b (n + 1) :=
  set_map (by show V.int ((cnt w bs b n (ctx w bs n) + if ctx w bs n = ctx w bs n ∧ bs.getD n false = b then 1 else 0 : Nat) : Int) = _; rw [if_pos ⟨rfl, hb⟩]; rfl)
    fun c hc => by show V.int ((cnt w bs b n c + if ctx w bs n = c ∧ bs.getD n false = b then 1 else 0 : Nat) : Int) = _; rw [if_neg (fun z => hc z.1.symm)]; rfl
theorem cl_keep {b : Bool} (hb : ¬ bs.getD n false = b) : cl w bs b n = cl w bs b (n + 1) :=
  List.map_congr_left fun c _ => by show _ = V.int ((cnt w bs b n c + if ctx w bs n = c ∧ bs.getD n false = b then 1 else 0 : Nat) : Int); rw [if_neg (fun z => hb z.2)]; rfl
theorem ixN_nat {n j : Nat} (hj : j < n) : ixN n (j : Int) = some j := by
  unfold ixN
  rw [if_pos (by omega), if_pos (by omega)]
  simp
theorem cl_len {b : Bool} : (cl w bs b n).length = 16 := by unfold cl; rw [List.length_map, List.length_range]
end
theorem iv_one {w n : Nat} {bs : List Bool} (h : bs.getD n false = true) :
    (((iv w bs (n + 1)).1 : Nat) : Int) = ((iv w bs n).1 : Nat) * (((cnt w bs false n (ctx w bs n) : Nat) : Int) + (cnt w bs true n (ctx w bs n) : Nat) + 2) + ((iv w bs n).2.1 : Nat) * (((cnt w bs false n (ctx w bs n) : Nat) : Int) + 1) ∧
    (((iv w bs (n + 1)).2.1 : Nat) : Int) = ((iv w bs n).2.1 : Nat) * (((cnt w bs true n (ctx w bs n) : Nat) : Int) + 1) ∧
    (((iv w bs (n + 1)).2.2 : Nat) : Int) = ((iv w bs n).2.2 : Nat) * (((cnt w bs false n (ctx w bs n) : Nat) : Int) + (cnt w bs true n (ctx w bs n) : Nat) + 2) := by
  have e : ∀ a b : Nat, (((1 + a + (1 + b) : Nat)) : Int) = (a : Int) + (b : Int) + 2 := fun a b => by omega
  have e1 : ∀ a : Nat, (((1 + a : Nat)) : Int) = (a : Int) + 1 := fun a => by omega
  rw [iv, if_pos h]
  simp only []
  rw [Int.natCast_add, Int.natCast_mul, Int.natCast_mul, Int.natCast_mul, Int.natCast_mul, e, e1, e1]
  exact ⟨rfl, rfl, rfl⟩
theorem iv_zero {w n : Nat} {bs : List Bool} (h : ¬ bs.getD n false = true) :
    (((iv w bs (n + 1)).1 : Nat) : Int) = ((iv w bs n).1 : Nat) * (((cnt w bs false n (ctx w bs n) : Nat) : Int) + (cnt w bs true n (ctx w bs n) : Nat) + 2) ∧
    (((iv w bs (n + 1)).2.1 : Nat) : Int) = ((iv w bs n).2.1 : Nat) * (((cnt w bs false n (ctx w bs n) : Nat) : Int) + 1) ∧
    (((iv w bs (n + 1)).2.2 : Nat) : Int) = ((iv w bs n).2.2 : Nat) * (((cnt w bs false n (ctx w bs n) : Nat) : Int) + (cnt w bs true n (ctx w bs n) : Nat) + 2) := by
  have e : ∀ a b : Nat, (((1 + a + (1 + b) : Nat)) : Int) = (a : Int) + (b : Int) + 2 := fun a b => by omega
  have e1 : ∀ a : Nat, (((1 + a : Nat)) : Int) = (a : Int) + 1 := fun a => by omega
  rw [iv, if_neg h]
  simp only []
  rw [Int.natCast_mul, Int.natCast_mul, Int.natCast_mul, e, e1]
  exact ⟨rfl, rfl, rfl⟩
end Iv

namespace My
open PySem L2
def top (i : Nat) : Stmt := PySem.Challenge.pw_packetpicture_k17_interval_of_bits.main.body.getD i (.Pass ⟨0, 0, 0, 0⟩)
abbrev s_law_draw : Stmt := top 11
abbrev s_law_bits : Stmt := top 13
abbrev s_Coding_interval : Stmt := inClass (top 4) 2
abbrev s_Coding___init__ : Stmt := inClass (top 4) 0
abbrev s_context : Stmt := top 3
abbrev s_Coding_take : Stmt := inClass (top 4) 4
abbrev s_coding_of : Stmt := top 5
abbrev s_interval : Stmt := top 7
abbrev s_law_context : Stmt := top 14
abbrev s_law_interval : Stmt := top 15
abbrev s_law_cell : Stmt := top 9
abbrev s_law_digits : Stmt := top 10
abbrev s_Coding_shares : Stmt := inClass (top 4) 1
abbrev s_shares : Stmt := top 6
abbrev s_law_shares : Stmt := top 16
abbrev s_law_is_integer : Stmt := top 12
abbrev s_law : Stmt := top 17
/-- a def of the text as it stands behind the top -/
structure DefAt (K : PySem.W.Frag) (mg : Str → Option Value) (x : Str) (st : Stmt) (ps : List Str) where
  a : Addr
  d : FuncData
  f : Fun K x x st a d
  g : mg x = some (.ref a)
  b : Binds K d ps []
structure MethAt (K : PySem.W.Frag) (C : Addr) (x q : Str) (st : Stmt) (ps : List Str) where
  a : Addr
  d : FuncData
  f : Fun K x q st a d
  b : Binds K d ps []
  m : Meth K C x a
structure Tx (K : PySem.W.Frag) (mg : Str → Option Value) where
  a_Coding : Addr
  cl_Coding : Cls K a_Coding
  g_Coding : mg "Coding" = some (.ref a_Coding)
  mk_Coding : PySem.W.makesIn K a_Coding = true
  kp_Coding : PySem.W.keepIn K (.ref a_Coding) = true
  na_Coding_bits : NoAttr K a_Coding "bits"
  na_Coding__width : NoAttr K a_Coding "_width"
  na_Coding__low : NoAttr K a_Coding "_low"
  na_Coding__size : NoAttr K a_Coding "_size"
  na_Coding__whole : NoAttr K a_Coding "_whole"
  na_Coding__zeros : NoAttr K a_Coding "_zeros"
  na_Coding__ones : NoAttr K a_Coding "_ones"
  law_draw : DefAt K mg "_law_draw" s_law_draw ["box", "many"]
  law_bits : DefAt K mg "_law_bits" s_law_bits ["box", "many"]
  Coding_interval : MethAt K a_Coding "interval" "Coding.interval" s_Coding_interval ["self"]
  Coding___init__ : MethAt K a_Coding "__init__" "Coding.__init__" s_Coding___init__ ["self", "width"]
  context : DefAt K mg "context" s_context ["width", "bits", "place"]
  Coding_take : MethAt K a_Coding "take" "Coding.take" s_Coding_take ["self", "bit"]
  coding_of : DefAt K mg "coding_of" s_coding_of ["width", "bits"]
  interval : DefAt K mg "interval" s_interval ["width", "bits"]
  law_context : DefAt K mg "_law_context" s_law_context ["width", "bits", "place"]
  law_interval : DefAt K mg "_law_interval" s_law_interval ["width", "bits"]
  law_cell : DefAt K mg "_law_cell" s_law_cell ["script", "k"]
  law_digits : DefAt K mg "_law_digits" s_law_digits ["script", "first", "last"]
  Coding_shares : MethAt K a_Coding "shares" "Coding.shares" s_Coding_shares ["self"]
  shares : DefAt K mg "shares" s_shares ["width", "bits", "place"]
  law_shares : DefAt K mg "_law_shares" s_law_shares ["width", "bits", "place"]
  law_is_integer : DefAt K mg "_law_is_integer" s_law_is_integer ["actual"]
  law : DefAt K mg "law" s_law ["script"]
  n_bool : mg "bool" = none
  n_int : mg "int" = none
  n_isinstance : mg "isinstance" = none
  n_len : mg "len" = none
  n_range : mg "range" = none
  n_str : mg "str" = none
  n_tuple : mg "tuple" = none
  t_CONTEXTS : Tok
  c_CONTEXTS : mg "CONTEXTS" = some (.int 16 t_CONTEXTS)
section
variable {P : Program} {w : World} {K : PySem.W.Frag} {mg : Str → Option Value} {base : Heap}
def fl_Coding (v0 v1 v2 v3 v4 v5 v6 : V) : List (Str × V) := [("bits", v0), ("_width", v1), ("_low", v2), ("_size", v3), ("_whole", v4), ("_zeros", v5), ("_ones", v6)]
theorem ne_Coding_bits___width : ((Str.ofString "bits") = Str.ofString "_width") = False := eq_false (by decide +kernel)
theorem ne_Coding_bits___low : ((Str.ofString "bits") = Str.ofString "_low") = False := eq_false (by decide +kernel)
theorem ne_Coding_bits___size : ((Str.ofString "bits") = Str.ofString "_size") = False := eq_false (by decide +kernel)
theorem ne_Coding_bits___whole : ((Str.ofString "bits") = Str.ofString "_whole") = False := eq_false (by decide +kernel)
theorem ne_Coding_bits___zeros : ((Str.ofString "bits") = Str.ofString "_zeros") = False := eq_false (by decide +kernel)
theorem ne_Coding_bits___ones : ((Str.ofString "bits") = Str.ofString "_ones") = False := eq_false (by decide +kernel)
theorem ne_Coding_bits____init__ : ((Str.ofString "bits") = Str.ofString "__init__") = False := eq_false (by decide +kernel)
theorem ne_Coding_bits__shares : ((Str.ofString "bits") = Str.ofString "shares") = False := eq_false (by decide +kernel)
theorem ne_Coding_bits__interval : ((Str.ofString "bits") = Str.ofString "interval") = False := eq_false (by decide +kernel)
theorem ne_Coding_bits__border : ((Str.ofString "bits") = Str.ofString "border") = False := eq_false (by decide +kernel)
theorem ne_Coding_bits__take : ((Str.ofString "bits") = Str.ofString "take") = False := eq_false (by decide +kernel)
theorem ne_Coding__width__bits : ((Str.ofString "_width") = Str.ofString "bits") = False := eq_false (by decide +kernel)
theorem ne_Coding__width___low : ((Str.ofString "_width") = Str.ofString "_low") = False := eq_false (by decide +kernel)
theorem ne_Coding__width___size : ((Str.ofString "_width") = Str.ofString "_size") = False := eq_false (by decide +kernel)
theorem ne_Coding__width___whole : ((Str.ofString "_width") = Str.ofString "_whole") = False := eq_false (by decide +kernel)
theorem ne_Coding__width___zeros : ((Str.ofString "_width") = Str.ofString "_zeros") = False := eq_false (by decide +kernel)
theorem ne_Coding__width___ones : ((Str.ofString "_width") = Str.ofString "_ones") = False := eq_false (by decide +kernel)
theorem ne_Coding__width____init__ : ((Str.ofString "_width") = Str.ofString "__init__") = False := eq_false (by decide +kernel)
theorem ne_Coding__width__shares : ((Str.ofString "_width") = Str.ofString "shares") = False := eq_false (by decide +kernel)
theorem ne_Coding__width__interval : ((Str.ofString "_width") = Str.ofString "interval") = False := eq_false (by decide +kernel)
theorem ne_Coding__width__border : ((Str.ofString "_width") = Str.ofString "border") = False := eq_false (by decide +kernel)
theorem ne_Coding__width__take : ((Str.ofString "_width") = Str.ofString "take") = False := eq_false (by decide +kernel)
theorem ne_Coding__low__bits : ((Str.ofString "_low") = Str.ofString "bits") = False := eq_false (by decide +kernel)
theorem ne_Coding__low___width : ((Str.ofString "_low") = Str.ofString "_width") = False := eq_false (by decide +kernel)
theorem ne_Coding__low___size : ((Str.ofString "_low") = Str.ofString "_size") = False := eq_false (by decide +kernel)
theorem ne_Coding__low___whole : ((Str.ofString "_low") = Str.ofString "_whole") = False := eq_false (by decide +kernel)
theorem ne_Coding__low___zeros : ((Str.ofString "_low") = Str.ofString "_zeros") = False := eq_false (by decide +kernel)
theorem ne_Coding__low___ones : ((Str.ofString "_low") = Str.ofString "_ones") = False := eq_false (by decide +kernel)
theorem ne_Coding__low____init__ : ((Str.ofString "_low") = Str.ofString "__init__") = False := eq_false (by decide +kernel)
theorem ne_Coding__low__shares : ((Str.ofString "_low") = Str.ofString "shares") = False := eq_false (by decide +kernel)
theorem ne_Coding__low__interval : ((Str.ofString "_low") = Str.ofString "interval") = False := eq_false (by decide +kernel)
theorem ne_Coding__low__border : ((Str.ofString "_low") = Str.ofString "border") = False := eq_false (by decide +kernel)
theorem ne_Coding__low__take : ((Str.ofString "_low") = Str.ofString "take") = False := eq_false (by decide +kernel)
theorem ne_Coding__size__bits : ((Str.ofString "_size") = Str.ofString "bits") = False := eq_false (by decide +kernel)
theorem ne_Coding__size___width : ((Str.ofString "_size") = Str.ofString "_width") = False := eq_false (by decide +kernel)
theorem ne_Coding__size___low : ((Str.ofString "_size") = Str.ofString "_low") = False := eq_false (by decide +kernel)
theorem ne_Coding__size___whole : ((Str.ofString "_size") = Str.ofString "_whole") = False := eq_false (by decide +kernel)
theorem ne_Coding__size___zeros : ((Str.ofString "_size") = Str.ofString "_zeros") = False := eq_false (by decide +kernel)
theorem ne_Coding__size___ones : ((Str.ofString "_size") = Str.ofString "_ones") = False := eq_false (by decide +kernel)
theorem ne_Coding__size____init__ : ((Str.ofString "_size") = Str.ofString "__init__") = False := eq_false (by decide +kernel)
theorem ne_Coding__size__shares : ((Str.ofString "_size") = Str.ofString "shares") = False := eq_false (by decide +kernel)
theorem ne_Coding__size__interval : ((Str.ofString "_size") = Str.ofString "interval") = False := eq_false (by decide +kernel)
theorem ne_Coding__size__border : ((Str.ofString "_size") = Str.ofString "border") = False := eq_false (by decide +kernel)
theorem ne_Coding__size__take : ((Str.ofString "_size") = Str.ofString "take") = False := eq_false (by decide +kernel)
theorem ne_Coding__whole__bits : ((Str.ofString "_whole") = Str.ofString "bits") = False := eq_false (by decide +kernel)
theorem ne_Coding__whole___width : ((Str.ofString "_whole") = Str.ofString "_width") = False := eq_false (by decide +kernel)
theorem ne_Coding__whole___low : ((Str.ofString "_whole") = Str.ofString "_low") = False := eq_false (by decide +kernel)
theorem ne_Coding__whole___size : ((Str.ofString "_whole") = Str.ofString "_size") = False := eq_false (by decide +kernel)
theorem ne_Coding__whole___zeros : ((Str.ofString "_whole") = Str.ofString "_zeros") = False := eq_false (by decide +kernel)
theorem ne_Coding__whole___ones : ((Str.ofString "_whole") = Str.ofString "_ones") = False := eq_false (by decide +kernel)
theorem ne_Coding__whole____init__ : ((Str.ofString "_whole") = Str.ofString "__init__") = False := eq_false (by decide +kernel)
theorem ne_Coding__whole__shares : ((Str.ofString "_whole") = Str.ofString "shares") = False := eq_false (by decide +kernel)
theorem ne_Coding__whole__interval : ((Str.ofString "_whole") = Str.ofString "interval") = False := eq_false (by decide +kernel)
theorem ne_Coding__whole__border : ((Str.ofString "_whole") = Str.ofString "border") = False := eq_false (by decide +kernel)
theorem ne_Coding__whole__take : ((Str.ofString "_whole") = Str.ofString "take") = False := eq_false (by decide +kernel)
theorem ne_Coding__zeros__bits : ((Str.ofString "_zeros") = Str.ofString "bits") = False := eq_false (by decide +kernel)
theorem ne_Coding__zeros___width : ((Str.ofString "_zeros") = Str.ofString "_width") = False := eq_false (by decide +kernel)
theorem ne_Coding__zeros___low : ((Str.ofString "_zeros") = Str.ofString "_low") = False := eq_false (by decide +kernel)
theorem ne_Coding__zeros___size : ((Str.ofString "_zeros") = Str.ofString "_size") = False := eq_false (by decide +kernel)
theorem ne_Coding__zeros___whole : ((Str.ofString "_zeros") = Str.ofString "_whole") = False := eq_false (by decide +kernel)
theorem ne_Coding__zeros___ones : ((Str.ofString "_zeros") = Str.ofString "_ones") = False := eq_false (by decide +kernel)
theorem ne_Coding__zeros____init__ : ((Str.ofString "_zeros") = Str.ofString "__init__") = False := eq_false (by decide +kernel)
theorem ne_Coding__zeros__shares : ((Str.ofString "_zeros") = Str.ofString "shares") = False := eq_false (by decide +kernel)
theorem ne_Coding__zeros__interval : ((Str.ofString "_zeros") = Str.ofString "interval") = False := eq_false (by decide +kernel)
theorem ne_Coding__zeros__border : ((Str.ofString "_zeros") = Str.ofString "border") = False := eq_false (by decide +kernel)
theorem ne_Coding__zeros__take : ((Str.ofString "_zeros") = Str.ofString "take") = False := eq_false (by decide +kernel)
theorem ne_Coding__ones__bits : ((Str.ofString "_ones") = Str.ofString "bits") = False := eq_false (by decide +kernel)
theorem ne_Coding__ones___width : ((Str.ofString "_ones") = Str.ofString "_width") = False := eq_false (by decide +kernel)
theorem ne_Coding__ones___low : ((Str.ofString "_ones") = Str.ofString "_low") = False := eq_false (by decide +kernel)
theorem ne_Coding__ones___size : ((Str.ofString "_ones") = Str.ofString "_size") = False := eq_false (by decide +kernel)
theorem ne_Coding__ones___whole : ((Str.ofString "_ones") = Str.ofString "_whole") = False := eq_false (by decide +kernel)
theorem ne_Coding__ones___zeros : ((Str.ofString "_ones") = Str.ofString "_zeros") = False := eq_false (by decide +kernel)
theorem ne_Coding__ones____init__ : ((Str.ofString "_ones") = Str.ofString "__init__") = False := eq_false (by decide +kernel)
theorem ne_Coding__ones__shares : ((Str.ofString "_ones") = Str.ofString "shares") = False := eq_false (by decide +kernel)
theorem ne_Coding__ones__interval : ((Str.ofString "_ones") = Str.ofString "interval") = False := eq_false (by decide +kernel)
theorem ne_Coding__ones__border : ((Str.ofString "_ones") = Str.ofString "border") = False := eq_false (by decide +kernel)
theorem ne_Coding__ones__take : ((Str.ofString "_ones") = Str.ofString "take") = False := eq_false (by decide +kernel)
theorem put_Coding_bits {v0 v1 v2 v3 v4 v5 v6 : V} {z : V} : putF "bits" z (fl_Coding v0 v1 v2 v3 v4 v5 v6) = fl_Coding z v1 v2 v3 v4 v5 v6 := by
  simp only [fl_Coding, putF, if_false, if_true, reduceIte]
theorem lk_Coding_bits {v0 v1 v2 v3 v4 v5 v6 : V} : (fl_Coding v0 v1 v2 v3 v4 v5 v6).lookup ("bits" : Str) = some v0 := by
  have h := lookup_putF "bits" "bits" v0 (fl_Coding v0 v1 v2 v3 v4 v5 v6)
  rw [put_Coding_bits, if_pos rfl] at h
  exact h
theorem put_Coding__width {v0 v1 v2 v3 v4 v5 v6 : V} {z : V} : putF "_width" z (fl_Coding v0 v1 v2 v3 v4 v5 v6) = fl_Coding v0 z v2 v3 v4 v5 v6 := by
  simp only [fl_Coding, putF, ne_Coding_bits___width, if_false, if_true, reduceIte]
theorem lk_Coding__width {v0 v1 v2 v3 v4 v5 v6 : V} : (fl_Coding v0 v1 v2 v3 v4 v5 v6).lookup ("_width" : Str) = some v1 := by
  have h := lookup_putF "_width" "_width" v1 (fl_Coding v0 v1 v2 v3 v4 v5 v6)
  rw [put_Coding__width, if_pos rfl] at h
  exact h
theorem put_Coding__low {v0 v1 v2 v3 v4 v5 v6 : V} {z : V} : putF "_low" z (fl_Coding v0 v1 v2 v3 v4 v5 v6) = fl_Coding v0 v1 z v3 v4 v5 v6 := by
  simp only [fl_Coding, putF, ne_Coding_bits___low, ne_Coding__width___low, if_false, if_true, reduceIte]
theorem lk_Coding__low {v0 v1 v2 v3 v4 v5 v6 : V} : (fl_Coding v0 v1 v2 v3 v4 v5 v6).lookup ("_low" : Str) = some v2 := by
  have h := lookup_putF "_low" "_low" v2 (fl_Coding v0 v1 v2 v3 v4 v5 v6)
  rw [put_Coding__low, if_pos rfl] at h
  exact h
theorem put_Coding__size {v0 v1 v2 v3 v4 v5 v6 : V} {z : V} : putF "_size" z (fl_Coding v0 v1 v2 v3 v4 v5 v6) = fl_Coding v0 v1 v2 z v4 v5 v6 := by
  simp only [fl_Coding, putF, ne_Coding_bits___size, ne_Coding__width___size, ne_Coding__low___size, if_false, if_true, reduceIte]
theorem lk_Coding__size {v0 v1 v2 v3 v4 v5 v6 : V} : (fl_Coding v0 v1 v2 v3 v4 v5 v6).lookup ("_size" : Str) = some v3 := by
  have h := lookup_putF "_size" "_size" v3 (fl_Coding v0 v1 v2 v3 v4 v5 v6)
  rw [put_Coding__size, if_pos rfl] at h
  exact h
theorem put_Coding__whole {v0 v1 v2 v3 v4 v5 v6 : V} {z : V} : putF "_whole" z (fl_Coding v0 v1 v2 v3 v4 v5 v6) = fl_Coding v0 v1 v2 v3 z v5 v6 := by
  simp only [fl_Coding, putF, ne_Coding_bits___whole, ne_Coding__width___whole, ne_Coding__low___whole, ne_Coding__size___whole, if_false, if_true, reduceIte]
theorem lk_Coding__whole {v0 v1 v2 v3 v4 v5 v6 : V} : (fl_Coding v0 v1 v2 v3 v4 v5 v6).lookup ("_whole" : Str) = some v4 := by
  have h := lookup_putF "_whole" "_whole" v4 (fl_Coding v0 v1 v2 v3 v4 v5 v6)
  rw [put_Coding__whole, if_pos rfl] at h
  exact h
theorem put_Coding__zeros {v0 v1 v2 v3 v4 v5 v6 : V} {z : V} : putF "_zeros" z (fl_Coding v0 v1 v2 v3 v4 v5 v6) = fl_Coding v0 v1 v2 v3 v4 z v6 := by
  simp only [fl_Coding, putF, ne_Coding_bits___zeros, ne_Coding__width___zeros, ne_Coding__low___zeros, ne_Coding__size___zeros, ne_Coding__whole___zeros, if_false, if_true, reduceIte]
theorem lk_Coding__zeros {v0 v1 v2 v3 v4 v5 v6 : V} : (fl_Coding v0 v1 v2 v3 v4 v5 v6).lookup ("_zeros" : Str) = some v5 := by
  have h := lookup_putF "_zeros" "_zeros" v5 (fl_Coding v0 v1 v2 v3 v4 v5 v6)
  rw [put_Coding__zeros, if_pos rfl] at h
  exact h
theorem put_Coding__ones {v0 v1 v2 v3 v4 v5 v6 : V} {z : V} : putF "_ones" z (fl_Coding v0 v1 v2 v3 v4 v5 v6) = fl_Coding v0 v1 v2 v3 v4 v5 z := by
  simp only [fl_Coding, putF, ne_Coding_bits___ones, ne_Coding__width___ones, ne_Coding__low___ones, ne_Coding__size___ones, ne_Coding__whole___ones, ne_Coding__zeros___ones, if_false, if_true, reduceIte]
theorem lk_Coding__ones {v0 v1 v2 v3 v4 v5 v6 : V} : (fl_Coding v0 v1 v2 v3 v4 v5 v6).lookup ("_ones" : Str) = some v6 := by
  have h := lookup_putF "_ones" "_ones" v6 (fl_Coding v0 v1 v2 v3 v4 v5 v6)
  rw [put_Coding__ones, if_pos rfl] at h
  exact h
theorem len_Coding {v0 v1 v2 v3 v4 v5 v6 : V} : (fl_Coding v0 v1 v2 v3 v4 v5 v6).length = 7 := rfl
theorem few_Coding {v0 v1 v2 v3 v4 v5 v6 : V} : (fl_Coding v0 v1 v2 v3 v4 v5 v6).length < 1000 := by
  show 7 < 1000
  decide
theorem ini_Coding {v0 v1 v2 v3 v4 v5 v6 : V} : putF "_ones" v6 (putF "_zeros" v5 (putF "_whole" v4 (putF "_size" v3 (putF "_low" v2 (putF "_width" v1 (putF "bits" v0 [])))))) = fl_Coding v0 v1 v2 v3 v4 v5 v6 := by
  simp only [fl_Coding, putF, ne_Coding_bits___width, ne_Coding_bits___low, ne_Coding_bits___size, ne_Coding_bits___whole, ne_Coding_bits___zeros, ne_Coding_bits___ones, ne_Coding__width___low, ne_Coding__width___size, ne_Coding__width___whole, ne_Coding__width___zeros, ne_Coding__width___ones, ne_Coding__low___size, ne_Coding__low___whole, ne_Coding__low___zeros, ne_Coding__low___ones, ne_Coding__size___whole, ne_Coding__size___zeros, ne_Coding__size___ones, ne_Coding__whole___zeros, ne_Coding__whole___ones, ne_Coding__zeros___ones, if_false, if_true, reduceIte]
theorem no_Coding___init__ {v0 v1 v2 v3 v4 v5 v6 : V} : (fl_Coding v0 v1 v2 v3 v4 v5 v6).lookup ("__init__" : Str) = none := by
  have q : ∀ (g : Str) (u : V) (r : List (Str × V)), ¬ g = "__init__" → List.lookup (Str.ofString "__init__") ((g, u) :: r) = List.lookup (Str.ofString "__init__") r := fun g u r h => by
    have hb : ((Str.ofString "__init__") == g) = false := beq_eq_false_iff_ne.mpr (fun z => h z.symm)
    simp only [List.lookup, hb]
  unfold fl_Coding
  rw [q _ _ _ (by rw [ne_Coding_bits____init__]; exact id), q _ _ _ (by rw [ne_Coding__width____init__]; exact id), q _ _ _ (by rw [ne_Coding__low____init__]; exact id), q _ _ _ (by rw [ne_Coding__size____init__]; exact id), q _ _ _ (by rw [ne_Coding__whole____init__]; exact id), q _ _ _ (by rw [ne_Coding__zeros____init__]; exact id), q _ _ _ (by rw [ne_Coding__ones____init__]; exact id)]
  rfl
theorem no_Coding_shares {v0 v1 v2 v3 v4 v5 v6 : V} : (fl_Coding v0 v1 v2 v3 v4 v5 v6).lookup ("shares" : Str) = none := by
  have q : ∀ (g : Str) (u : V) (r : List (Str × V)), ¬ g = "shares" → List.lookup (Str.ofString "shares") ((g, u) :: r) = List.lookup (Str.ofString "shares") r := fun g u r h => by
    have hb : ((Str.ofString "shares") == g) = false := beq_eq_false_iff_ne.mpr (fun z => h z.symm)
    simp only [List.lookup, hb]
  unfold fl_Coding
  rw [q _ _ _ (by rw [ne_Coding_bits__shares]; exact id), q _ _ _ (by rw [ne_Coding__width__shares]; exact id), q _ _ _ (by rw [ne_Coding__low__shares]; exact id), q _ _ _ (by rw [ne_Coding__size__shares]; exact id), q _ _ _ (by rw [ne_Coding__whole__shares]; exact id), q _ _ _ (by rw [ne_Coding__zeros__shares]; exact id), q _ _ _ (by rw [ne_Coding__ones__shares]; exact id)]
  rfl
theorem no_Coding_interval {v0 v1 v2 v3 v4 v5 v6 : V} : (fl_Coding v0 v1 v2 v3 v4 v5 v6).lookup ("interval" : Str) = none := by
  have q : ∀ (g : Str) (u : V) (r : List (Str × V)), ¬ g = "interval" → List.lookup (Str.ofString "interval") ((g, u) :: r) = List.lookup (Str.ofString "interval") r := fun g u r h => by
    have hb : ((Str.ofString "interval") == g) = false := beq_eq_false_iff_ne.mpr (fun z => h z.symm)
    simp only [List.lookup, hb]
  unfold fl_Coding
  rw [q _ _ _ (by rw [ne_Coding_bits__interval]; exact id), q _ _ _ (by rw [ne_Coding__width__interval]; exact id), q _ _ _ (by rw [ne_Coding__low__interval]; exact id), q _ _ _ (by rw [ne_Coding__size__interval]; exact id), q _ _ _ (by rw [ne_Coding__whole__interval]; exact id), q _ _ _ (by rw [ne_Coding__zeros__interval]; exact id), q _ _ _ (by rw [ne_Coding__ones__interval]; exact id)]
  rfl
theorem no_Coding_border {v0 v1 v2 v3 v4 v5 v6 : V} : (fl_Coding v0 v1 v2 v3 v4 v5 v6).lookup ("border" : Str) = none := by
  have q : ∀ (g : Str) (u : V) (r : List (Str × V)), ¬ g = "border" → List.lookup (Str.ofString "border") ((g, u) :: r) = List.lookup (Str.ofString "border") r := fun g u r h => by
    have hb : ((Str.ofString "border") == g) = false := beq_eq_false_iff_ne.mpr (fun z => h z.symm)
    simp only [List.lookup, hb]
  unfold fl_Coding
  rw [q _ _ _ (by rw [ne_Coding_bits__border]; exact id), q _ _ _ (by rw [ne_Coding__width__border]; exact id), q _ _ _ (by rw [ne_Coding__low__border]; exact id), q _ _ _ (by rw [ne_Coding__size__border]; exact id), q _ _ _ (by rw [ne_Coding__whole__border]; exact id), q _ _ _ (by rw [ne_Coding__zeros__border]; exact id), q _ _ _ (by rw [ne_Coding__ones__border]; exact id)]
  rfl
theorem no_Coding_take {v0 v1 v2 v3 v4 v5 v6 : V} : (fl_Coding v0 v1 v2 v3 v4 v5 v6).lookup ("take" : Str) = none := by
  have q : ∀ (g : Str) (u : V) (r : List (Str × V)), ¬ g = "take" → List.lookup (Str.ofString "take") ((g, u) :: r) = List.lookup (Str.ofString "take") r := fun g u r h => by
    have hb : ((Str.ofString "take") == g) = false := beq_eq_false_iff_ne.mpr (fun z => h z.symm)
    simp only [List.lookup, hb]
  unfold fl_Coding
  rw [q _ _ _ (by rw [ne_Coding_bits__take]; exact id), q _ _ _ (by rw [ne_Coding__width__take]; exact id), q _ _ _ (by rw [ne_Coding__low__take]; exact id), q _ _ _ (by rw [ne_Coding__size__take]; exact id), q _ _ _ (by rw [ne_Coding__whole__take]; exact id), q _ _ _ (by rw [ne_Coding__zeros__take]; exact id), q _ _ _ (by rw [ne_Coding__ones__take]; exact id)]
  rfl
/-- a Coding stands at x; its two lists of counts at z and o -/
structure Cod (C : Addr) (H : Hp) (x z o : Addr) (w : Nat) (bs : List Bool) : Prop where
  ob : ∃ dx, H x = some (.ins C dx (fl_Coding (.str (Bs.S bs)) (.int (w : Int)) (.int (Iv.lo w bs : Nat)) (.int (Iv.sz w bs : Nat)) (.int (Iv.wh w bs : Nat)) (.ref z) (.ref o)))
  hz : H z = some (.lst (Iv.zl w bs))
  ho : H o = some (.lst (Iv.ol w bs))
  zo : z ≠ o
theorem Cod.keep {C x z o : Addr} {H H' : Hp} {w : Nat} {bs : List Bool} (c : Cod C H x z o w bs) (s : Same H H') : Cod C H' x z o w bs := by
  obtain ⟨⟨dx, h1⟩, h2, h3, h4⟩ := c
  exact ⟨⟨dx, s _ _ h1⟩, s _ _ h2, s _ _ h3, h4⟩
theorem Cod.xz {C x z o : Addr} {H : Hp} {w : Nat} {bs : List Bool} (c : Cod C H x z o w bs) : x ≠ z ∧ x ≠ o := by
  obtain ⟨⟨dx, h1⟩, h2, h3, h4⟩ := c
  exact ⟨ne_of h1 h2 (by intro z; cases z), ne_of h1 h3 (by intro z; cases z)⟩
theorem nx_at {w : Nat} {bs : List Bool} {f : Nat → V} : atI ((List.range 16).map f) ((Iv.nx w bs : Nat) : Int) = some (f (Iv.nx w bs)) := by
  refine atI_nat ?_
  rw [List.getElem?_map, List.getElem?_range (show Iv.nx w bs < 16 from Cx_.ctx_lt w bs bs.length)]; rfl

set_option hygiene false
local macro_rules | `(tactic| walk_at "go1") => `(tactic| (first
  | refine Gx.fp (by assumption) T.cl_Coding T.na_Coding_bits lk_Coding_bits ?_
  | refine Gx.fp (by assumption) T.cl_Coding T.na_Coding__width lk_Coding__width ?_
  | refine Gx.fp (by assumption) T.cl_Coding T.na_Coding__low lk_Coding__low ?_
  | refine Gx.fp (by assumption) T.cl_Coding T.na_Coding__size lk_Coding__size ?_
  | refine Gx.fp (by assumption) T.cl_Coding T.na_Coding__whole lk_Coding__whole ?_
  | refine Gx.fp (by assumption) T.cl_Coding T.na_Coding__zeros lk_Coding__zeros ?_
  | refine Gx.fp (by assumption) T.cl_Coding T.na_Coding__ones lk_Coding__ones ?_))
set_option hygiene true
/-- the law's own: True, whatever the script -/
def spLaw (K : PySem.W.Frag) : Sp := fun vs H Q _ => ∃ (a : Addr) (ns : List Int), vs = [.ref a] ∧ SqL K H a (ns.map V.int) ∧ ns.length ≤ 63 ∧ (∀ z ∈ ns, Builtin.Int.intBits z ≤ 1048576) ∧ ∀ H', Q (.bl true) H' 
/-- a number from 0 on below the limit; the box's place moves -/
def sp_law_draw : Sp := fun vs H Q _ => ∃ (H0 : Hp) (b p : Addr) (xs : List Int) (m : Int), vs = [.ref b, .int m] ∧ 0 < m ∧ Bx.Box H0 H b p xs ∧ ∀ (r : Int) (H' : Hp), 0 ≤ r → r < m → Bx.Box H0 H' b p xs → (∀ c, c ≠ b → H' c = H c) → Q (.int r) H'

theorem sc_law_draw : FnScope ["box", "many", "at"] ["box", "many"] (defScope s_law_draw) := ⟨rfl, rfl, rfl, by decide +kernel, rfl, by decide +kernel, by decide +kernel⟩
theorem ok_law_draw (T : Tx K mg) : FnOk P w K mg base CX0 1 T.law_draw.a T.law_draw.d ["box", "many"] (sp_law_draw) := by
  refine T.law_draw.f.ok sc_law_draw (fun vs H Q E h => ?_) (fun cdv A outer s H vs Q E hr h => ⟨_, pss_cons (ps_set (i := 2) sc_law_draw.nd rfl (Or.inl rfl) (pe_ix ix_seq (pv 0) (pe_int) (fun _ _ => rfl)))
      (pss_cons (ps_asg (pe_op op_add (pv 2) (pe_int)) (pg_sub (pv 0) (pe_int) set_list))
      (pss_cons (ps_if (pt_cmpR op_lt (pv 2) (pe_callB Gx.c_len rfl T.n_len (by decide +kernel) (pa_cons (pe_ix ix_seq (pv 0) (pe_int) (fun _ _ => rfl)) pa_nil)) (nomark _)) (pss_one (ps_ret (pe_op op_mod (pe_callTy Gx.c_int rfl T.n_int (by decide +kernel) (pa_cons (pe_ix ix_seq (pe_ix ix_seq (pv 0) (pe_int) (fun _ _ => rfl)) (pv 2) (fun _ _ => rfl)) pa_nil)) (pv 1)))) (pss_nil))
      (pss_one (ps_ret (pe_op op_mod (pe_callTy Gx.c_int rfl T.n_int (by decide +kernel) (pa_cons (pe_op op_add (pe_op op_mul (pv 2) (pe_int)) (pe_int)) pa_nil)) (pv 1)))))), ?_⟩)
  · obtain ⟨H0, b, p, xs, m, rfl, _⟩ := h
    rfl
  · skip
    obtain ⟨H0, b, p, xs, m, rfl, hm, B, q⟩ := h
    have hne := B.ne
    obtain ⟨hs, nb, np, ⟨k, hk⟩, hd⟩ := B
    walk_at "go"
    refine Gx.ixL (SqL.of hk) (at_of (j := 1) rfl rfl) ?_
    walk_at "go"
    refine Gx.setL (j := 1) hk rfl ?_
    have hk2 : upd H b (.lst [.ref p, .int ((k : Int) + 1)]) b = some (.lst [.ref p, .int ((k + 1 : Nat) : Int)]) := by rw [upd_same]; rfl
    have hd2 : upd H b (.lst [.ref p, .int ((k : Int) + 1)]) p = some (.lst (xs.map V.int)) := by rw [upd_ne hne]; exact hd
    have B2 : Bx.Box H0 (upd H b (.lst [.ref p, .int ((k : Int) + 1)])) b p xs := ⟨Gx.same_up nb hs, nb, np, ⟨k + 1, hk2⟩, hd2⟩
    have kp : ∀ c, c ≠ b → upd H b (.lst [.ref p, .int ((k : Int) + 1)]) c = H c := fun c hc => upd_ne hc
    walk_at "go"
    refine Gx.ixL (SqL.of hk2) (at_of (j := 0) rfl rfl) ?_
    walk_at "go"
    refine Gx.lenL (SqL.of hd2) ?_
    rw [List.length_map]
    walk_at "go"
    refine Gx.if_d (fun hlt => ?_) (fun hge => ?_)
    · walk_at "go"
      refine Gx.ixL (SqL.of hk2) (at_of (j := 0) rfl rfl) ?_
      walk_at "go"
      refine Gx.ixL (SqL.of hd2) (Gx.at_map (by omega)) ?_
      walk_at "go"
      refine Gx.ic hm ?_
      exact q _ _ (Int.emod_nonneg _ (by omega)) (Int.emod_lt_of_pos _ hm) B2 kp
    · walk_at "go"
      refine Gx.ic (.inr (by decide)) ?_
      walk_at "go"
      refine Gx.ic hm ?_
      exact q _ _ (Int.emod_nonneg _ (by omega)) (Int.emod_lt_of_pos _ hm) B2 kp

theorem cp_law_draw {H0 H : Hp} {b p : Addr} {xs : List Int} {m : Int} {Q : VK} {E : XK} (B : Bx.Box H0 H b p xs) (hm : 0 < m) (q : ∀ (r : Int) (H' : Hp), 0 ≤ r → r < m → Bx.Box H0 H' b p xs → (∀ c, c ≠ b → H' c = H c) → Q (.int r) H') :
    Gx.CP sp_law_draw [.ref b, .int m] [] H Q E := ⟨H0, b, p, xs, m, rfl, hm, B, q⟩

/-- some bits, so many -/
def sp_law_bits : Sp := fun vs H Q _ => ∃ (H0 : Hp) (b p : Addr) (xs : List Int) (m : Nat), vs = [.ref b, .int (m : Int)] ∧ m ≤ 100000 ∧ Bx.Box H0 H b p xs ∧ ∀ (bs : List Bool) (H' : Hp), bs.length = m → Bx.Box H0 H' b p xs → (∀ c, c ≠ b → H' c = H c) → Q (.str (Bs.S bs)) H'

theorem sc_law_bits : FnScope ["box", "many", "text", "kind", "k"] ["box", "many"] (defScope s_law_bits) := ⟨rfl, rfl, rfl, by decide +kernel, rfl, by decide +kernel, by decide +kernel⟩
theorem ok_law_bits (T : Tx K mg) : FnOk P w K mg base CX0 2 T.law_bits.a T.law_bits.d ["box", "many"] (sp_law_bits) := by
  refine T.law_bits.f.ok sc_law_bits (fun vs H Q E h => ?_) (fun cdv A outer s H vs Q E hr h => ⟨_, pss_cons (ps_set (i := 2) sc_law_bits.nd rfl (Or.inl rfl) (pe_str))
      (pss_cons (ps_set (i := 3) sc_law_bits.nd rfl (Or.inl rfl) (pe_call (ok_law_draw T) (hr.mono (by decide)) rfl T.law_draw.g T.law_draw.f.kp T.law_draw.b .nil pass0 (pa_cons (pv 0) (pa_cons (pe_int) pa_nil))))
      (pss_cons (ps_for PassesOwn.never rfl (pi_range1 rfl T.n_range (pa_cons (pv 1) pa_nil)) (pg_name (i := 4) sc_law_bits.nd rfl (Or.inl rfl))
      (pss_one (ps_if (pt_cmpR op_eq (pv 3) (pe_int) (nomark _)) (pss_one (ps_set (i := 2) sc_law_bits.nd rfl (Or.inl rfl) (pe_op Gx.o_addS (pv 2) (pe_str)))) (pss_one (ps_if (pt_cmpR op_eq (pv 3) (pe_int) (nomark _)) (pss_one (ps_set (i := 2) sc_law_bits.nd rfl (Or.inl rfl) (pe_op Gx.o_addS (pv 2) (pe_str)))) (pss_one (ps_if (PW.pt (pw_and (pt_cmpR op_eq (pv 3) (pe_int) (nomark _)) (pw_and (pt_cmpR op_gt (pv 4) (pe_int) (nomark _)) (pw_and1 (pt_cmpR op_gt (pe_call (ok_law_draw T) (hr.mono (by decide)) rfl T.law_draw.g T.law_draw.f.kp T.law_draw.b .nil pass0 (pa_cons (pv 0) (pa_cons (pe_int) pa_nil))) (pe_int) (nomark _)))))) (pss_one (ps_set (i := 2) sc_law_bits.nd rfl (Or.inl rfl) (pe_op Gx.o_addS (pv 2) (pe_ix ix_seq (pv 2) (pe_op op_sub (pv 4) (pe_int)) (fun _ _ => rfl))))) (pss_one (ps_set (i := 2) sc_law_bits.nd rfl (Or.inl rfl) (pe_op Gx.o_addS (pv 2) (pe_callTy Gx.c_strI rfl T.n_str (by decide +kernel) (pa_cons (pe_call (ok_law_draw T) (hr.mono (by decide)) rfl T.law_draw.g T.law_draw.f.kp T.law_draw.b .nil pass0 (pa_cons (pv 0) (pa_cons (pe_int) pa_nil))) pa_nil))))))))))))
      (pss_one (ps_ret (pv 2))))), ?_⟩)
  · obtain ⟨H0, b, p, xs, m, rfl, _⟩ := h
    rfl
  · skip
    obtain ⟨H0, b, p, xs, m, rfl, hm, B, q⟩ := h
    walk_at "go"
    rw [Bs.lit_]
    refine cp_law_draw B (by decide) fun kd H1 hk0 hk1 B1 kp1 => ?_
    walk_at "go"
    refine Gx.r1 (by omega) (by omega) ?_
    refine Gx.fw walk_range (fun i σ' H' => ∃ (bs : List Bool) (kv : Option V), bs.length = i ∧ Bx.Box H0 H' b p xs ∧ (∀ c, c ≠ b → H' c = H c) ∧
      σ' = [some (.ref b), some (.int (m : Int)), some (.str (Bs.S bs)), some (.int kd), kv]) ⟨[], none, rfl, B1, kp1, rfl⟩ (fun _ _ _ _ _ => trivial) ?_ ?_
    · rintro i x σ' H2 H2' hi ⟨bs, kv, hl, B2, kp, rfl⟩ ⟨rfl, hx⟩
      have hx2 : x = .int (i : Int) := hx.trans (congrArg V.int (by omega))
      subst hx2
      have fin : ∀ (c : Bool) (H' : Hp), Bx.Box H0 H' b p xs → (∀ c, c ≠ b → H' c = H c) → ∃ (bs' : List Bool) (kv : Option V), bs'.length = i + 1 ∧ Bx.Box H0 H' b p xs ∧ (∀ c, c ≠ b → H' c = H c) ∧
          [some (V.ref b), some (.int (m : Int)), some (.str (Bs.S bs ++ Bs.S [c])), some (.int kd), some (.int (i : Int))] = [some (.ref b), some (.int (m : Int)), some (.str (Bs.S bs')), some (.int kd), kv] :=
        fun c H' B' k' => ⟨bs ++ [c], _, by rw [List.length_append, hl]; rfl, B', k', by rw [Bs.cat]⟩
      have hsz : ∀ c : Bool, (Bs.S bs).length + (Bs.S [c]).length ≤ sizeLine := fun c => by rw [Bs.len, Bs.len, sizeLine_eq]; show bs.length + 1 ≤ _; omega
      walk_at "go"
      refine Gx.if_d (fun _ => ?_) (fun _ => ?_)
      · walk_at "go"
        rw [Bs.lit0]
        refine Gx.addS (hsz _) ?_
        walk_at "go"
        exact fin _ _ B2 kp
      walk_at "go"
      refine Gx.if_d (fun _ => ?_) (fun _ => ?_)
      · walk_at "go"
        rw [Bs.lit1]
        refine Gx.addS (hsz _) ?_
        walk_at "go"
        exact fin _ _ B2 kp
      walk_at "go"
      refine Gx.if_b (fun _ => ?_) (fun _ => ?_)
      · walk_at "go"
        refine Gx.if_d (fun hi0 => ?_) (fun _ => ?_)
        · walk_at "go"
          refine cp_law_draw B2 (by decide) fun r H' _ _ B' k' => ?_
          have k2 : ∀ c, c ≠ b → H' c = H c := fun c hc => (k' c hc).trans (kp c hc)
          walk_at "go"
          refine Gx.if_b (fun _ => ?_) (fun _ => ?_)
          · walk_at "go"
            refine Bs.ix (by omega) (by omega) (by omega) ?_
            refine Gx.addS (hsz _) ?_
            walk_at "go"
            exact fin _ _ B' k2
          · walk_at "go"
            refine cp_law_draw B' (by decide) fun r H' h0 h1 B' k' => ?_
            have k2 : ∀ c, c ≠ b → H' c = H c := fun c hc => (k' c hc).trans (k2 c hc)
            walk_at "go"
            refine Bs.strbit (by omega) fun c => ?_
            refine Gx.addS (hsz _) ?_
            walk_at "go"
            exact fin _ _ B' k2
        · walk_at "go"
          refine cp_law_draw B2 (by decide) fun r H' h0 h1 B' k' => ?_
          have k2 : ∀ c, c ≠ b → H' c = H c := fun c hc => (k' c hc).trans (kp c hc)
          walk_at "go"
          refine Bs.strbit (by omega) fun c => ?_
          refine Gx.addS (hsz _) ?_
          walk_at "go"
          exact fin _ _ B' k2
      · walk_at "go"
        refine cp_law_draw B2 (by decide) fun r H' h0 h1 B' k' => ?_
        have k2 : ∀ c, c ≠ b → H' c = H c := fun c hc => (k' c hc).trans (kp c hc)
        walk_at "go"
        refine Bs.strbit (by omega) fun c => ?_
        refine Gx.addS (hsz _) ?_
        walk_at "go"
        exact fin _ _ B' k2
    · rintro σ' H' ⟨bs, kv, hl, B2, kp, rfl⟩
      walk_at "go"
      exact q bs H' (by omega) B2 kp

theorem cp_law_bits {H0 H : Hp} {b p : Addr} {xs : List Int} {m : Int} {Q : VK} {E : XK} (B : Bx.Box H0 H b p xs) (h0 : 0 ≤ m) (hm : m ≤ 100000) (q : ∀ (bs : List Bool) (H' : Hp), bs.length = m.toNat → Bx.Box H0 H' b p xs → (∀ c, c ≠ b → H' c = H c) → Q (.str (Bs.S bs)) H') :
    Gx.CP sp_law_bits [.ref b, .int m] [] H Q E := ⟨H0, b, p, xs, m.toNat, by rw [List.append_nil, Int.toNat_of_nonneg h0], by omega, B, q⟩

def sp_Coding_interval (C : Addr) : Sp := fun vs H Q _ => ∃ (x z o : Addr) (w : Nat) (bs : List Bool), vs = [.ref x] ∧ Cod C H x z o w bs ∧
  ∀ (p : Addr), H p = none → Q (.ref p) (upd H p (.tup [.int (Iv.lo w bs : Nat), .int (Iv.sz w bs : Nat), .int (Iv.wh w bs : Nat)]))

theorem sc_Coding_interval : FnScope ["self"] ["self"] (defScope s_Coding_interval) := ⟨rfl, rfl, rfl, by decide +kernel, rfl, by decide +kernel, by decide +kernel⟩
theorem ok_Coding_interval (T : Tx K mg) : FnOk P w K mg base CX0 1 T.Coding_interval.a T.Coding_interval.d ["self"] (sp_Coding_interval T.a_Coding) := by
  refine T.Coding_interval.f.ok sc_Coding_interval (fun vs H Q E h => ?_) (fun cdv A outer s H vs Q E hr h => ⟨_, pss_one (ps_ret (pe_tup (pa_cons (pe_fld (pv 0) rfl) (pa_cons (pe_fld (pv 0) rfl) (pa_cons (pe_fld (pv 0) rfl) pa_nil))))), ?_⟩)
  · obtain ⟨x, z, o, w, bs, rfl, _⟩ := h
    rfl
  · skip
    obtain ⟨x, z, o, w, bs, rfl, ⟨⟨dx, hx⟩, hz, ho, hzo⟩, q⟩ := h
    walk_at "go"
    exact Gx.tupP (by show 3 ≤ sizeLine; decide) q

theorem cp_Coding_interval {C x z o : Addr} {w : Nat} {bs : List Bool} {H : Hp} {Q : VK} {E : XK} (c : Cod C H x z o w bs)
    (q : ∀ (p : Addr), H p = none → Q (.ref p) (upd H p (.tup [.int (Iv.lo w bs : Nat), .int (Iv.sz w bs : Nat), .int (Iv.wh w bs : Nat)]))) : Gx.CP (sp_Coding_interval C) [.ref x] [] H Q E := ⟨x, z, o, w, bs, rfl, c, q⟩

def sp_Coding_init (C : Addr) : Sp := fun vs H Q _ => ∃ (H0 : Hp) (x dx : Addr) (w : Nat), vs = [.ref x, .int (w : Int)] ∧ H x = some (.ins C dx []) ∧ 0 < w ∧ Same H0 H ∧ H0 x = none ∧
  ∀ (z o : Addr) (H' : Hp), H0 z = none → H0 o = none → Same H0 H' → Cod C H' x z o w [] → Q .non H'

theorem sc_Coding___init__ : FnScope ["self", "width"] ["self", "width"] (defScope s_Coding___init__) := ⟨rfl, rfl, rfl, by decide +kernel, rfl, by decide +kernel, by decide +kernel⟩
theorem ok_Coding___init__ (T : Tx K mg) : FnOk P w K mg base CX0 1 T.Coding___init__.a T.Coding___init__.d ["self", "width"] (sp_Coding_init T.a_Coding) := by
  refine T.Coding___init__.f.ok sc_Coding___init__ (fun vs H Q E h => ?_) (fun cdv A outer s H vs Q E hr h => ⟨_, pss_cons (ps_fld (pv 0) (pe_str) rfl)
      (pss_cons (ps_fld (pv 0) (pv 1) rfl)
      (pss_cons (ps_fld (pv 0) (pe_int) rfl)
      (pss_cons (ps_fld (pv 0) (pe_int) rfl)
      (pss_cons (ps_fld (pv 0) (pe_int) rfl)
      (pss_cons (ps_fld (pv 0) (pe_op Gx.o_rep (pe_lst (pa_cons (pe_int) pa_nil)) (pe_glob (v := .int 16) rfl T.c_CONTEXTS ⟨_, rfl⟩)) rfl)
      (pss_one (ps_fld (pv 0) (pe_op Gx.o_rep (pe_lst (pa_cons (pe_int) pa_nil)) (pe_glob (v := .int 16) rfl T.c_CONTEXTS ⟨_, rfl⟩)) rfl))))))), ?_⟩)
  · obtain ⟨H0, x, dx, w, rfl, _⟩ := h
    rfl
  · skip
    obtain ⟨H0, x, dx, w, rfl, hx, hw, s0, h0, q⟩ := h
    walk_at "go"
    refine Gx.sfp hx T.cl_Coding T.na_Coding_bits (by walk_at "few") rfl ?_
    walk_at "go"
    refine Gx.sfp upd_same T.cl_Coding T.na_Coding__width (by walk_at "few") rfl ?_
    walk_at "go"
    refine Gx.sfp upd_same T.cl_Coding T.na_Coding__low (by walk_at "few") rfl ?_
    walk_at "go"
    refine Gx.sfp upd_same T.cl_Coding T.na_Coding__size (by walk_at "few") rfl ?_
    walk_at "go"
    refine Gx.sfp upd_same T.cl_Coding T.na_Coding__whole (by walk_at "few") rfl ?_
    walk_at "go"
    rw [upd_upd, upd_upd, upd_upd, upd_upd]
    refine Gx.lstP (by show 1 ≤ sizeLine; decide) fun l1 hl1 => ?_
    walk_at "go"
    refine Gx.repN (n := 16) upd_same (by decide) fun z hz => ?_
    have xl : x ≠ l1 := fun e => by rw [← e, upd_same] at hl1; cases hl1
    have xz : x ≠ z := fun e => by rw [← e, upd_ne xl, upd_same] at hz; cases hz
    walk_at "go"
    refine Gx.sfp (by rw [upd_ne xz, upd_ne xl]; exact upd_same) T.cl_Coding T.na_Coding__zeros (by walk_at "few") rfl ?_
    walk_at "go"
    refine Gx.lstP (by show 1 ≤ sizeLine; decide) fun l2 hl2 => ?_
    walk_at "go"
    refine Gx.repN (n := 16) upd_same (by decide) fun o ho => ?_
    have xl2 : x ≠ l2 := fun e => by rw [← e, upd_same] at hl2; cases hl2
    have xo : x ≠ o := fun e => by rw [← e, upd_ne xl2, upd_same] at ho; cases ho
    have zl2 : z ≠ l2 := fun e => by rw [← e, upd_ne xz.symm, upd_same] at hl2; cases hl2
    have zo : z ≠ o := fun e => by rw [← e, upd_ne zl2, upd_ne xz.symm, upd_same] at ho; cases ho
    walk_at "go"
    refine Gx.sfp (by rw [upd_ne xo, upd_ne xl2]; exact upd_same) T.cl_Coding T.na_Coding__ones (by walk_at "few") rfl ?_
    have l1z : l1 ≠ z := fun e => by rw [← e, upd_same] at hz; cases hz
    have hl10 : H l1 = none := by rw [upd_ne (Ne.symm xl)] at hl1; exact hl1
    have hz0 : H z = none := by rw [upd_ne l1z.symm, upd_ne xz.symm] at hz; exact hz
    have hl20 : H l2 = none := by
      by_cases e1 : l2 = l1
      · rw [e1]; exact hl10
      · rw [upd_ne xl2.symm, upd_ne zl2.symm, upd_ne e1, upd_ne xl2.symm] at hl2; exact hl2
    have l2o : l2 ≠ o := fun e => by rw [← e, upd_same] at ho; cases ho
    have ho0 : H o = none := by
      by_cases e1 : o = l1
      · rw [e1]; exact hl10
      · rw [upd_ne l2o.symm, upd_ne xo.symm, upd_ne zo.symm, upd_ne e1, upd_ne xo.symm] at ho; exact ho
    refine q z o _ (s0.free hz0) (s0.free ho0) ?_ ⟨⟨dx, ?_⟩, ?_, ?_, zo⟩
    · refine Gx.same_up h0 (Gx.same_up (s0.free ho0) (Gx.same_up (s0.free hl20) (Gx.same_up h0 (Gx.same_up (s0.free hz0) (Gx.same_up (s0.free hl10) (Gx.same_up h0 s0))))))
    · rw [upd_same, ini_Coding, Bs.lit_]; rfl
    · rw [upd_ne xz.symm, upd_ne zo, upd_ne zl2, upd_ne xz.symm, upd_same, Iv.nil_zl w]
    · rw [upd_ne xo.symm, upd_same, Iv.nil_ol w]


/-- the context of a place -/
def sp_context : Sp := fun vs H Q _ => ∃ (w n : Nat) (bs : List Bool), vs = [.int (w : Int), .str (Bs.S bs), .int (n : Int)] ∧ 0 < w ∧ n ≤ bs.length ∧ bs.length ≤ 100000 ∧ Q (.int (Cx_.ctx w bs n : Nat)) H

theorem sc_context : FnScope ["width", "bits", "place", "column", "total"] ["width", "bits", "place"] (defScope s_context) := ⟨rfl, rfl, rfl, by decide +kernel, rfl, by decide +kernel, by decide +kernel⟩
theorem ok_context (T : Tx K mg) : FnOk P w K mg base CX0 1 T.context.a T.context.d ["width", "bits", "place"] (sp_context) := by
  refine T.context.f.ok sc_context (fun vs H Q E h => ?_) (fun cdv A outer s H vs Q E hr h => ⟨_, pss_cons (ps_set (i := 3) sc_context.nd rfl (Or.inl rfl) (pe_op op_mod (pv 2) (pv 0)))
      (pss_cons (ps_set (i := 4) sc_context.nd rfl (Or.inl rfl) (pe_int))
      (C8.pss_cut (ps_if (PW.pt (pw_and (pt_cmpR op_ne (pv 3) (pe_int) (nomark _)) (pw_and1 (pt_cmpR op_eq (pe_ix ix_seq (pv 1) (pe_op op_sub (pv 2) (pe_int)) (fun _ _ => rfl)) (pe_str) (nomark _))))) (pss_one (ps_aug (i := 4) sc_context.nd rfl (Or.inl rfl) (pe_int) ip_add)) (pss_nil))
      (C8.pss_cut (ps_if (pt_cmpR op_ge (pv 2) (pv 0) (nomark _)) (C8.pss_cut (ps_if (PW.pt (pw_and (pt_cmpR op_ne (pv 3) (pe_int) (nomark _)) (pw_and1 (pt_cmpR op_eq (pe_ix ix_seq (pv 1) (pe_op op_sub (pe_op op_sub (pv 2) (pv 0)) (pe_int)) (fun _ _ => rfl)) (pe_str) (nomark _))))) (pss_one (ps_aug (i := 4) sc_context.nd rfl (Or.inl rfl) (pe_int) ip_add)) (pss_nil))
      (C8.pss_cut (ps_if (pt_cmpR op_eq (pe_ix ix_seq (pv 1) (pe_op op_sub (pv 2) (pv 0)) (fun _ _ => rfl)) (pe_str) (nomark _)) (pss_one (ps_aug (i := 4) sc_context.nd rfl (Or.inl rfl) (pe_int) ip_add)) (pss_nil))
      (pss_one (ps_if (PW.pt (pw_and (pt_cmpR op_lt (pv 3) (pe_op op_sub (pv 0) (pe_int)) (nomark _)) (pw_and1 (pt_cmpR op_eq (pe_ix ix_seq (pv 1) (pe_op op_add (pe_op op_sub (pv 2) (pv 0)) (pe_int)) (fun _ _ => rfl)) (pe_str) (nomark _))))) (pss_one (ps_aug (i := 4) sc_context.nd rfl (Or.inl rfl) (pe_int) ip_add)) (pss_nil))))) (pss_nil))
      (pss_one (ps_ret (pv 4)))))), ?_⟩)
  · obtain ⟨w, n, bs, rfl, _⟩ := h
    rfl
  · skip
    obtain ⟨w, n, bs, rfl, hw, hn, hb, q⟩ := h
    walk_at "go"
    refine Gx.ic (by omega) ?_
    have hc : (n : Int) % (w : Int) = ((n % w : Nat) : Int) := by omega
    have hml := Nat.mod_lt n hw
    rw [hc]
    walk_at "go"
    have nz : (!decide (((n % w : Nat) : Int) = 0)) = decide (n % w ≠ 0) := by
      rw [← decide_not]; exact decide_eq_decide.mpr (by omega)
    refine Gx.cut (fun σ' H' => H' = H ∧ σ' = [some (.int (w : Int)), some (.str (Bs.S bs)), some (.int (n : Int)), some (.int ((n % w : Nat) : Int)), some (.int ((if n % w ≠ 0 ∧ bs.getD (n - 1) false = true then 1 else 0 : Nat) : Int))]) ?_ ?_
    · walk_at "go"
      rw [nz]
      refine Gx.if_d (fun h1 => ?_) (fun h1 => ?_)
      · walk_at "go"
        have hne : n ≠ 0 := fun e => h1 (by rw [e, Nat.zero_mod])
        refine Bs.ix (by omega) (by omega) (by omega) ?_
        rw [show ((n : Int) - 1).toNat = n - 1 by omega]
        walk_at "go"
        rw [Bs.eq1]
        refine Gx.if_b (fun h2 => ?_) (fun h2 => ?_)
        · walk_at "go"
          refine ⟨rfl, ?_⟩
          rw [if_pos ⟨h1, h2⟩]; rfl
        · walk_at "go"
          refine ⟨rfl, ?_⟩
          rw [if_neg (fun z => by rw [h2] at z; exact absurd z.2 (by decide))]; rfl
      · walk_at "go"
        refine ⟨rfl, ?_⟩
        rw [if_neg (fun z => h1 z.1)]; rfl
    · rintro σ' H' ⟨rfl, rfl⟩
      generalize ht : (if n % w ≠ 0 ∧ bs.getD (n - 1) false = true then 1 else 0 : Nat) = t
      refine Gx.cut (fun σ' H2 => H2 = H' ∧ σ' = [some (.int (w : Int)), some (.str (Bs.S bs)), some (.int (n : Int)), some (.int ((n % w : Nat) : Int)), some (.int ((Cx_.ctx w bs n : Nat) : Int))]) ?_ ?_
      · walk_at "go"
        refine Gx.if_d (fun h1 => ?_) (fun h1 => ?_)
        · refine Gx.cut (fun σ' H2 => H2 = H' ∧ σ' = [some (.int (w : Int)), some (.str (Bs.S bs)), some (.int (n : Int)), some (.int ((n % w : Nat) : Int)), some (.int ((t + (if n % w ≠ 0 ∧ bs.getD (n - w - 1) false = true then 2 else 0) : Nat) : Int))]) ?_ ?_
          · walk_at "go"
            rw [nz]
            refine Gx.if_d (fun h1 => ?_) (fun h1 => ?_)
            · walk_at "go"
              have hne : n ≠ w := fun e => h1 (by rw [e, Nat.mod_self])
              refine Bs.ix (by omega) (by omega) (by omega) ?_
              rw [show ((n : Int) - (w : Int) - 1).toNat = n - w - 1 by omega]
              walk_at "go"
              rw [Bs.eq1]
              refine Gx.if_b (fun h2 => ?_) (fun h2 => ?_)
              · walk_at "go"
                refine ⟨rfl, ?_⟩
                rw [if_pos ⟨h1, h2⟩]; rfl
              · walk_at "go"
                refine ⟨rfl, ?_⟩
                rw [if_neg (fun z => by rw [h2] at z; exact absurd z.2 (by decide))]; rfl
            · walk_at "go"
              refine ⟨rfl, ?_⟩
              rw [if_neg (fun z => h1 z.1)]; rfl
          · rintro σ' H2 ⟨rfl, rfl⟩
            generalize ht2 : (t + (if n % w ≠ 0 ∧ bs.getD (n - w - 1) false = true then 2 else 0) : Nat) = t2
            refine Gx.cut (fun σ' H3 => H3 = H2 ∧ σ' = [some (.int (w : Int)), some (.str (Bs.S bs)), some (.int (n : Int)), some (.int ((n % w : Nat) : Int)), some (.int ((t2 + (if bs.getD (n - w) false = true then 4 else 0) : Nat) : Int))]) ?_ ?_
            · walk_at "go"
              refine Bs.ix (by omega) (by omega) (by omega) ?_
              rw [show ((n : Int) - (w : Int)).toNat = n - w by omega]
              walk_at "go"
              rw [Bs.eq1]
              refine Gx.if_b (fun h2 => ?_) (fun h2 => ?_)
              · walk_at "go"
                refine ⟨rfl, ?_⟩
                rw [if_pos h2]; rfl
              · walk_at "go"
                refine ⟨rfl, ?_⟩
                rw [if_neg (by rw [h2]; decide)]; rfl
            · rintro σ' H3 ⟨rfl, rfl⟩
              generalize ht3 : (t2 + (if bs.getD (n - w) false = true then 4 else 0) : Nat) = t3
              have fin : ∀ c : Bool, (n % w < w - 1 ∧ bs.getD (n - w + 1) false = true ↔ c = true) → Cx_.ctx w bs n = t3 + (if c = true then 8 else 0) := fun c hc => by
                unfold Cx_.ctx
                rw [if_pos (show w ≤ n by omega), ht]
                have e : (if n % w < w - 1 ∧ bs.getD (n - w + 1) false = true then 8 else 0) = (if c = true then 8 else 0 : Nat) := by
                  by_cases h : c = true
                  · rw [if_pos (hc.mpr h), if_pos h]
                  · rw [if_neg (fun z => h (hc.mp z)), if_neg h]
                rw [e]; omega
              walk_at "go"
              refine Gx.if_d (fun h1 => ?_) (fun h1 => ?_)
              · walk_at "go"
                refine Bs.ix (by omega) (by omega) (by omega) ?_
                rw [show ((n : Int) - (w : Int) + 1).toNat = n - w + 1 by omega]
                walk_at "go"
                rw [Bs.eq1]
                refine Gx.if_b (fun h2 => ?_) (fun h2 => ?_)
                · walk_at "go"
                  refine ⟨rfl, ?_⟩
                  rw [fin true (by rw [h2]; constructor <;> intro _ <;> first | trivial | exact ⟨by omega, rfl⟩)]; rfl
                · walk_at "go"
                  refine ⟨rfl, ?_⟩
                  rw [fin false (by rw [h2]; constructor <;> intro z <;> first | exact absurd z.2 (by decide) | exact absurd z (by decide))]; rfl
              · walk_at "go"
                refine ⟨rfl, ?_⟩
                rw [fin false ⟨fun z => absurd z.1 (by omega), fun z => absurd z (by decide)⟩]; rfl
        · walk_at "go"
          refine ⟨rfl, ?_⟩
          unfold Cx_.ctx
          rw [if_neg (show ¬ w ≤ n by omega), ht]; rfl
      · rintro σ' H2 ⟨rfl, rfl⟩
        walk_at "go"
        exact q

theorem cp_context {w n : Int} {bs : List Bool} {H : Hp} {Q : VK} {E : XK} (hw : 0 < w) (h0 : 0 ≤ n) (hn : n ≤ bs.length) (hb : bs.length ≤ 100000) (q : Q (.int (Cx_.ctx w.toNat bs n.toNat : Nat)) H) : Gx.CP sp_context [.int w, .str (Bs.S bs), .int n] [] H Q E :=
  ⟨w.toNat, n.toNat, bs, by rw [List.append_nil, Int.toNat_of_nonneg h0, Int.toNat_of_nonneg (Int.le_of_lt hw)], by omega, by omega, hb, q⟩

def sp_Coding_take (C : Addr) : Sp := fun vs H Q _ => ∃ (x z o : Addr) (w : Nat) (bs : List Bool) (b : Bool), vs = [.ref x, .str (Bs.S [b])] ∧ Cod C H x z o w bs ∧ 0 < w ∧ bs.length ≤ 100000 ∧
  ∀ H', Cod C H' x z o w (bs ++ [b]) → (∀ c, c ≠ x → c ≠ z → c ≠ o → H' c = H c) → Q .non H'

theorem sc_Coding_take : FnScope ["self", "bit", "here", "zeros", "ones"] ["self", "bit"] (defScope s_Coding_take) := ⟨rfl, rfl, rfl, by decide +kernel, rfl, by decide +kernel, by decide +kernel⟩
theorem ok_Coding_take (T : Tx K mg) : FnOk P w K mg base CX0 2 T.Coding_take.a T.Coding_take.d ["self", "bit"] (sp_Coding_take T.a_Coding) := by
  refine T.Coding_take.f.ok sc_Coding_take (fun vs H Q E h => ?_) (fun cdv A outer s H vs Q E hr h => ⟨_, pss_cons (ps_set (i := 2) sc_Coding_take.nd rfl (Or.inl rfl) (pe_call (ok_context T) (hr.mono (by decide)) rfl T.context.g T.context.f.kp T.context.b .nil pass0 (pa_cons (pe_fld (pv 0) rfl) (pa_cons (pe_fld (pv 0) rfl) (pa_cons (pe_callB Gx.c_len rfl T.n_len (by decide +kernel) (pa_cons (pe_fld (pv 0) rfl) pa_nil)) pa_nil)))))
      (pss_cons (ps_set (i := 3) sc_Coding_take.nd rfl (Or.inl rfl) (pe_ix ix_seq (pe_fld (pv 0) rfl) (pv 2) (fun _ _ => rfl)))
      (pss_cons (ps_set (i := 4) sc_Coding_take.nd rfl (Or.inl rfl) (pe_ix ix_seq (pe_fld (pv 0) rfl) (pv 2) (fun _ _ => rfl)))
      (pss_cons (ps_fld (pv 0) (pe_op op_mul (pe_fld (pv 0) rfl) (pe_op op_add (pv 3) (pv 4))) rfl)
      (pss_cons (ps_fld (pv 0) (pe_op op_mul (pe_fld (pv 0) rfl) (pe_op op_add (pv 3) (pv 4))) rfl)
      (pss_cons (ps_if (pt_cmpR op_eq (pv 1) (pe_str) (nomark _)) (pss_cons (ps_fld (pv 0) (pe_op op_mul (pe_fld (pv 0) rfl) (pv 3)) rfl)
      (pss_one (ps_augS (pe_fld (pv 0) rfl) (pv 2) Gx.pget_list (pe_int) ip_add set_list))) (pss_cons (ps_fld (pv 0) (pe_op op_add (pe_fld (pv 0) rfl) (pe_op op_mul (pe_fld (pv 0) rfl) (pv 3))) rfl)
      (pss_cons (ps_fld (pv 0) (pe_op op_mul (pe_fld (pv 0) rfl) (pv 4)) rfl)
      (pss_one (ps_augS (pe_fld (pv 0) rfl) (pv 2) Gx.pget_list (pe_int) ip_add set_list)))))
      (pss_one (ps_fld (pv 0) (pe_op Gx.o_addS (pe_fld (pv 0) rfl) (pv 1)) rfl))))))), ?_⟩)
  · obtain ⟨x, z, o, w, bs, b, rfl, _⟩ := h
    rfl
  · skip
    obtain ⟨x, z, o, w, bs, b, rfl, cod, hw, hb, q⟩ := h
    have hxz := cod.xz
    obtain ⟨⟨dx, hx⟩, hz, ho, hzo⟩ := cod
    have hzl := (Iv.zs_le w bs (Iv.nx w bs))
    have hol := (Iv.os_le w bs (Iv.nx w bs))
    walk_at "go"
    refine Bs.lenB (by omega) ?_
    walk_at "go"
    refine cp_context (by omega) (by omega) (by omega) hb ?_
    rw [Int.toNat_natCast, Int.toNat_natCast]
    walk_at "go"
    refine Gx.ixL (SqL.of hz) nx_at ?_
    walk_at "go"
    refine Gx.ixL (SqL.of ho) nx_at ?_
    walk_at "go"
    refine Gx.ic (.inr (by omega)) ?_
    walk_at "go"
    refine Gx.sfp hx T.cl_Coding T.na_Coding__low few_Coding put_Coding__low ?_
    have hx1 := upd_same (H := H) (a := x) (o := .ins T.a_Coding dx (fl_Coding (.str (Bs.S bs)) (.int (w : Int)) (.int ((Iv.lo w bs : Nat) * ((Iv.zs w bs (Iv.nx w bs) : Nat) + (Iv.os w bs (Iv.nx w bs) : Nat)))) (.int (Iv.sz w bs : Nat)) (.int (Iv.wh w bs : Nat)) (.ref z) (.ref o)))
    walk_at "go"
    refine Gx.ic (.inr (by omega)) ?_
    walk_at "go"
    refine Gx.sfp hx1 T.cl_Coding T.na_Coding__whole few_Coding put_Coding__whole ?_
    rw [upd_upd]
    clear hx1
    walk_at "go"
    rw [Bs.eq0]
    cases b with
    | false =>
      walk_at "go"
      refine Gx.fp upd_same T.cl_Coding T.na_Coding__size lk_Coding__size ?_
      walk_at "go"
      refine Gx.ic (.inr (by omega)) ?_
      walk_at "go"
      refine Gx.sfp upd_same T.cl_Coding T.na_Coding__size few_Coding put_Coding__size ?_
      rw [upd_upd]
      walk_at "go"
      refine Gx.fp upd_same T.cl_Coding T.na_Coding__zeros lk_Coding__zeros ?_
      walk_at "go"
      refine Gx.getN (SqL.of (by rw [upd_ne hxz.1.symm]; exact hz)) (by have := Cx_.ctx_lt w bs bs.length; omega) (Iv.zl_get (Cx_.ctx_lt w bs bs.length)) ?_
      walk_at "go"
      refine Gx.agL (by rw [upd_ne hxz.1.symm]; exact hz) (by unfold Iv.zl; rw [List.length_map, List.length_range]; exact Cx_.ctx_lt w bs bs.length) ?_
      walk_at "go"
      refine Gx.fp (by rw [upd_ne hxz.1]; exact upd_same) T.cl_Coding T.na_Coding_bits lk_Coding_bits ?_
      walk_at "go"
      refine Gx.addS (by rw [Bs.len, Bs.len, sizeLine_eq]; show _ + 1 ≤ _; omega) ?_
      rw [Bs.cat]
      walk_at "go"
      refine Gx.sfp (by rw [upd_ne hxz.1]; exact upd_same) T.cl_Coding T.na_Coding_bits few_Coding put_Coding_bits ?_
      refine q _ ⟨⟨dx, ?_⟩, ?_, ?_, hzo⟩ fun c h1 h2 h3 => ?_
      · rw [upd_same, Iv.lo_app hw, Iv.sz_app hw, Iv.wh_app hw]
        simp only [Bool.false_eq_true, if_false, Nat.add_zero, Iv.both, Int.natCast_mul, Int.natCast_add]
      · rw [upd_ne hxz.1.symm, upd_same]; exact congrArg (fun l => some (HO.lst l)) (Iv.zl_app0 hw)
      · rw [upd_ne hxz.2.symm, upd_ne hzo.symm, upd_ne hxz.2.symm, ho, Iv.ol_app0 hw]
      · rw [upd_ne h1, upd_ne h2, upd_ne h1]
    | true =>
      walk_at "go"
      refine Gx.fp upd_same T.cl_Coding T.na_Coding__low lk_Coding__low ?_
      walk_at "go"
      refine Gx.fp upd_same T.cl_Coding T.na_Coding__size lk_Coding__size ?_
      walk_at "go"
      refine Gx.ic (.inr (by omega)) ?_
      walk_at "go"
      refine Gx.sfp upd_same T.cl_Coding T.na_Coding__low few_Coding put_Coding__low ?_
      rw [upd_upd]
      walk_at "go"
      refine Gx.fp upd_same T.cl_Coding T.na_Coding__size lk_Coding__size ?_
      walk_at "go"
      refine Gx.ic (.inr (by omega)) ?_
      walk_at "go"
      refine Gx.sfp upd_same T.cl_Coding T.na_Coding__size few_Coding put_Coding__size ?_
      rw [upd_upd]
      walk_at "go"
      refine Gx.fp upd_same T.cl_Coding T.na_Coding__ones lk_Coding__ones ?_
      walk_at "go"
      refine Gx.getN (SqL.of (by rw [upd_ne hxz.2.symm]; exact ho)) (by have := Cx_.ctx_lt w bs bs.length; omega) (Iv.ol_get (Cx_.ctx_lt w bs bs.length)) ?_
      walk_at "go"
      refine Gx.agL (by rw [upd_ne hxz.2.symm]; exact ho) (by unfold Iv.ol; rw [List.length_map, List.length_range]; exact Cx_.ctx_lt w bs bs.length) ?_
      walk_at "go"
      refine Gx.fp (by rw [upd_ne hxz.2]; exact upd_same) T.cl_Coding T.na_Coding_bits lk_Coding_bits ?_
      walk_at "go"
      refine Gx.addS (by rw [Bs.len, Bs.len, sizeLine_eq]; show _ + 1 ≤ _; omega) ?_
      rw [Bs.cat]
      walk_at "go"
      refine Gx.sfp (by rw [upd_ne hxz.2]; exact upd_same) T.cl_Coding T.na_Coding_bits few_Coding put_Coding_bits ?_
      refine q _ ⟨⟨dx, ?_⟩, ?_, ?_, hzo⟩ fun c h1 h2 h3 => ?_
      · rw [upd_same, Iv.lo_app hw, Iv.sz_app hw, Iv.wh_app hw]
        simp only [if_true, Iv.both, Int.natCast_mul, Int.natCast_add]
      · rw [upd_ne hxz.1.symm, upd_ne hzo, upd_ne hxz.1.symm, hz, Iv.zl_app1 hw]
      · rw [upd_ne hxz.2.symm, upd_same]; exact congrArg (fun l => some (HO.lst l)) (Iv.ol_app1 hw)
      · rw [upd_ne h1, upd_ne h3, upd_ne h1]

theorem cp_Coding_take {C x z o : Addr} {w : Nat} {bs : List Bool} {b : Bool} {H : Hp} {Q : VK} {E : XK} (c : Cod C H x z o w bs) (hw : 0 < w) (hb : bs.length ≤ 100000)
    (q : ∀ H', Cod C H' x z o w (bs ++ [b]) → (∀ c, c ≠ x → c ≠ z → c ≠ o → H' c = H c) → Q .non H') : Gx.CP (sp_Coding_take C) [.ref x, .str (Bs.S [b])] [] H Q E := ⟨x, z, o, w, bs, b, rfl, c, hw, hb, q⟩

def sp_coding_of (C : Addr) : Sp := fun vs H Q _ => ∃ (w : Nat) (bs : List Bool), vs = [.int (w : Int), .str (Bs.S bs)] ∧ 0 < w ∧ bs.length ≤ 100000 ∧
  ∀ (x z o : Addr) (H' : Hp), H x = none → H z = none → H o = none → Same H H' → Cod C H' x z o w bs → Q (.ref x) H'

theorem sc_coding_of : FnScope ["width", "bits", "coding", "bit"] ["width", "bits"] (defScope s_coding_of) := ⟨rfl, rfl, rfl, by decide +kernel, rfl, by decide +kernel, by decide +kernel⟩
theorem ok_coding_of (T : Tx K mg) : FnOk P w K mg base CX0 3 T.coding_of.a T.coding_of.d ["width", "bits"] (sp_coding_of T.a_Coding) := by
  refine T.coding_of.f.ok sc_coding_of (fun vs H Q E h => ?_) (fun cdv A outer s H vs Q E hr h => ⟨_, pss_cons (ps_set (i := 2) sc_coding_of.nd rfl (Or.inl rfl) (pe_make ⟨T.mk_Coding, T.Coding___init__.m.at_, T.Coding___init__.m.fn, T.kp_Coding⟩ (ok_Coding___init__ T) (hr.mono (by decide)) rfl T.g_Coding T.Coding___init__.b .nil pass0 (pa_cons (pv 0) pa_nil)))
      (pss_cons (ps_for PassesOwn.never rfl (pi_str (pv 1)) (pg_name (i := 3) sc_coding_of.nd rfl (Or.inl rfl))
      (pss_one (ps_expr (pe_meth (pv 2) T.cl_Coding T.Coding_take.m (ok_Coding_take T) (hr.mono (by decide)) T.Coding_take.b .nil pass0 (pa_cons (pv 3) pa_nil)))))
      (pss_one (ps_ret (pv 2)))), ?_⟩)
  · obtain ⟨w, bs, rfl, _⟩ := h
    rfl
  · skip
    obtain ⟨w, bs, rfl, hw, hb, q⟩ := h
    walk_at "go"
    intro x dx hx hdx hne
    refine ⟨H, x, dx, w, rfl, upd_same, hw, Gx.same_up hx (Gx.same_new hdx), hx, fun z o H1 hz ho s1 c1 => ⟨rfl, ?_⟩⟩
    walk_at "go"
    refine Gx.fw walk_str (fun i σ' H' => Same H H' ∧ Cod T.a_Coding H' x z o w (bs.take i) ∧ ∃ bv : Option V, σ' = [some (.int (w : Int)), some (.str (Bs.S bs)), some (.ref x), bv]) ⟨s1, c1, none, rfl⟩ (fun _ _ _ _ _ => trivial) ?_ ?_
    · rintro i v σ' H2 H2' hi ⟨s2, c2, bv, rfl⟩ ⟨rfl, c, hc, rfl⟩
      have hil : i < bs.length := by
        have e : (Bs.S bs).cps.size = bs.length := Bs.len bs
        omega
      have hcb : (⟨#[c]⟩ : Str) = Bs.S [bs.getD i false] := by
        have h := Bs.get_ hil
        rw [hc] at h
        rw [Option.some.inj h]; rfl
      rw [hcb]
      walk_at "go"
      obtain ⟨dx, hx2⟩ := c2.ob
      refine Gx.mp hx2 no_Coding_take ?_
      walk_at "go"
      refine cp_Coding_take c2 hw (by rw [List.length_take]; omega) fun H3 c3 k3 => ?_
      walk_at "go"
      have e : bs.take i ++ [bs.getD i false] = bs.take (i + 1) := by
        rw [List.take_add_one, List.getD_eq_getElem?_getD, List.getElem?_eq_getElem hil]; rfl
      rw [e] at c3
      exact ⟨fun a u ea => (k3 a (ne_of_none ea hx) (ne_of_none ea hz) (ne_of_none ea ho)).trans (s2 a u ea), c3, _, rfl⟩
    · rintro σ' H2 ⟨s2, c2, bv, rfl⟩
      have e : (Bs.S bs).cps.size = bs.length := Bs.len bs
      rw [e, List.take_length] at c2
      walk_at "go"
      exact q x z o H2 hx hz ho s2 c2

theorem cp_coding_of {C : Addr} {w : Int} {bs : List Bool} {H : Hp} {Q : VK} {E : XK} (hw : 0 < w) (hb : bs.length ≤ 100000)
    (q : ∀ (x z o : Addr) (H' : Hp), H x = none → H z = none → H o = none → Same H H' → Cod C H' x z o w.toNat bs → Q (.ref x) H') : Gx.CP (sp_coding_of C) [.int w, .str (Bs.S bs)] [] H Q E :=
  ⟨w.toNat, bs, by rw [List.append_nil, Int.toNat_of_nonneg (Int.le_of_lt hw)], by omega, hb, q⟩

def sp_interval : Sp := fun vs H Q _ => ∃ (w : Nat) (bs : List Bool), vs = [.int (w : Int), .str (Bs.S bs)] ∧ 0 < w ∧ bs.length ≤ 100000 ∧
  ∀ (p : Addr) (H' : Hp), Same H H' → H' p = some (.tup [.int (Iv.lo w bs : Nat), .int (Iv.sz w bs : Nat), .int (Iv.wh w bs : Nat)]) → Q (.ref p) H'

theorem sc_interval : FnScope ["width", "bits"] ["width", "bits"] (defScope s_interval) := ⟨rfl, rfl, rfl, by decide +kernel, rfl, by decide +kernel, by decide +kernel⟩
theorem ok_interval (T : Tx K mg) : FnOk P w K mg base CX0 4 T.interval.a T.interval.d ["width", "bits"] (sp_interval) := by
  refine T.interval.f.ok sc_interval (fun vs H Q E h => ?_) (fun cdv A outer s H vs Q E hr h => ⟨_, pss_one (ps_ret (pe_meth0 (pe_call (ok_coding_of T) (hr.mono (by decide)) rfl T.coding_of.g T.coding_of.f.kp T.coding_of.b .nil pass0 (pa_cons (pv 0) (pa_cons (pv 1) pa_nil))) T.cl_Coding T.Coding_interval.m (ok_Coding_interval T) (hr.mono (by decide)) T.Coding_interval.b .nil pass0)), ?_⟩)
  · obtain ⟨w, bs, rfl, _⟩ := h
    rfl
  · skip
    obtain ⟨w, bs, rfl, hw, hb, q⟩ := h
    walk_at "go"
    refine cp_coding_of (by omega) hb fun x z o H1 hx hz ho s1 c1 => ?_
    rw [Int.toNat_natCast] at c1
    obtain ⟨dx, hx1⟩ := c1.ob
    walk_at "go"
    refine Gx.mp hx1 no_Coding_interval ?_
    walk_at "go"
    refine cp_Coding_interval c1 fun p hp => ?_
    exact q p _ (s1.trans (Gx.same_new hp)) upd_same

theorem cp_interval {w : Int} {bs : List Bool} {H : Hp} {Q : VK} {E : XK} (hw : 0 < w) (hb : bs.length ≤ 100000)
    (q : ∀ (p : Addr) (H' : Hp), Same H H' → H' p = some (.tup [.int (Iv.lo w.toNat bs : Nat), .int (Iv.sz w.toNat bs : Nat), .int (Iv.wh w.toNat bs : Nat)]) → Q (.ref p) H') :
    Gx.CP sp_interval [.int w, .str (Bs.S bs)] [] H Q E := ⟨w.toNat, bs, by rw [List.append_nil, Int.toNat_of_nonneg (Int.le_of_lt hw)], by omega, hb, q⟩

/-- the context of a place -/
def sp_law_context : Sp := fun vs H Q _ => ∃ (w n : Nat) (bs : List Bool), vs = [.int (w : Int), .str (Bs.S bs), .int (n : Int)] ∧ 0 < w ∧ n ≤ bs.length ∧ bs.length ≤ 100000 ∧ Q (.int (Cx_.ctx w bs n : Nat)) H

theorem sc_law_context : FnScope ["width", "bits", "place", "total"] ["width", "bits", "place"] (defScope s_law_context) := ⟨rfl, rfl, rfl, by decide +kernel, rfl, by decide +kernel, by decide +kernel⟩
theorem ok_law_context (T : Tx K mg) : FnOk P w K mg base CX0 1 T.law_context.a T.law_context.d ["width", "bits", "place"] (sp_law_context) := by
  refine T.law_context.f.ok sc_law_context (fun vs H Q E h => ?_) (fun cdv A outer s H vs Q E hr h => ⟨_, pss_cons (ps_set (i := 3) sc_law_context.nd rfl (Or.inl rfl) (pe_int))
      (C8.pss_cut (ps_if (PW.pt (pw_and (pt_cmpR op_ne (pe_op op_mod (pe_callTy Gx.c_int rfl T.n_int (by decide +kernel) (pa_cons (pv 2) pa_nil)) (pv 0)) (pe_int) (nomark _)) (pw_and1 (pt_cmpR op_eq (pe_ix ix_seq (pv 1) (pe_op op_sub (pv 2) (pe_int)) (fun _ _ => rfl)) (pe_str) (nomark _))))) (pss_one (ps_set (i := 3) sc_law_context.nd rfl (Or.inl rfl) (pe_int))) (pss_nil))
      (C8.pss_cut (ps_if (pt_cmpR op_ge (pv 2) (pv 0) (nomark _)) (C8.pss_cut (ps_if (PW.pt (pw_and (pt_cmpR op_ne (pe_op op_mod (pe_callTy Gx.c_int rfl T.n_int (by decide +kernel) (pa_cons (pv 2) pa_nil)) (pv 0)) (pe_int) (nomark _)) (pw_and1 (pt_cmpR op_eq (pe_ix ix_seq (pv 1) (pe_op op_sub (pe_op op_sub (pv 2) (pv 0)) (pe_int)) (fun _ _ => rfl)) (pe_str) (nomark _))))) (pss_one (ps_set (i := 3) sc_law_context.nd rfl (Or.inl rfl) (pe_op op_add (pv 3) (pe_int)))) (pss_nil))
      (C8.pss_cut (ps_if (pt_cmpR op_eq (pe_ix ix_seq (pv 1) (pe_op op_sub (pv 2) (pv 0)) (fun _ _ => rfl)) (pe_str) (nomark _)) (pss_one (ps_set (i := 3) sc_law_context.nd rfl (Or.inl rfl) (pe_op op_add (pv 3) (pe_int)))) (pss_nil))
      (pss_one (ps_if (PW.pt (pw_and (pt_cmpR op_lt (pe_op op_mod (pe_callTy Gx.c_int rfl T.n_int (by decide +kernel) (pa_cons (pv 2) pa_nil)) (pv 0)) (pe_op op_sub (pv 0) (pe_int)) (nomark _)) (pw_and1 (pt_cmpR op_eq (pe_ix ix_seq (pv 1) (pe_op op_add (pe_op op_sub (pv 2) (pv 0)) (pe_int)) (fun _ _ => rfl)) (pe_str) (nomark _))))) (pss_one (ps_set (i := 3) sc_law_context.nd rfl (Or.inl rfl) (pe_op op_add (pv 3) (pe_int)))) (pss_nil))))) (pss_nil))
      (pss_one (ps_ret (pv 3))))), ?_⟩)
  · obtain ⟨w, n, bs, rfl, _⟩ := h
    rfl
  · skip
    obtain ⟨w, n, bs, rfl, hw, hn, hb, q⟩ := h
    have hc : (n : Int) % (w : Int) = ((n % w : Nat) : Int) := by omega
    have hml := Nat.mod_lt n hw
    walk_at "go"
    have nz : (!decide (((n % w : Nat) : Int) = 0)) = decide (n % w ≠ 0) := by
      rw [← decide_not]; exact decide_eq_decide.mpr (by omega)
    refine Gx.cut (fun σ' H' => H' = H ∧ σ' = [some (.int (w : Int)), some (.str (Bs.S bs)), some (.int (n : Int)), some (.int ((if n % w ≠ 0 ∧ bs.getD (n - 1) false = true then 1 else 0 : Nat) : Int))]) ?_ ?_
    · walk_at "go"
      refine Gx.ic (by omega) ?_
      rw [hc]
      walk_at "go"
      rw [nz]
      refine Gx.if_d (fun h1 => ?_) (fun h1 => ?_)
      · walk_at "go"
        have hne : n ≠ 0 := fun e => h1 (by rw [e, Nat.zero_mod])
        refine Bs.ix (by omega) (by omega) (by omega) ?_
        rw [show ((n : Int) - 1).toNat = n - 1 by omega]
        walk_at "go"
        rw [Bs.eq1]
        refine Gx.if_b (fun h2 => ?_) (fun h2 => ?_)
        · walk_at "go"
          refine ⟨rfl, ?_⟩
          rw [if_pos ⟨h1, h2⟩]; rfl
        · walk_at "go"
          refine ⟨rfl, ?_⟩
          rw [if_neg (fun z => by rw [h2] at z; exact absurd z.2 (by decide))]; rfl
      · walk_at "go"
        refine ⟨rfl, ?_⟩
        rw [if_neg (fun z => h1 z.1)]; rfl
    · rintro σ' H' ⟨rfl, rfl⟩
      generalize ht : (if n % w ≠ 0 ∧ bs.getD (n - 1) false = true then 1 else 0 : Nat) = t
      refine Gx.cut (fun σ' H2 => H2 = H' ∧ σ' = [some (.int (w : Int)), some (.str (Bs.S bs)), some (.int (n : Int)), some (.int ((Cx_.ctx w bs n : Nat) : Int))]) ?_ ?_
      · walk_at "go"
        refine Gx.if_d (fun h1 => ?_) (fun h1 => ?_)
        · refine Gx.cut (fun σ' H2 => H2 = H' ∧ σ' = [some (.int (w : Int)), some (.str (Bs.S bs)), some (.int (n : Int)), some (.int ((t + (if n % w ≠ 0 ∧ bs.getD (n - w - 1) false = true then 2 else 0) : Nat) : Int))]) ?_ ?_
          · walk_at "go"
            refine Gx.ic (by omega) ?_
            rw [hc]
            walk_at "go"
            rw [nz]
            refine Gx.if_d (fun h1 => ?_) (fun h1 => ?_)
            · walk_at "go"
              have hne : n ≠ w := fun e => h1 (by rw [e, Nat.mod_self])
              refine Bs.ix (by omega) (by omega) (by omega) ?_
              rw [show ((n : Int) - (w : Int) - 1).toNat = n - w - 1 by omega]
              walk_at "go"
              rw [Bs.eq1]
              refine Gx.if_b (fun h2 => ?_) (fun h2 => ?_)
              · walk_at "go"
                refine ⟨rfl, ?_⟩
                rw [if_pos ⟨h1, h2⟩]; rfl
              · walk_at "go"
                refine ⟨rfl, ?_⟩
                rw [if_neg (fun z => by rw [h2] at z; exact absurd z.2 (by decide))]; rfl
            · walk_at "go"
              refine ⟨rfl, ?_⟩
              rw [if_neg (fun z => h1 z.1)]; rfl
          · rintro σ' H2 ⟨rfl, rfl⟩
            generalize ht2 : (t + (if n % w ≠ 0 ∧ bs.getD (n - w - 1) false = true then 2 else 0) : Nat) = t2
            refine Gx.cut (fun σ' H3 => H3 = H2 ∧ σ' = [some (.int (w : Int)), some (.str (Bs.S bs)), some (.int (n : Int)), some (.int ((t2 + (if bs.getD (n - w) false = true then 4 else 0) : Nat) : Int))]) ?_ ?_
            · walk_at "go"
              refine Bs.ix (by omega) (by omega) (by omega) ?_
              rw [show ((n : Int) - (w : Int)).toNat = n - w by omega]
              walk_at "go"
              rw [Bs.eq1]
              refine Gx.if_b (fun h2 => ?_) (fun h2 => ?_)
              · walk_at "go"
                refine ⟨rfl, ?_⟩
                rw [if_pos h2]; rfl
              · walk_at "go"
                refine ⟨rfl, ?_⟩
                rw [if_neg (by rw [h2]; decide)]; rfl
            · rintro σ' H3 ⟨rfl, rfl⟩
              generalize ht3 : (t2 + (if bs.getD (n - w) false = true then 4 else 0) : Nat) = t3
              have fin : ∀ c : Bool, (n % w < w - 1 ∧ bs.getD (n - w + 1) false = true ↔ c = true) → Cx_.ctx w bs n = t3 + (if c = true then 8 else 0) := fun c hc => by
                unfold Cx_.ctx
                rw [if_pos (show w ≤ n by omega), ht]
                have e : (if n % w < w - 1 ∧ bs.getD (n - w + 1) false = true then 8 else 0) = (if c = true then 8 else 0 : Nat) := by
                  by_cases h : c = true
                  · rw [if_pos (hc.mpr h), if_pos h]
                  · rw [if_neg (fun z => h (hc.mp z)), if_neg h]
                rw [e]; omega
              walk_at "go"
              refine Gx.ic (by omega) ?_
              rw [hc]
              walk_at "go"
              refine Gx.if_d (fun h1 => ?_) (fun h1 => ?_)
              · walk_at "go"
                refine Bs.ix (by omega) (by omega) (by omega) ?_
                rw [show ((n : Int) - (w : Int) + 1).toNat = n - w + 1 by omega]
                walk_at "go"
                rw [Bs.eq1]
                refine Gx.if_b (fun h2 => ?_) (fun h2 => ?_)
                · walk_at "go"
                  refine ⟨rfl, ?_⟩
                  rw [fin true (by rw [h2]; constructor <;> intro _ <;> first | trivial | exact ⟨by omega, rfl⟩)]; rfl
                · walk_at "go"
                  refine ⟨rfl, ?_⟩
                  rw [fin false (by rw [h2]; constructor <;> intro z <;> first | exact absurd z.2 (by decide) | exact absurd z (by decide))]; rfl
              · walk_at "go"
                refine ⟨rfl, ?_⟩
                rw [fin false ⟨fun z => absurd z.1 (by omega), fun z => absurd z (by decide)⟩]; rfl
        · walk_at "go"
          refine ⟨rfl, ?_⟩
          unfold Cx_.ctx
          rw [if_neg (show ¬ w ≤ n by omega), ht]; rfl
      · rintro σ' H2 ⟨rfl, rfl⟩
        walk_at "go"
        exact q

theorem cp_law_context {w n : Int} {bs : List Bool} {H : Hp} {Q : VK} {E : XK} (hw : 0 < w) (h0 : 0 ≤ n) (hn : n ≤ bs.length) (hb : bs.length ≤ 100000) (q : Q (.int (Cx_.ctx w.toNat bs n.toNat : Nat)) H) : Gx.CP sp_law_context [.int w, .str (Bs.S bs), .int n] [] H Q E :=
  ⟨w.toNat, n.toNat, bs, by rw [List.append_nil, Int.toNat_of_nonneg h0, Int.toNat_of_nonneg (Int.le_of_lt hw)], by omega, by omega, hb, q⟩

def sp_law_interval : Sp := fun vs H Q _ => ∃ (w : Nat) (bs : List Bool), vs = [.int (w : Int), .str (Bs.S bs)] ∧ 0 < w ∧ bs.length ≤ 100000 ∧
  ∀ (p : Addr) (H' : Hp), H p = none → Same H H' → H' p = some (.lst [.int (Iv.lo w bs : Nat), .int (Iv.sz w bs : Nat), .int (Iv.wh w bs : Nat)]) → Q (.ref p) H'

theorem sc_law_interval : FnScope ["width", "bits", "low", "size", "whole", "zeros", "ones", "place", "here", "parts"] ["width", "bits"] (defScope s_law_interval) := ⟨rfl, rfl, rfl, by decide +kernel, rfl, by decide +kernel, by decide +kernel⟩
theorem ok_law_interval (T : Tx K mg) : FnOk P w K mg base CX0 2 T.law_interval.a T.law_interval.d ["width", "bits"] (sp_law_interval) := by
  refine T.law_interval.f.ok sc_law_interval (fun vs H Q E h => ?_) (fun cdv A outer s H vs Q E hr h => ⟨_, pss_cons (ps_set (i := 2) sc_law_interval.nd rfl (Or.inl rfl) (pe_int))
      (pss_cons (ps_set (i := 3) sc_law_interval.nd rfl (Or.inl rfl) (pe_int))
      (pss_cons (ps_set (i := 4) sc_law_interval.nd rfl (Or.inl rfl) (pe_int))
      (pss_cons (ps_set (i := 5) sc_law_interval.nd rfl (Or.inl rfl) (pe_op Gx.o_rep (pe_lst (pa_cons (pe_int) pa_nil)) (pe_int)))
      (pss_cons (ps_set (i := 6) sc_law_interval.nd rfl (Or.inl rfl) (pe_op Gx.o_rep (pe_lst (pa_cons (pe_int) pa_nil)) (pe_int)))
      (pss_cons (ps_for PassesOwn.never rfl (pi_range1 rfl T.n_range (pa_cons (pe_callB Gx.c_len rfl T.n_len (by decide +kernel) (pa_cons (pv 1) pa_nil)) pa_nil)) (pg_name (i := 7) sc_law_interval.nd rfl (Or.inl rfl))
      (pss_cons (ps_set (i := 8) sc_law_interval.nd rfl (Or.inl rfl) (pe_call (ok_law_context T) (hr.mono (by decide)) rfl T.law_context.g T.law_context.f.kp T.law_context.b .nil pass0 (pa_cons (pv 0) (pa_cons (pv 1) (pa_cons (pv 7) pa_nil)))))
      (pss_cons (ps_set (i := 9) sc_law_interval.nd rfl (Or.inl rfl) (pe_op op_add (pe_op op_add (pe_ix ix_seq (pv 5) (pv 8) (fun _ _ => rfl)) (pe_ix ix_seq (pv 6) (pv 8) (fun _ _ => rfl))) (pe_int)))
      (pss_cons (ps_set (i := 2) sc_law_interval.nd rfl (Or.inl rfl) (pe_op op_mul (pv 2) (pv 9)))
      (pss_cons (ps_set (i := 4) sc_law_interval.nd rfl (Or.inl rfl) (pe_op op_mul (pv 4) (pv 9)))
      (pss_one (ps_if (pt_cmpR op_eq (pe_ix ix_seq (pv 1) (pv 7) (fun _ _ => rfl)) (pe_str) (nomark _)) (pss_cons (ps_set (i := 2) sc_law_interval.nd rfl (Or.inl rfl) (pe_op op_add (pv 2) (pe_op op_mul (pv 3) (pe_op op_add (pe_ix ix_seq (pv 5) (pv 8) (fun _ _ => rfl)) (pe_int)))))
      (pss_cons (ps_set (i := 3) sc_law_interval.nd rfl (Or.inl rfl) (pe_op op_mul (pv 3) (pe_op op_add (pe_ix ix_seq (pv 6) (pv 8) (fun _ _ => rfl)) (pe_int))))
      (pss_one (ps_asg (pe_op op_add (pe_ix ix_seq (pv 6) (pv 8) (fun _ _ => rfl)) (pe_int)) (pg_sub (pv 6) (pv 8) set_list))))) (pss_cons (ps_set (i := 3) sc_law_interval.nd rfl (Or.inl rfl) (pe_op op_mul (pv 3) (pe_op op_add (pe_ix ix_seq (pv 5) (pv 8) (fun _ _ => rfl)) (pe_int))))
      (pss_one (ps_asg (pe_op op_add (pe_ix ix_seq (pv 5) (pv 8) (fun _ _ => rfl)) (pe_int)) (pg_sub (pv 5) (pv 8) set_list)))))))))))
      (pss_one (ps_ret (pe_lst (pa_cons (pv 2) (pa_cons (pv 3) (pa_cons (pv 4) pa_nil))))))))))), ?_⟩)
  · obtain ⟨w, bs, rfl, _⟩ := h
    rfl
  · skip
    obtain ⟨w, bs, rfl, hw, hb, q⟩ := h
    walk_at "go"
    refine Gx.lstP (by show 1 ≤ sizeLine; decide) fun l1 hl1 => ?_
    walk_at "go"
    refine Gx.repN (n := 16) upd_same (by decide) fun z hz => ?_
    walk_at "go"
    refine Gx.lstP (by show 1 ≤ sizeLine; decide) fun l2 hl2 => ?_
    walk_at "go"
    refine Gx.repN (n := 16) upd_same (by decide) fun o ho => ?_
    have zl2 : z ≠ l2 := fun e => by rw [← e, upd_same] at hl2; cases hl2
    have zo : z ≠ o := fun e => by rw [← e, upd_ne zl2, upd_same] at ho; cases ho
    have s0 : Same H (upd (upd H l1 (.lst [.int 0])) z (.lst (List.replicate 16 (.int 0)))) := (Gx.same_new hl1).trans (Gx.same_new hz)
    have hz0 : H z = none := (Gx.same_new hl1).free hz
    have ho0 : H o = none := (s0.trans (Gx.same_new hl2)).free ho
    walk_at "go"
    refine Bs.lenB (by omega) ?_
    walk_at "go"
    refine Gx.r1 (by omega) (by omega) ?_
    refine Gx.fw walk_range (fun i σ' H' => Same H H' ∧ H' z = some (.lst (Iv.cl w bs false i)) ∧ H' o = some (.lst (Iv.cl w bs true i)) ∧ ∃ pl he pa : Option V,
      σ' = [some (.int (w : Int)), some (.str (Bs.S bs)), some (.int ((Iv.iv w bs i).1 : Nat)), some (.int ((Iv.iv w bs i).2.1 : Nat)), some (.int ((Iv.iv w bs i).2.2 : Nat)), some (.ref z), some (.ref o), pl, he, pa])
      ⟨(s0.trans (Gx.same_new hl2)).trans (Gx.same_new ho), by rw [upd_ne zo, upd_ne zl2, upd_same]; rfl, by rw [upd_same]; rfl, none, none, none, rfl⟩ (fun _ _ _ _ _ => trivial) ?_ ?_
    · rintro i x σ' H2 H2' hi ⟨s2, h1, h2, pl, he, pa, rfl⟩ ⟨rfl, hx⟩
      have hx2 : x = .int (i : Int) := hx.trans (congrArg V.int (by omega))
      subst hx2
      have hi2 : i < bs.length := by omega
      have hc16 := Cx_.ctx_lt w bs i
      have hcz := Iv.cnt_le w bs false i (Cx_.ctx w bs i)
      have hco := Iv.cnt_le w bs true i (Cx_.ctx w bs i)
      walk_at "go"
      refine cp_law_context (by omega) (by omega) (by omega) hb ?_
      rw [Int.toNat_natCast, Int.toNat_natCast]
      walk_at "go"
      refine Gx.ixL (SqL.of h1) (Iv.cl_at hc16) ?_
      walk_at "go"
      refine Gx.ixL (SqL.of h2) (Iv.cl_at hc16) ?_
      walk_at "go"
      refine Gx.ic (.inr (by omega)) ?_
      walk_at "go"
      refine Gx.ic (.inr (by omega)) ?_
      walk_at "go"
      refine Bs.ix (by omega) (by omega) (by omega) ?_
      rw [Int.toNat_natCast]
      walk_at "go"
      rw [Bs.eq1]
      refine Gx.if_b (fun hb1 => ?_) (fun hb1 => ?_)
      · walk_at "go"
        refine Gx.ixL (SqL.of h1) (Iv.cl_at hc16) ?_
        walk_at "go"
        refine Gx.ic (.inr (by omega)) ?_
        walk_at "go"
        refine Gx.ixL (SqL.of h2) (Iv.cl_at hc16) ?_
        walk_at "go"
        refine Gx.ic (.inr (by omega)) ?_
        walk_at "go"
        refine Gx.ixL (SqL.of h2) (Iv.cl_at hc16) ?_
        walk_at "go"
        refine Gx.setL h2 (Iv.ixN_nat (by rw [Iv.cl_len]; exact hc16)) ?_
        rw [Iv.cl_set hb1]
        obtain ⟨e1, e2, e3⟩ := Iv.iv_one (w := w) hb1
        refine ⟨Gx.same_up ho0 s2, by rw [upd_ne zo, h1, Iv.cl_keep (by rw [hb1]; decide)], upd_same, some (.int (i : Int)), some (.int (Cx_.ctx w bs i : Nat)), some (.int (((Iv.cnt w bs false i (Cx_.ctx w bs i) : Nat) : Int) + (Iv.cnt w bs true i (Cx_.ctx w bs i) : Nat) + 2)), ?_⟩
        rw [e1, e2, e3]; rfl
      · walk_at "go"
        refine Gx.ixL (SqL.of h1) (Iv.cl_at hc16) ?_
        walk_at "go"
        refine Gx.ic (.inr (by omega)) ?_
        walk_at "go"
        refine Gx.ixL (SqL.of h1) (Iv.cl_at hc16) ?_
        walk_at "go"
        refine Gx.setL h1 (Iv.ixN_nat (by rw [Iv.cl_len]; exact hc16)) ?_
        rw [Iv.cl_set hb1]
        obtain ⟨e1, e2, e3⟩ := Iv.iv_zero (w := w) (bs := bs) (n := i) (by rw [hb1]; decide)
        refine ⟨Gx.same_up hz0 s2, upd_same, by rw [upd_ne zo.symm, h2, Iv.cl_keep (by rw [hb1]; decide)], some (.int (i : Int)), some (.int (Cx_.ctx w bs i : Nat)), some (.int (((Iv.cnt w bs false i (Cx_.ctx w bs i) : Nat) : Int) + (Iv.cnt w bs true i (Cx_.ctx w bs i) : Nat) + 2)), ?_⟩
        rw [e1, e2, e3]; rfl
    · rintro σ' H2 ⟨s2, h1, h2, pl, he, pa, rfl⟩
      walk_at "go"
      rw [Int.toNat_natCast]
      refine Gx.lstP (by show 3 ≤ sizeLine; decide) fun p hp => ?_
      exact q p _ (s2.free hp) (s2.trans (Gx.same_new hp)) upd_same

theorem cp_law_interval {w : Int} {bs : List Bool} {H : Hp} {Q : VK} {E : XK} (hw : 0 < w) (hb : bs.length ≤ 100000)
    (q : ∀ (p : Addr) (H' : Hp), H p = none → Same H H' → H' p = some (.lst [.int (Iv.lo w.toNat bs : Nat), .int (Iv.sz w.toNat bs : Nat), .int (Iv.wh w.toNat bs : Nat)]) → Q (.ref p) H') : Gx.CP sp_law_interval [.int w, .str (Bs.S bs)] [] H Q E :=
  ⟨w.toNat, bs, by rw [List.append_nil, Int.toNat_of_nonneg (Int.le_of_lt hw)], by omega, hb, q⟩

/-- a cell of the script, 0 beyond its end -/
def sp_law_cell (K : PySem.W.Frag) : Sp := fun vs H Q _ => ∃ (a : Addr) (ns : List Int) (k : Nat), vs = [.ref a, .int (k : Int)] ∧ SqL K H a (ns.map V.int) ∧ k < 100000 ∧ Q (.int (ns.getD k 0)) H

theorem sc_law_cell : FnScope ["script", "k"] ["script", "k"] (defScope s_law_cell) := ⟨rfl, rfl, rfl, by decide +kernel, rfl, by decide +kernel, by decide +kernel⟩
theorem ok_law_cell (T : Tx K mg) : FnOk P w K mg base CX0 1 T.law_cell.a T.law_cell.d ["script", "k"] (sp_law_cell K) := by
  refine T.law_cell.f.ok sc_law_cell (fun vs H Q E h => ?_) (fun cdv A outer s H vs Q E hr h => ⟨_, pss_cons (ps_if (pt_cmpR op_lt (pv 1) (pe_callB Gx.c_len rfl T.n_len (by decide +kernel) (pa_cons (pv 0) pa_nil)) (nomark _)) (pss_one (ps_ret (pe_ix ix_seq (pv 0) (pv 1) (fun _ _ => rfl)))) (pss_nil))
      (pss_one (ps_ret (pe_int))), ?_⟩)
  · obtain ⟨a, ns, k, rfl, _⟩ := h
    rfl
  · skip
    obtain ⟨a, ns, k, rfl, hs, hk, q⟩ := h
    walk_at "go"
    refine Gx.lenL hs ?_
    walk_at "go"
    refine Gx.if_d (fun hlt => ?_) (fun hge => ?_)
    · rw [List.length_map] at hlt
      walk_at "go"
      exact Gx.ixL hs (Gx.at_map (by omega)) q
    · rw [List.length_map] at hge
      walk_at "go"
      have e : ns.getD k 0 = 0 := by
        rw [List.getD_eq_getElem?_getD, List.getElem?_eq_none (by omega)]; rfl
      rw [e] at q
      exact q

theorem cp_law_cell {K : PySem.W.Frag} {a : Addr} {ns : List Int} {k : Int} {H : Hp} {Q : VK} {E : XK} (hs : SqL K H a (ns.map V.int)) (h0 : 0 ≤ k) (h1 : k < 100000) (q : ∀ z : Int, (z ∈ ns ∨ z = 0) → Q (.int z) H) : Gx.CP (sp_law_cell K) [.ref a, .int k] [] H Q E := by
  refine ⟨a, ns, k.toNat, by rw [List.append_nil, Int.toNat_of_nonneg h0], hs, by omega, q _ ?_⟩
  rw [List.getD_eq_getElem?_getD]
  by_cases h : k.toNat < ns.length
  · rw [List.getElem?_eq_getElem h]; exact .inl (List.getElem_mem h)
  · rw [List.getElem?_eq_none (by omega)]; exact .inr rfl

/-- a new list of ints, as the script has them -/
def sp_law_digits (K : PySem.W.Frag) : Sp := fun vs H Q _ => ∃ (a : Addr) (ns : List Int) (f l : Nat), vs = [.ref a, .int (f : Int), .int (l : Int)] ∧ SqL K H a (ns.map V.int) ∧ f ≤ l ∧ l ≤ 1000 ∧
  ∀ (xs : List Int) (p : Addr) (H' : Hp), H p = none → Same H H' → H' p = some (.lst (xs.map V.int)) → Q (.ref p) H'

theorem sc_law_digits : FnScope ["script", "first", "last", "digits", "k", "cell", "turn", "seed"] ["script", "first", "last"] (defScope s_law_digits) := ⟨rfl, rfl, rfl, by decide +kernel, rfl, by decide +kernel, by decide +kernel⟩
theorem ok_law_digits (T : Tx K mg) : FnOk P w K mg base CX0 2 T.law_digits.a T.law_digits.d ["script", "first", "last"] (sp_law_digits K) := by
  refine T.law_digits.f.ok sc_law_digits (fun vs H Q E h => ?_) (fun cdv A outer s H vs Q E hr h => ⟨_, pss_cons (ps_set (i := 3) sc_law_digits.nd rfl (Or.inl rfl) (pe_lst pa_nil))
      (pss_cons (ps_for PassesOwn.never rfl (pi_range2 rfl T.n_range (pa_cons (pv 1) (pa_cons (pv 2) pa_nil))) (pg_name (i := 4) sc_law_digits.nd rfl (Or.inl rfl))
      (pss_cons (ps_set (i := 5) sc_law_digits.nd rfl (Or.inl rfl) (pe_call (ok_law_cell T) (hr.mono (by decide)) rfl T.law_cell.g T.law_cell.f.kp T.law_cell.b .nil pass0 (pa_cons (pv 0) (pa_cons (pv 4) pa_nil))))
      (C8.pss_cut (ps_if (pt_cmpR op_lt (pv 5) (pe_int) (nomark _)) (pss_one (ps_set (i := 5) sc_law_digits.nd rfl (Or.inl rfl) (pe_op op_sub (pe_int) (pe_op op_mul (pe_int) (pv 5))))) (pss_nil))
      (pss_one (ps_if (pt_cmpR op_ge (pv 5) (pe_int) (nomark _)) (pss_one (ps_for PassesOwn.never rfl (pi_range1 rfl T.n_range (pa_cons (pe_int) pa_nil)) (pg_name (i := 6) sc_law_digits.nd rfl (Or.inl rfl))
      (pss_one (ps_if (pt_cmpR op_gt (pv 5) (pe_int) (nomark _)) (pss_cons (ps_expr (pe_bm PySem.F.plainAttrs_list PySem.F.slot_list_append PySem.F.type_list_append mt_append (pv 3) (pa_cons (pe_op op_mod (pe_callTy Gx.c_int rfl T.n_int (by decide +kernel) (pa_cons (pv 5) pa_nil)) (pe_int)) pa_nil)))
      (pss_one (ps_set (i := 5) sc_law_digits.nd rfl (Or.inl rfl) (pe_op op_fdiv (pv 5) (pe_int))))) (pss_nil))))) (pss_cons (ps_set (i := 7) sc_law_digits.nd rfl (Or.inl rfl) (pe_op op_mod (pe_callTy Gx.c_int rfl T.n_int (by decide +kernel) (pa_cons (pe_op op_add (pe_op op_add (pe_op op_mul (pv 5) (pe_int)) (pe_op op_mul (pv 4) (pe_int))) (pe_int)) pa_nil)) (pe_int)))
      (pss_one (ps_for PassesOwn.never rfl (pi_range1 rfl T.n_range (pa_cons (pe_int) pa_nil)) (pg_name (i := 6) sc_law_digits.nd rfl (Or.inl rfl))
      (pss_cons (ps_set (i := 7) sc_law_digits.nd rfl (Or.inl rfl) (pe_op op_mod (pe_callTy Gx.c_int rfl T.n_int (by decide +kernel) (pa_cons (pe_op op_add (pe_op op_add (pe_op op_mul (pv 7) (pe_int)) (pe_op op_mul (pe_int) (pv 6))) (pe_int)) pa_nil)) (pe_int)))
      (pss_one (ps_expr (pe_bm PySem.F.plainAttrs_list PySem.F.slot_list_append PySem.F.type_list_append mt_append (pv 3) (pa_cons (pe_op op_mod (pe_callTy Gx.c_int rfl T.n_int (by decide +kernel) (pa_cons (pe_op op_fdiv (pv 7) (pe_int)) pa_nil)) (pe_int)) pa_nil)))))))))))))
      (pss_one (ps_ret (pv 3)))), ?_⟩)
  · obtain ⟨a, ns, f, l, rfl, _⟩ := h
    rfl
  · skip
    obtain ⟨a, ns, f, l, rfl, hs, hfl, hl, q⟩ := h
    walk_at "go"
    refine Gx.lstP (Nat.zero_le _) fun p hp => ?_
    walk_at "go"
    refine Gx.r2 (by omega) ?_
    refine Gx.fw walk_range (fun i σ' H' => ∃ (xs : List Int) (k c t sd : Option V), xs.length ≤ 60 * i ∧ Same H H' ∧ H' p = some (.lst (xs.map V.int)) ∧
      σ' = [some (.ref a), some (.int (f : Int)), some (.int (l : Int)), some (.ref p), k, c, t, sd]) ?_ (fun _ _ _ _ _ => trivial) ?_ ?_
    · exact ⟨[], none, none, none, none, Nat.zero_le _, Gx.same_new hp, upd_same, rfl⟩
    · rintro i x σ' H1 H1' hi ⟨xs, k, c, t, sd, hx, s1, hL, rfl⟩ ⟨rfl, hxi⟩
      have hxi2 : x = .int ((f + i : Nat) : Int) := hxi.trans (congrArg V.int (by omega))
      subst hxi2
      have hz : ∀ ys : List Int, ys.length ≤ 60 * i + 60 → (ys.map V.int).length < sizeLine := fun ys h => by rw [List.length_map, sizeLine_eq]; omega
      walk_at "go"
      refine cp_law_cell (s1.seq hs) (by omega) (by omega) fun c0 _ => ?_
      walk_at "go"
      refine Gx.cut (fun σ' H' => H' = H1' ∧ ∃ c1 : Int, σ' = [some (.ref a), some (.int (f : Int)), some (.int (l : Int)), some (.ref p), some (.int ((f + i : Nat) : Int)), some (.int c1), t, sd]) ?_ ?_
      · walk_at "go"
        refine Gx.if_d (fun _ => ?_) (fun _ => ?_)
        · walk_at "go"
          refine Gx.ic (.inl (by decide)) ?_
          walk_at "go"
          exact ⟨rfl, _, rfl⟩
        · walk_at "go"
          exact ⟨rfl, _, rfl⟩
      · rintro σ' H' ⟨rfl, c1, rfl⟩
        walk_at "go"
        refine Gx.if_b (fun _ => ?_) (fun _ => ?_)
        · walk_at "go"
          refine Gx.r1 (by decide) (by decide) ?_
          refine Gx.fw walk_range (fun j σ' H' => ∃ (ys : List Int) (c t : Option V) (cc : Int), ys.length ≤ 60 * i + j ∧ Same H H' ∧ H' p = some (.lst (ys.map V.int)) ∧
            σ' = [some (.ref a), some (.int (f : Int)), some (.int (l : Int)), some (.ref p), some (.int ((f + i : Nat) : Int)), some (.int cc), t, sd]) ⟨xs, none, t, c1, by omega, s1, hL, rfl⟩ (fun _ _ _ _ _ => trivial) ?_ ?_
          · rintro j x σ' H2 H2' hj ⟨ys, _, t, cc, hy, s2, hL2, rfl⟩ ⟨rfl, hxj⟩
            walk_at "go"
            refine Gx.if_b (fun _ => ?_) (fun _ => ?_)
            · walk_at "go"
              refine Gx.bmS (Gx.tyL (SqL.of hL2)) ?_
              walk_at "go"
              refine Gx.ic (by decide) ?_
              walk_at "go"
              refine Gx.app hL2 (hz ys (by omega)) ?_
              walk_at "go"
              refine Gx.ic ⟨by decide, by decide⟩ ?_
              walk_at "go"
              exact ⟨ys ++ [cc % 1000], none, some x, _, by rw [List.length_append, List.length_singleton]; omega, Gx.same_up hp s2, Gx.snoc, rfl⟩
            · walk_at "go"
              exact ⟨ys, none, some x, cc, by omega, s2, hL2, rfl⟩
          · rintro σ' H' ⟨ys, _, t, cc, hy, s2, hL2, rfl⟩
            walk_at "go"
            exact ⟨ys, _, _, _, _, by omega, s2, hL2, rfl⟩
        · walk_at "go"
          refine Gx.ic (.inr (by decide)) ?_
          walk_at "go"
          refine Gx.ic (.inr (by decide)) ?_
          walk_at "go"
          refine Gx.ic (by decide) ?_
          walk_at "go"
          refine Gx.r1 (by decide) (by decide) ?_
          refine Gx.fw walk_range (fun j σ' H' => ∃ (ys : List Int) (t : Option V) (s0 : Int), ys.length ≤ 60 * i + j ∧ Same H H' ∧ H' p = some (.lst (ys.map V.int)) ∧ 
            σ' = [some (.ref a), some (.int (f : Int)), some (.int (l : Int)), some (.ref p), some (.int ((f + i : Nat) : Int)), some (.int c1), t, some (.int s0)]) ⟨xs, t, _, by omega, s1, hL, rfl⟩ (fun _ _ _ _ _ => trivial) ?_ ?_
          · rintro j x σ' H2 H2' hj ⟨ys, t, s0, hy, s2, hL2, rfl⟩ ⟨rfl, hxj⟩
            subst hxj
            walk_at "go"
            refine Gx.ic (.inr (by decide)) ?_
            walk_at "go"
            refine Gx.ic (.inl (by decide)) ?_
            walk_at "go"
            refine Gx.ic (by decide) ?_
            walk_at "go"
            refine Gx.bmS (Gx.tyL (SqL.of hL2)) ?_
            walk_at "go"
            refine Gx.ic ⟨by decide, by decide⟩ ?_
            walk_at "go"
            refine Gx.ic (by decide) ?_
            walk_at "go"
            refine Gx.app hL2 (hz ys (by omega)) ?_
            exact ⟨ys ++ [_], _, _, by rw [List.length_append, List.length_singleton]; omega, Gx.same_up hp s2, Gx.snoc, rfl⟩
          · rintro σ' H' ⟨ys, t, s0, hy, s2, hL2, rfl⟩
            walk_at "go"
            exact ⟨ys, _, _, _, _, by omega, s2, hL2, rfl⟩
    · rintro σ' H' ⟨xs, k, c, t, sd, hx, s1, hL, rfl⟩
      walk_at "go"
      exact q xs p H' hp s1 hL

theorem cp_law_digits {K : PySem.W.Frag} {a : Addr} {ns : List Int} {f l : Int} {H : Hp} {Q : VK} {E : XK} (hs : SqL K H a (ns.map V.int)) (h0 : 0 ≤ f) (h1 : f ≤ l) (h2 : l ≤ 1000)
    (q : ∀ (xs : List Int) (p : Addr) (H' : Hp), H p = none → Same H H' → H' p = some (.lst (xs.map V.int)) → Q (.ref p) H') : Gx.CP (sp_law_digits K) [.ref a, .int f, .int l] [] H Q E :=
  ⟨a, ns, f.toNat, l.toNat, by rw [List.append_nil, Int.toNat_of_nonneg h0, Int.toNat_of_nonneg (Int.le_trans h0 h1)], hs, by omega, by omega, q⟩

def sp_Coding_shares (C : Addr) : Sp := fun vs H Q _ => ∃ (x z o : Addr) (w : Nat) (bs : List Bool), vs = [.ref x] ∧ Cod C H x z o w bs ∧ 0 < w ∧ bs.length ≤ 100000 ∧
  ∀ (p : Addr), H p = none → Q (.ref p) (upd H p (.tup [.int (Iv.zs w bs (Iv.nx w bs) : Nat), .int (Iv.os w bs (Iv.nx w bs) : Nat)]))

theorem sc_Coding_shares : FnScope ["self", "here"] ["self"] (defScope s_Coding_shares) := ⟨rfl, rfl, rfl, by decide +kernel, rfl, by decide +kernel, by decide +kernel⟩
theorem ok_Coding_shares (T : Tx K mg) : FnOk P w K mg base CX0 2 T.Coding_shares.a T.Coding_shares.d ["self"] (sp_Coding_shares T.a_Coding) := by
  refine T.Coding_shares.f.ok sc_Coding_shares (fun vs H Q E h => ?_) (fun cdv A outer s H vs Q E hr h => ⟨_, pss_cons (ps_set (i := 1) sc_Coding_shares.nd rfl (Or.inl rfl) (pe_call (ok_context T) (hr.mono (by decide)) rfl T.context.g T.context.f.kp T.context.b .nil pass0 (pa_cons (pe_fld (pv 0) rfl) (pa_cons (pe_fld (pv 0) rfl) (pa_cons (pe_callB Gx.c_len rfl T.n_len (by decide +kernel) (pa_cons (pe_fld (pv 0) rfl) pa_nil)) pa_nil)))))
      (pss_one (ps_ret (pe_tup (pa_cons (pe_ix ix_seq (pe_fld (pv 0) rfl) (pv 1) (fun _ _ => rfl)) (pa_cons (pe_ix ix_seq (pe_fld (pv 0) rfl) (pv 1) (fun _ _ => rfl)) pa_nil))))), ?_⟩)
  · obtain ⟨x, z, o, w, bs, rfl, _⟩ := h
    rfl
  · skip
    obtain ⟨x, z, o, w, bs, rfl, ⟨⟨dx, hx⟩, hz, ho, hzo⟩, hw, hb, q⟩ := h
    walk_at "go"
    refine Bs.lenB (by omega) ?_
    walk_at "go"
    refine cp_context (by omega) (by omega) (by omega) hb ?_
    rw [Int.toNat_natCast, Int.toNat_natCast]
    walk_at "go"
    refine Gx.ixL (SqL.of hz) nx_at ?_
    walk_at "go"
    refine Gx.ixL (SqL.of ho) nx_at ?_
    walk_at "go"
    exact Gx.tupP (by show 2 ≤ sizeLine; decide) q

theorem cp_Coding_shares {C x z o : Addr} {w : Nat} {bs : List Bool} {H : Hp} {Q : VK} {E : XK} (c : Cod C H x z o w bs) (hw : 0 < w) (hb : bs.length ≤ 100000)
    (q : ∀ (p : Addr), H p = none → Q (.ref p) (upd H p (.tup [.int (Iv.zs w bs (Iv.nx w bs) : Nat), .int (Iv.os w bs (Iv.nx w bs) : Nat)]))) : Gx.CP (sp_Coding_shares C) [.ref x] [] H Q E := ⟨x, z, o, w, bs, rfl, c, hw, hb, q⟩

def sp_shares : Sp := fun vs H Q _ => ∃ (w n : Nat) (bs : List Bool), vs = [.int (w : Int), .str (Bs.S bs), .int (n : Int)] ∧ 0 < w ∧ n ≤ bs.length ∧ bs.length ≤ 100000 ∧
  ∀ (p : Addr) (H' : Hp), Same H H' → H' p = some (.tup [.int (Iv.zs w (bs.take n) (Iv.nx w (bs.take n)) : Nat), .int (Iv.os w (bs.take n) (Iv.nx w (bs.take n)) : Nat)]) → Q (.ref p) H'

theorem sc_shares : FnScope ["width", "bits", "place"] ["width", "bits", "place"] (defScope s_shares) := ⟨rfl, rfl, rfl, by decide +kernel, rfl, by decide +kernel, by decide +kernel⟩
theorem ok_shares (T : Tx K mg) : FnOk P w K mg base CX0 4 T.shares.a T.shares.d ["width", "bits", "place"] (sp_shares) := by
  refine T.shares.f.ok sc_shares (fun vs H Q E h => ?_) (fun cdv A outer s H vs Q E hr h => ⟨_, pss_one (ps_ret (pe_meth0 (pe_call (ok_coding_of T) (hr.mono (by decide)) rfl T.coding_of.g T.coding_of.f.kp T.coding_of.b .nil pass0 (pa_cons (pv 0) (pa_cons (pe_slice sl_str (pv 1) po_none (po_some (pv 2))) pa_nil))) T.cl_Coding T.Coding_shares.m (ok_Coding_shares T) (hr.mono (by decide)) T.Coding_shares.b .nil pass0)), ?_⟩)
  · obtain ⟨w, n, bs, rfl, _⟩ := h
    rfl
  · skip
    obtain ⟨w, n, bs, rfl, hw, hn, hb, q⟩ := h
    walk_at "go"
    refine Gx.slS (by rw [Bs.len, sizeLine_eq]; omega) ?_
    rw [Bs.cut_hi]
    walk_at "go"
    have hl : (bs.take n).length ≤ 100000 := by rw [List.length_take]; omega
    refine cp_coding_of (by omega) hl fun x z o H1 hx hz ho s1 c1 => ?_
    rw [Int.toNat_natCast] at c1
    obtain ⟨dx, hx1⟩ := c1.ob
    walk_at "go"
    refine Gx.mp hx1 no_Coding_shares ?_
    walk_at "go"
    refine cp_Coding_shares c1 hw hl fun p hp => ?_
    exact q p _ (s1.trans (Gx.same_new hp)) upd_same

theorem cp_shares {w n : Int} {bs : List Bool} {H : Hp} {Q : VK} {E : XK} (hw : 0 < w) (h0 : 0 ≤ n) (hn : n ≤ bs.length) (hb : bs.length ≤ 100000)
    (q : ∀ (p : Addr) (H' : Hp), Same H H' → H' p = some (.tup [.int (Iv.zs w.toNat (bs.take n.toNat) (Iv.nx w.toNat (bs.take n.toNat)) : Nat), .int (Iv.os w.toNat (bs.take n.toNat) (Iv.nx w.toNat (bs.take n.toNat)) : Nat)]) → Q (.ref p) H') :
    Gx.CP sp_shares [.int w, .str (Bs.S bs), .int n] [] H Q E :=
  ⟨w.toNat, n.toNat, bs, by rw [List.append_nil, Int.toNat_of_nonneg (Int.le_of_lt hw), Int.toNat_of_nonneg h0], by omega, by omega, hb, q⟩

def sp_law_shares : Sp := fun vs H Q _ => ∃ (w n : Nat) (bs : List Bool), vs = [.int (w : Int), .str (Bs.S bs), .int (n : Int)] ∧ 0 < w ∧ n ≤ bs.length ∧ bs.length ≤ 100000 ∧
  ∀ (p : Addr), H p = none → Q (.ref p) (upd H p (.tup [.int (1 + Iv.cnt w bs false n (Cx_.ctx w bs n) : Nat), .int (1 + Iv.cnt w bs true n (Cx_.ctx w bs n) : Nat)]))

theorem sc_law_shares : FnScope ["width", "bits", "place", "here", "zeros", "ones", "k"] ["width", "bits", "place"] (defScope s_law_shares) := ⟨rfl, rfl, rfl, by decide +kernel, rfl, by decide +kernel, by decide +kernel⟩
theorem ok_law_shares (T : Tx K mg) : FnOk P w K mg base CX0 2 T.law_shares.a T.law_shares.d ["width", "bits", "place"] (sp_law_shares) := by
  refine T.law_shares.f.ok sc_law_shares (fun vs H Q E h => ?_) (fun cdv A outer s H vs Q E hr h => ⟨_, pss_cons (ps_set (i := 3) sc_law_shares.nd rfl (Or.inl rfl) (pe_call (ok_law_context T) (hr.mono (by decide)) rfl T.law_context.g T.law_context.f.kp T.law_context.b .nil pass0 (pa_cons (pv 0) (pa_cons (pv 1) (pa_cons (pv 2) pa_nil)))))
      (pss_cons (ps_set (i := 4) sc_law_shares.nd rfl (Or.inl rfl) (pe_int))
      (pss_cons (ps_set (i := 5) sc_law_shares.nd rfl (Or.inl rfl) (pe_int))
      (pss_cons (ps_for PassesOwn.never rfl (pi_range1 rfl T.n_range (pa_cons (pv 2) pa_nil)) (pg_name (i := 6) sc_law_shares.nd rfl (Or.inl rfl))
      (pss_one (ps_if (pt_cmpR op_eq (pe_call (ok_law_context T) (hr.mono (by decide)) rfl T.law_context.g T.law_context.f.kp T.law_context.b .nil pass0 (pa_cons (pv 0) (pa_cons (pv 1) (pa_cons (pv 6) pa_nil)))) (pv 3) (nomark _)) (pss_one (ps_if (pt_cmpR op_eq (pe_ix ix_seq (pv 1) (pv 6) (fun _ _ => rfl)) (pe_str) (nomark _)) (pss_one (ps_set (i := 5) sc_law_shares.nd rfl (Or.inl rfl) (pe_op op_add (pv 5) (pe_int)))) (pss_one (ps_set (i := 4) sc_law_shares.nd rfl (Or.inl rfl) (pe_op op_add (pv 4) (pe_int)))))) (pss_nil))))
      (pss_one (ps_ret (pe_tup (pa_cons (pv 4) (pa_cons (pv 5) pa_nil)))))))), ?_⟩)
  · obtain ⟨w, n, bs, rfl, _⟩ := h
    rfl
  · skip
    obtain ⟨w, n, bs, rfl, hw, hn, hb, q⟩ := h
    walk_at "go"
    refine cp_law_context (by omega) (by omega) (by omega) hb ?_
    rw [Int.toNat_natCast, Int.toNat_natCast]
    generalize hc : Cx_.ctx w bs n = c at *
    walk_at "go"
    refine Gx.r1 (by omega) (by omega) ?_
    refine Gx.fw walk_range (fun i σ' H' => H' = H ∧ ∃ kv : Option V, σ' = [some (.int (w : Int)), some (.str (Bs.S bs)), some (.int (n : Int)), some (.int (c : Int)), some (.int (1 + Iv.cnt w bs false i c : Nat)), some (.int (1 + Iv.cnt w bs true i c : Nat)), kv])
      ⟨rfl, none, rfl⟩ (fun _ _ _ _ _ => trivial) ?_ ?_
    · rintro i x σ' H2 H2' hi ⟨rfl, kv, rfl⟩ ⟨rfl, hx⟩
      have hx2 : x = .int (i : Int) := hx.trans (congrArg V.int (by omega))
      subst hx2
      have hi2 : i < n := by omega
      have z0 : ∀ b : Bool, Iv.cnt w bs b (i + 1) c = Iv.cnt w bs b i c + if Cx_.ctx w bs i = c ∧ bs.getD i false = b then 1 else 0 := fun b => rfl
      walk_at "go"
      refine cp_law_context (by omega) (by omega) (by omega) hb ?_
      rw [Int.toNat_natCast, Int.toNat_natCast]
      walk_at "go"
      refine Gx.if_d (fun he => ?_) (fun he => ?_)
      · walk_at "go"
        refine Bs.ix (by omega) (by omega) (by omega) ?_
        rw [Int.toNat_natCast]
        walk_at "go"
        rw [Bs.eq1]
        refine Gx.if_b (fun hb1 => ?_) (fun hb1 => ?_)
        · walk_at "go"
          refine ⟨rfl, some (.int (i : Int)), ?_⟩
          rw [z0, z0, if_neg (fun z => by rw [hb1] at z; exact absurd z.2 (by decide)), if_pos ⟨by omega, hb1⟩]; rfl
        · walk_at "go"
          refine ⟨rfl, some (.int (i : Int)), ?_⟩
          rw [z0, z0, if_pos ⟨by omega, hb1⟩, if_neg (fun z => by rw [hb1] at z; exact absurd z.2 (by decide))]; rfl
      · walk_at "go"
        refine ⟨rfl, some (.int (i : Int)), ?_⟩
        rw [z0, z0, if_neg (fun z => he (by omega)), if_neg (fun z => he (by omega))]; rfl
    · rintro σ' H2 ⟨rfl, kv, rfl⟩
      rw [Int.toNat_natCast]
      walk_at "go"
      exact Gx.tupP (by show 2 ≤ sizeLine; decide) q

theorem cp_law_shares {w n : Int} {bs : List Bool} {H : Hp} {Q : VK} {E : XK} (hw : 0 < w) (h0 : 0 ≤ n) (hn : n ≤ bs.length) (hb : bs.length ≤ 100000)
    (q : ∀ (p : Addr), H p = none → Q (.ref p) (upd H p (.tup [.int (1 + Iv.cnt w.toNat bs false n.toNat (Cx_.ctx w.toNat bs n.toNat) : Nat), .int (1 + Iv.cnt w.toNat bs true n.toNat (Cx_.ctx w.toNat bs n.toNat) : Nat)]))) :
    Gx.CP sp_law_shares [.int w, .str (Bs.S bs), .int n] [] H Q E :=
  ⟨w.toNat, n.toNat, bs, by rw [List.append_nil, Int.toNat_of_nonneg (Int.le_of_lt hw), Int.toNat_of_nonneg h0], by omega, by omega, hb, q⟩

def sp_law_is_integer : Sp := fun vs H Q _ => ∃ i : Int, vs = [.int i] ∧ Q (.bl true) H

theorem sc_law_is_integer : FnScope ["actual"] ["actual"] (defScope s_law_is_integer) := ⟨rfl, rfl, rfl, by decide +kernel, rfl, by decide +kernel, by decide +kernel⟩
theorem ok_law_is_integer (T : Tx K mg) : FnOk P w K mg base CX0 1 T.law_is_integer.a T.law_is_integer.d ["actual"] (sp_law_is_integer) := by
  refine T.law_is_integer.f.ok sc_law_is_integer (fun vs H Q E h => ?_) (fun cdv A outer s H vs Q E hr h => ⟨_, pss_one (ps_ret (pe_and (pe_callB call_isi rfl T.n_isinstance (by decide +kernel) (pa_cons (pv 0) (pa_cons (pe_bltn (v := .ty "int") rfl T.n_int (by decide +kernel) rfl) pa_nil))) (pe_one (pe_not (pe_callB call_isi rfl T.n_isinstance (by decide +kernel) (pa_cons (pv 0) (pa_cons (pe_bltn (v := .ty "bool") rfl T.n_bool (by decide +kernel) rfl) pa_nil))))))), ?_⟩)
  · obtain ⟨i, rfl, _⟩ := h
    rfl
  · skip
    obtain ⟨i, rfl, q⟩ := h
    walk_at "go"
    refine Gx.isiI ?_ (by decide +kernel : kitB "int" "int" = some true)
    walk_at "go"
    refine Gx.isiI ?_ (by decide +kernel : kitB "int" "bool" = some false)
    walk_at "go"
    exact q

theorem cp_law_is_integer {i : Int} {H : Hp} {Q : VK} {E : XK} (q : Q (.bl true) H) : Gx.CP sp_law_is_integer [.int i] [] H Q E := ⟨i, rfl, q⟩


theorem sc_law : FnScope ["script", "box", "width", "bits", "place", "actual", "made", "due", "k"] ["script"] (defScope s_law) := ⟨rfl, rfl, rfl, by decide +kernel, rfl, by decide +kernel, by decide +kernel⟩
theorem ok_law (T : Tx K mg) : FnOk P w K mg base CX0 5 T.law.a T.law.d ["script"] (spLaw K) := by
  refine T.law.f.ok sc_law (fun vs H Q E h => ?_) (fun cdv A outer s H vs Q E hr h => ⟨_, pss_cons (ps_set (i := 1) sc_law.nd rfl (Or.inl rfl) (pe_lst (pa_cons (pe_call (ok_law_digits T) (hr.mono (by decide)) rfl T.law_digits.g T.law_digits.f.kp T.law_digits.b .nil pass0 (pa_cons (pv 0) (pa_cons (pe_int) (pa_cons (pe_int) pa_nil)))) (pa_cons (pe_int) pa_nil))))
      (pss_cons (ps_set (i := 2) sc_law.nd rfl (Or.inl rfl) (pe_op op_add (pe_int) (pe_call (ok_law_draw T) (hr.mono (by decide)) rfl T.law_draw.g T.law_draw.f.kp T.law_draw.b .nil pass0 (pa_cons (pv 1) (pa_cons (pe_int) pa_nil)))))
      (C8.pss_cut (ps_if (pt_cmpR op_eq (pe_call (ok_law_draw T) (hr.mono (by decide)) rfl T.law_draw.g T.law_draw.f.kp T.law_draw.b .nil pass0 (pa_cons (pv 1) (pa_cons (pe_int) pa_nil))) (pe_int) (nomark _)) (pss_one (ps_set (i := 2) sc_law.nd rfl (Or.inl rfl) (pe_op op_add (pe_int) (pe_op op_mod (pe_callTy Gx.c_int rfl T.n_int (by decide +kernel) (pa_cons (pv 2) pa_nil)) (pe_int))))) (pss_nil))
      (pss_cons (ps_set (i := 3) sc_law.nd rfl (Or.inl rfl) (pe_call (ok_law_bits T) (hr.mono (by decide)) rfl T.law_bits.g T.law_bits.f.kp T.law_bits.b .nil pass0 (pa_cons (pv 1) (pa_cons (pe_call (ok_law_draw T) (hr.mono (by decide)) rfl T.law_draw.g T.law_draw.f.kp T.law_draw.b .nil pass0 (pa_cons (pv 1) (pa_cons (pe_int) pa_nil))) pa_nil))))
      (pss_cons (ps_for PassesOwn.never rfl (pi_range1 rfl T.n_range (pa_cons (pe_op op_add (pe_callB Gx.c_len rfl T.n_len (by decide +kernel) (pa_cons (pv 3) pa_nil)) (pe_int)) pa_nil)) (pg_name (i := 4) sc_law.nd rfl (Or.inl rfl))
      (pss_cons (ps_set (i := 5) sc_law.nd rfl (Or.inl rfl) (pe_call (ok_shares T) (hr.mono (by decide)) rfl T.shares.g T.shares.f.kp T.shares.b .nil pass0 (pa_cons (pv 2) (pa_cons (pv 3) (pa_cons (pv 4) pa_nil)))))
      (pss_cons (ps_if (PW.pt (pw_or (pt_not (pt_val (pe_callB call_isi rfl T.n_isinstance (by decide +kernel) (pa_cons (pv 5) (pa_cons (pe_bltn (v := .ty "tuple") rfl T.n_tuple (by decide +kernel) rfl) pa_nil))))) (pw_or1 (pt_cmpR (op_neD hr.units) (pv 5) (pe_call (ok_law_shares T) (hr.mono (by decide)) rfl T.law_shares.g T.law_shares.f.kp T.law_shares.b .nil pass0 (pa_cons (pv 2) (pa_cons (pv 3) (pa_cons (pv 4) pa_nil)))) (nomark _))))) (pss_one (ps_ret (pe_bl))) (pss_nil))
      (pss_one (ps_if (PW.pt (pw_or (pt_not (pt_val (pe_call (ok_law_is_integer T) (hr.mono (by decide)) rfl T.law_is_integer.g T.law_is_integer.f.kp T.law_is_integer.b .nil pass0 (pa_cons (pe_ix ix_seq (pv 5) (pe_int) (fun _ _ => rfl)) pa_nil)))) (pw_or1 (pt_not (pt_val (pe_call (ok_law_is_integer T) (hr.mono (by decide)) rfl T.law_is_integer.g T.law_is_integer.f.kp T.law_is_integer.b .nil pass0 (pa_cons (pe_ix ix_seq (pv 5) (pe_int) (fun _ _ => rfl)) pa_nil))))))) (pss_one (ps_ret (pe_bl))) (pss_nil))))))
      (pss_cons (ps_set (i := 6) sc_law.nd rfl (Or.inl rfl) (pe_call (ok_interval T) (hr.mono (by decide)) rfl T.interval.g T.interval.f.kp T.interval.b .nil pass0 (pa_cons (pv 2) (pa_cons (pv 3) pa_nil))))
      (pss_cons (ps_if (PW.pt (pw_or (pt_not (pt_val (pe_callB call_isi rfl T.n_isinstance (by decide +kernel) (pa_cons (pv 6) (pa_cons (pe_bltn (v := .ty "tuple") rfl T.n_tuple (by decide +kernel) rfl) pa_nil))))) (pw_or1 (pt_cmpR op_ne (pe_callB Gx.c_len rfl T.n_len (by decide +kernel) (pa_cons (pv 6) pa_nil)) (pe_int) (nomark _))))) (pss_one (ps_ret (pe_bl))) (pss_nil))
      (pss_cons (ps_set (i := 7) sc_law.nd rfl (Or.inl rfl) (pe_call (ok_law_interval T) (hr.mono (by decide)) rfl T.law_interval.g T.law_interval.f.kp T.law_interval.b .nil pass0 (pa_cons (pv 2) (pa_cons (pv 3) pa_nil))))
      (pss_cons (ps_for PassesOwn.never rfl (pi_range1 rfl T.n_range (pa_cons (pe_int) pa_nil)) (pg_name (i := 8) sc_law.nd rfl (Or.inl rfl))
      (pss_one (ps_if (PW.pt (pw_or (pt_not (pt_val (pe_call (ok_law_is_integer T) (hr.mono (by decide)) rfl T.law_is_integer.g T.law_is_integer.f.kp T.law_is_integer.b .nil pass0 (pa_cons (pe_ix ix_seq (pv 6) (pv 8) (fun _ _ => rfl)) pa_nil)))) (pw_or1 (pt_cmpR op_ne (pe_ix ix_seq (pv 6) (pv 8) (fun _ _ => rfl)) (pe_ix ix_seq (pv 7) (pv 8) (fun _ _ => rfl)) (nomark _))))) (pss_one (ps_ret (pe_bl))) (pss_nil))))
      (pss_one (ps_ret (pe_bl))))))))))), ?_⟩)
  · obtain ⟨a, ns, rfl, _⟩ := h
    rfl
  · skip
    obtain ⟨a, ns, rfl, hs, hlen, hbits, q⟩ := h
    walk_at "go"
    refine cp_law_digits hs (by decide) (by decide) (by decide) fun xs p H1 hp s1 hd => ?_
    walk_at "go"
    refine Gx.lstP (by show 2 ≤ sizeLine; decide) fun b hb => ?_
    walk_at "go"
    have B : Bx.Box H (upd H1 b (.lst [.ref p, .int 0])) b p xs := ⟨Gx.same_up (s1.free hb) s1, s1.free hb, hp, ⟨0, upd_same⟩, by rw [upd_ne (ne_of_none hd hb)]; exact hd⟩
    refine cp_law_draw B (by decide) fun w0 H2 h0 h1 B kp => ?_
    walk_at "go"
    refine Gx.cut (fun σ' H' => ∃ w : Int, 1 ≤ w ∧ w ≤ 16 ∧ Bx.Box H H' b p xs ∧ σ' = [some (.ref a), some (.ref b), some (.int w), none, none, none, none, none, none]) ?_ ?_
    · walk_at "go"
      refine cp_law_draw B (by decide) fun c H3 _ _ B kp => ?_
      walk_at "go"
      refine Gx.if_d (fun _ => ?_) (fun _ => ?_)
      · walk_at "go"
        refine Gx.ic (by decide) ?_
        walk_at "go"
        exact ⟨_, by omega, by omega, B, rfl⟩
      · walk_at "go"
        exact ⟨_, by omega, by omega, B, rfl⟩
    rintro σ' H' ⟨w, hw1, hw2, B, rfl⟩
    obtain ⟨w, rfl⟩ : ∃ m : Nat, w = m := ⟨w.toNat, by omega⟩
    have hw : 0 < w := by omega
    walk_at "go"
    refine cp_law_draw B (by decide) fun m H3 hm0 hm1 B kp => ?_
    walk_at "go"
    refine cp_law_bits B hm0 (by omega) fun bs H4 hbs B kp => ?_
    walk_at "go"
    refine Bs.lenB (by omega) ?_
    walk_at "go"
    refine Gx.r1 (by omega) (by omega) ?_
    refine Gx.fw walk_range (fun i σ' H' => ∃ pl ac : Option V, σ' = [some (.ref a), some (.ref b), some (.int (w : Int)), some (.str (Bs.S bs)), pl, ac, none, none, none]) ⟨_, _, rfl⟩ (fun _ _ _ _ _ => trivial) ?_ ?_
    · rintro i x σ' H5 H5' hi ⟨pl, ac, rfl⟩ ⟨rfl, hx⟩
      have hx2 : x = .int (i : Int) := hx.trans (congrArg V.int (by omega))
      subst hx2
      walk_at "go"
      refine cp_shares (by omega) (by omega) (by omega) (by omega) fun pa H6 s6 ha => ?_
      rw [Int.toNat_natCast, Int.toNat_natCast, Iv.nx_take hw (by omega), Iv.zs_take hw (by omega), Iv.os_take hw (by omega)] at ha
      walk_at "go"
      refine Gx.isi (.base (.tup ha)) ?_ (kit_ty (by decide +kernel : kitB "tuple" "tuple" = some true))
      walk_at "go"
      refine cp_law_shares (by omega) (by omega) (by omega) (by omega) fun pb hpb => ?_
      rw [Int.toNat_natCast, Int.toNat_natCast]
      refine Gx.neDT (xs := [_, _]) (ys := [_, _]) (SqT.of (by rw [upd_ne (ne_of_none ha hpb)]; exact ha)) (SqT.of upd_same) ?_
      rw [decide_eq_true rfl]
      walk_at "go"
      have ha2 := fun o => (Gx.same_new (o := o) hpb) _ _ ha
      refine Gx.ixT (SqT.of (ha2 _)) (at_of (j := 0) rfl rfl) ?_
      walk_at "go"
      refine cp_law_is_integer ?_
      walk_at "go"
      refine Gx.ixT (SqT.of (ha2 _)) (at_of (j := 1) rfl rfl) ?_
      walk_at "go"
      refine cp_law_is_integer ?_
      walk_at "go"
      exact ⟨_, _, rfl⟩
    rintro σ' H5 ⟨pl, ac, rfl⟩
    walk_at "go"
    refine cp_interval (by omega) (by omega) fun pm H6 s6 hm => ?_
    rw [Int.toNat_natCast] at hm
    walk_at "go"
    refine Gx.isi (.base (.tup hm)) ?_ (kit_ty (by decide +kernel : kitB "tuple" "tuple" = some true))
    walk_at "go"
    refine Gx.lenT (SqT.of hm) ?_
    walk_at "go"
    rw [show decide ((([V.int (Iv.lo w bs : Nat), .int (Iv.sz w bs : Nat), .int (Iv.wh w bs : Nat)].length : Nat) : Int) = 3) = true from rfl]
    walk_at "go"
    refine cp_law_interval (by omega) (by omega) fun pd H7 hpd s7 hd => ?_
    rw [Int.toNat_natCast] at hd
    walk_at "go"
    refine Gx.r1 (by decide) (by decide) ?_
    refine Gx.fw walk_range (fun i σ' H' => H' = H7 ∧ ∃ kv : Option V, σ' = [some (.ref a), some (.ref b), some (.int (w : Int)), some (.str (Bs.S bs)), pl, ac, some (.ref pm), some (.ref pd), kv]) ⟨rfl, _, rfl⟩ (fun _ _ _ _ _ => trivial) ?_ ?_
    · rintro i x σ' H8 H8' hi ⟨rfl, kv, rfl⟩ ⟨rfl, hx⟩
      have hx2 : x = .int (i : Int) := hx.trans (congrArg V.int (by omega))
      subst hx2
      have hi3 : i < 3 := hi
      obtain ⟨n, hn⟩ : ∃ n : Int, ([V.int (Iv.lo w bs : Nat), .int (Iv.sz w bs : Nat), .int (Iv.wh w bs : Nat)])[i]? = some (.int n) := by
        rcases (show i = 0 ∨ i = 1 ∨ i = 2 by omega) with h | h | h <;> subst h <;> exact ⟨_, rfl⟩
      walk_at "go"
      refine Gx.ixT (s7 _ _ hm |> SqT.of) (atI_nat hn) ?_
      walk_at "go"
      refine cp_law_is_integer ?_
      walk_at "go"
      refine Gx.ixT (s7 _ _ hm |> SqT.of) (atI_nat hn) ?_
      walk_at "go"
      refine Gx.ixL (SqL.of hd) (atI_nat hn) ?_
      walk_at "go"
      rw [decide_eq_true rfl]
      walk_at "go"
      exact ⟨rfl, _, rfl⟩
    · rintro σ' H8 ⟨rfl, kv, rfl⟩
      walk_at "go"
      exact q _


end
theorem all_mk {l : PySem.W.OpenLaw} {w : World} {K : PySem.W.Frag} {h : Heap} {mg : Str → Option Value} {fa : Addr} (X : K.In h) (G : h.Ns mainGlobals mg) (hfa : mg "law" = some (.ref fa))
    {C_Coding : Addr}
    {f_law_draw : Addr} {od_law_draw an_law_draw : Option Addr} {sl_law_draw : Array (Option Value)} {oc_law_draw kV_law_draw dc_law_draw pm_law_draw cd_law_draw ct_law_draw : Value}
    {f_law_bits : Addr} {od_law_bits an_law_bits : Option Addr} {sl_law_bits : Array (Option Value)} {oc_law_bits kV_law_bits dc_law_bits pm_law_bits cd_law_bits ct_law_bits : Value}
    {f_Coding_interval : Addr} {od_Coding_interval an_Coding_interval : Option Addr} {sl_Coding_interval : Array (Option Value)} {oc_Coding_interval kV_Coding_interval dc_Coding_interval pm_Coding_interval cd_Coding_interval ct_Coding_interval : Value}
    {f_Coding___init__ : Addr} {od_Coding___init__ an_Coding___init__ : Option Addr} {sl_Coding___init__ : Array (Option Value)} {oc_Coding___init__ kV_Coding___init__ dc_Coding___init__ pm_Coding___init__ cd_Coding___init__ ct_Coding___init__ : Value}
    {f_context : Addr} {od_context an_context : Option Addr} {sl_context : Array (Option Value)} {oc_context kV_context dc_context pm_context cd_context ct_context : Value}
    {f_Coding_take : Addr} {od_Coding_take an_Coding_take : Option Addr} {sl_Coding_take : Array (Option Value)} {oc_Coding_take kV_Coding_take dc_Coding_take pm_Coding_take cd_Coding_take ct_Coding_take : Value}
    {f_coding_of : Addr} {od_coding_of an_coding_of : Option Addr} {sl_coding_of : Array (Option Value)} {oc_coding_of kV_coding_of dc_coding_of pm_coding_of cd_coding_of ct_coding_of : Value}
    {f_interval : Addr} {od_interval an_interval : Option Addr} {sl_interval : Array (Option Value)} {oc_interval kV_interval dc_interval pm_interval cd_interval ct_interval : Value}
    {f_law_context : Addr} {od_law_context an_law_context : Option Addr} {sl_law_context : Array (Option Value)} {oc_law_context kV_law_context dc_law_context pm_law_context cd_law_context ct_law_context : Value}
    {f_law_interval : Addr} {od_law_interval an_law_interval : Option Addr} {sl_law_interval : Array (Option Value)} {oc_law_interval kV_law_interval dc_law_interval pm_law_interval cd_law_interval ct_law_interval : Value}
    {f_law_cell : Addr} {od_law_cell an_law_cell : Option Addr} {sl_law_cell : Array (Option Value)} {oc_law_cell kV_law_cell dc_law_cell pm_law_cell cd_law_cell ct_law_cell : Value}
    {f_law_digits : Addr} {od_law_digits an_law_digits : Option Addr} {sl_law_digits : Array (Option Value)} {oc_law_digits kV_law_digits dc_law_digits pm_law_digits cd_law_digits ct_law_digits : Value}
    {f_Coding_shares : Addr} {od_Coding_shares an_Coding_shares : Option Addr} {sl_Coding_shares : Array (Option Value)} {oc_Coding_shares kV_Coding_shares dc_Coding_shares pm_Coding_shares cd_Coding_shares ct_Coding_shares : Value}
    {f_shares : Addr} {od_shares an_shares : Option Addr} {sl_shares : Array (Option Value)} {oc_shares kV_shares dc_shares pm_shares cd_shares ct_shares : Value}
    {f_law_shares : Addr} {od_law_shares an_law_shares : Option Addr} {sl_law_shares : Array (Option Value)} {oc_law_shares kV_law_shares dc_law_shares pm_law_shares cd_law_shares ct_law_shares : Value}
    {f_law_is_integer : Addr} {od_law_is_integer an_law_is_integer : Option Addr} {sl_law_is_integer : Array (Option Value)} {oc_law_is_integer kV_law_is_integer dc_law_is_integer pm_law_is_integer cd_law_is_integer ct_law_is_integer : Value}
    {f_law : Addr} {od_law an_law : Option Addr} {sl_law : Array (Option Value)} {oc_law kV_law dc_law pm_law cd_law ct_law : Value}
    {t_CONTEXTS : Tok}
    (g_Coding : PySem.W.nsIn K mainGlobals "Coding" = some (some (.ref C_Coding)))
    (pg_Coding : PySem.W.plainGet K C_Coding Str.empty = true)
    (hd_Coding : PySem.W.hasDictIn K C_Coding = true)
    (po_Coding : PySem.W.plainOver K C_Coding = true)
    (sa_Coding : PySem.W.findIn K (.ref C_Coding) "__setattr__" = some (some (.builtin "object.__setattr__")))
    (mk_Coding : PySem.W.makesIn K C_Coding = true)
    (kc_Coding : PySem.W.keepIn K (.ref C_Coding) = true)
    (na_Coding_bits : PySem.W.findIn K (.ref C_Coding) "bits" = some none)
    (na_Coding__width : PySem.W.findIn K (.ref C_Coding) "_width" = some none)
    (na_Coding__low : PySem.W.findIn K (.ref C_Coding) "_low" = some none)
    (na_Coding__size : PySem.W.findIn K (.ref C_Coding) "_size" = some none)
    (na_Coding__whole : PySem.W.findIn K (.ref C_Coding) "_whole" = some none)
    (na_Coding__zeros : PySem.W.findIn K (.ref C_Coding) "_zeros" = some none)
    (na_Coding__ones : PySem.W.findIn K (.ref C_Coding) "_ones" = some none)
    (a_law_draw : PySem.W.nsIn K mainGlobals "_law_draw" = some (some (.ref f_law_draw)))
    (l_law_draw : K.lookup f_law_draw = some ⟨oc_law_draw, od_law_draw, .func (PySem.W.fnOf "_law_draw" "_law_draw" (defArgs s_law_draw) (defBody s_law_draw) (defScope s_law_draw) .none kV_law_draw dc_law_draw pm_law_draw an_law_draw cd_law_draw ct_law_draw), sl_law_draw⟩)
    (c_law_draw : PySem.W.codeIn K cd_law_draw "_law_draw" = true)
    (k_law_draw : PySem.W.keepIn K (.ref f_law_draw) = true)
    (a_law_bits : PySem.W.nsIn K mainGlobals "_law_bits" = some (some (.ref f_law_bits)))
    (l_law_bits : K.lookup f_law_bits = some ⟨oc_law_bits, od_law_bits, .func (PySem.W.fnOf "_law_bits" "_law_bits" (defArgs s_law_bits) (defBody s_law_bits) (defScope s_law_bits) .none kV_law_bits dc_law_bits pm_law_bits an_law_bits cd_law_bits ct_law_bits), sl_law_bits⟩)
    (c_law_bits : PySem.W.codeIn K cd_law_bits "_law_bits" = true)
    (k_law_bits : PySem.W.keepIn K (.ref f_law_bits) = true)
    (a_Coding_interval : PySem.W.findIn K (.ref C_Coding) "interval" = some (some (.ref f_Coding_interval)))
    (i_Coding_interval : PySem.W.isFn K (.ref f_Coding_interval) = true)
    (l_Coding_interval : K.lookup f_Coding_interval = some ⟨oc_Coding_interval, od_Coding_interval, .func (PySem.W.fnOf "interval" "Coding.interval" (defArgs s_Coding_interval) (defBody s_Coding_interval) (defScope s_Coding_interval) .none kV_Coding_interval dc_Coding_interval pm_Coding_interval an_Coding_interval cd_Coding_interval ct_Coding_interval), sl_Coding_interval⟩)
    (c_Coding_interval : PySem.W.codeIn K cd_Coding_interval "Coding.interval" = true)
    (k_Coding_interval : PySem.W.keepIn K (.ref f_Coding_interval) = true)
    (a_Coding___init__ : PySem.W.findIn K (.ref C_Coding) "__init__" = some (some (.ref f_Coding___init__)))
    (i_Coding___init__ : PySem.W.isFn K (.ref f_Coding___init__) = true)
    (l_Coding___init__ : K.lookup f_Coding___init__ = some ⟨oc_Coding___init__, od_Coding___init__, .func (PySem.W.fnOf "__init__" "Coding.__init__" (defArgs s_Coding___init__) (defBody s_Coding___init__) (defScope s_Coding___init__) .none kV_Coding___init__ dc_Coding___init__ pm_Coding___init__ an_Coding___init__ cd_Coding___init__ ct_Coding___init__), sl_Coding___init__⟩)
    (c_Coding___init__ : PySem.W.codeIn K cd_Coding___init__ "Coding.__init__" = true)
    (k_Coding___init__ : PySem.W.keepIn K (.ref f_Coding___init__) = true)
    (a_context : PySem.W.nsIn K mainGlobals "context" = some (some (.ref f_context)))
    (l_context : K.lookup f_context = some ⟨oc_context, od_context, .func (PySem.W.fnOf "context" "context" (defArgs s_context) (defBody s_context) (defScope s_context) .none kV_context dc_context pm_context an_context cd_context ct_context), sl_context⟩)
    (c_context : PySem.W.codeIn K cd_context "context" = true)
    (k_context : PySem.W.keepIn K (.ref f_context) = true)
    (a_Coding_take : PySem.W.findIn K (.ref C_Coding) "take" = some (some (.ref f_Coding_take)))
    (i_Coding_take : PySem.W.isFn K (.ref f_Coding_take) = true)
    (l_Coding_take : K.lookup f_Coding_take = some ⟨oc_Coding_take, od_Coding_take, .func (PySem.W.fnOf "take" "Coding.take" (defArgs s_Coding_take) (defBody s_Coding_take) (defScope s_Coding_take) .none kV_Coding_take dc_Coding_take pm_Coding_take an_Coding_take cd_Coding_take ct_Coding_take), sl_Coding_take⟩)
    (c_Coding_take : PySem.W.codeIn K cd_Coding_take "Coding.take" = true)
    (k_Coding_take : PySem.W.keepIn K (.ref f_Coding_take) = true)
    (a_coding_of : PySem.W.nsIn K mainGlobals "coding_of" = some (some (.ref f_coding_of)))
    (l_coding_of : K.lookup f_coding_of = some ⟨oc_coding_of, od_coding_of, .func (PySem.W.fnOf "coding_of" "coding_of" (defArgs s_coding_of) (defBody s_coding_of) (defScope s_coding_of) .none kV_coding_of dc_coding_of pm_coding_of an_coding_of cd_coding_of ct_coding_of), sl_coding_of⟩)
    (c_coding_of : PySem.W.codeIn K cd_coding_of "coding_of" = true)
    (k_coding_of : PySem.W.keepIn K (.ref f_coding_of) = true)
    (a_interval : PySem.W.nsIn K mainGlobals "interval" = some (some (.ref f_interval)))
    (l_interval : K.lookup f_interval = some ⟨oc_interval, od_interval, .func (PySem.W.fnOf "interval" "interval" (defArgs s_interval) (defBody s_interval) (defScope s_interval) .none kV_interval dc_interval pm_interval an_interval cd_interval ct_interval), sl_interval⟩)
    (c_interval : PySem.W.codeIn K cd_interval "interval" = true)
    (k_interval : PySem.W.keepIn K (.ref f_interval) = true)
    (a_law_context : PySem.W.nsIn K mainGlobals "_law_context" = some (some (.ref f_law_context)))
    (l_law_context : K.lookup f_law_context = some ⟨oc_law_context, od_law_context, .func (PySem.W.fnOf "_law_context" "_law_context" (defArgs s_law_context) (defBody s_law_context) (defScope s_law_context) .none kV_law_context dc_law_context pm_law_context an_law_context cd_law_context ct_law_context), sl_law_context⟩)
    (c_law_context : PySem.W.codeIn K cd_law_context "_law_context" = true)
    (k_law_context : PySem.W.keepIn K (.ref f_law_context) = true)
    (a_law_interval : PySem.W.nsIn K mainGlobals "_law_interval" = some (some (.ref f_law_interval)))
    (l_law_interval : K.lookup f_law_interval = some ⟨oc_law_interval, od_law_interval, .func (PySem.W.fnOf "_law_interval" "_law_interval" (defArgs s_law_interval) (defBody s_law_interval) (defScope s_law_interval) .none kV_law_interval dc_law_interval pm_law_interval an_law_interval cd_law_interval ct_law_interval), sl_law_interval⟩)
    (c_law_interval : PySem.W.codeIn K cd_law_interval "_law_interval" = true)
    (k_law_interval : PySem.W.keepIn K (.ref f_law_interval) = true)
    (a_law_cell : PySem.W.nsIn K mainGlobals "_law_cell" = some (some (.ref f_law_cell)))
    (l_law_cell : K.lookup f_law_cell = some ⟨oc_law_cell, od_law_cell, .func (PySem.W.fnOf "_law_cell" "_law_cell" (defArgs s_law_cell) (defBody s_law_cell) (defScope s_law_cell) .none kV_law_cell dc_law_cell pm_law_cell an_law_cell cd_law_cell ct_law_cell), sl_law_cell⟩)
    (c_law_cell : PySem.W.codeIn K cd_law_cell "_law_cell" = true)
    (k_law_cell : PySem.W.keepIn K (.ref f_law_cell) = true)
    (a_law_digits : PySem.W.nsIn K mainGlobals "_law_digits" = some (some (.ref f_law_digits)))
    (l_law_digits : K.lookup f_law_digits = some ⟨oc_law_digits, od_law_digits, .func (PySem.W.fnOf "_law_digits" "_law_digits" (defArgs s_law_digits) (defBody s_law_digits) (defScope s_law_digits) .none kV_law_digits dc_law_digits pm_law_digits an_law_digits cd_law_digits ct_law_digits), sl_law_digits⟩)
    (c_law_digits : PySem.W.codeIn K cd_law_digits "_law_digits" = true)
    (k_law_digits : PySem.W.keepIn K (.ref f_law_digits) = true)
    (a_Coding_shares : PySem.W.findIn K (.ref C_Coding) "shares" = some (some (.ref f_Coding_shares)))
    (i_Coding_shares : PySem.W.isFn K (.ref f_Coding_shares) = true)
    (l_Coding_shares : K.lookup f_Coding_shares = some ⟨oc_Coding_shares, od_Coding_shares, .func (PySem.W.fnOf "shares" "Coding.shares" (defArgs s_Coding_shares) (defBody s_Coding_shares) (defScope s_Coding_shares) .none kV_Coding_shares dc_Coding_shares pm_Coding_shares an_Coding_shares cd_Coding_shares ct_Coding_shares), sl_Coding_shares⟩)
    (c_Coding_shares : PySem.W.codeIn K cd_Coding_shares "Coding.shares" = true)
    (k_Coding_shares : PySem.W.keepIn K (.ref f_Coding_shares) = true)
    (a_shares : PySem.W.nsIn K mainGlobals "shares" = some (some (.ref f_shares)))
    (l_shares : K.lookup f_shares = some ⟨oc_shares, od_shares, .func (PySem.W.fnOf "shares" "shares" (defArgs s_shares) (defBody s_shares) (defScope s_shares) .none kV_shares dc_shares pm_shares an_shares cd_shares ct_shares), sl_shares⟩)
    (c_shares : PySem.W.codeIn K cd_shares "shares" = true)
    (k_shares : PySem.W.keepIn K (.ref f_shares) = true)
    (a_law_shares : PySem.W.nsIn K mainGlobals "_law_shares" = some (some (.ref f_law_shares)))
    (l_law_shares : K.lookup f_law_shares = some ⟨oc_law_shares, od_law_shares, .func (PySem.W.fnOf "_law_shares" "_law_shares" (defArgs s_law_shares) (defBody s_law_shares) (defScope s_law_shares) .none kV_law_shares dc_law_shares pm_law_shares an_law_shares cd_law_shares ct_law_shares), sl_law_shares⟩)
    (c_law_shares : PySem.W.codeIn K cd_law_shares "_law_shares" = true)
    (k_law_shares : PySem.W.keepIn K (.ref f_law_shares) = true)
    (a_law_is_integer : PySem.W.nsIn K mainGlobals "_law_is_integer" = some (some (.ref f_law_is_integer)))
    (l_law_is_integer : K.lookup f_law_is_integer = some ⟨oc_law_is_integer, od_law_is_integer, .func (PySem.W.fnOf "_law_is_integer" "_law_is_integer" (defArgs s_law_is_integer) (defBody s_law_is_integer) (defScope s_law_is_integer) .none kV_law_is_integer dc_law_is_integer pm_law_is_integer an_law_is_integer cd_law_is_integer ct_law_is_integer), sl_law_is_integer⟩)
    (c_law_is_integer : PySem.W.codeIn K cd_law_is_integer "_law_is_integer" = true)
    (k_law_is_integer : PySem.W.keepIn K (.ref f_law_is_integer) = true)
    (a_law : PySem.W.nsIn K mainGlobals "law" = some (some (.ref f_law)))
    (l_law : K.lookup f_law = some ⟨oc_law, od_law, .func (PySem.W.fnOf "law" "law" (defArgs s_law) (defBody s_law) (defScope s_law) .none kV_law dc_law pm_law an_law cd_law ct_law), sl_law⟩)
    (c_law : PySem.W.codeIn K cd_law "law" = true)
    (k_law : PySem.W.keepIn K (.ref f_law) = true)
    (n_bool : PySem.W.nsIn K mainGlobals "bool" = some none)
    (n_int : PySem.W.nsIn K mainGlobals "int" = some none)
    (n_isinstance : PySem.W.nsIn K mainGlobals "isinstance" = some none)
    (n_len : PySem.W.nsIn K mainGlobals "len" = some none)
    (n_range : PySem.W.nsIn K mainGlobals "range" = some none)
    (n_str : PySem.W.nsIn K mainGlobals "str" = some none)
    (n_tuple : PySem.W.nsIn K mainGlobals "tuple" = some none)
    (c_CONTEXTS : PySem.W.nsIn K mainGlobals "CONTEXTS" = some (some (.int 16 t_CONTEXTS))) :
    ∃ fd : FuncData, (∀ (s : Shared) (v : Value), BindsTo s fd ⟨[v], []⟩ [("script", v)]) ∧ ∀ base : Heap, K.In base → base.Ns mainGlobals mg → FnOk l.prog w K mg base CX0 5 fa fd ["script"] (spLaw K) := by
  have e := hfa.symm.trans (PySem.W.mg_of X G a_law)
  cases e
  have F_law_draw := fun_mk (st := s_law_draw) l_law_draw c_law_draw k_law_draw
  have F_law_bits := fun_mk (st := s_law_bits) l_law_bits c_law_bits k_law_bits
  have F_Coding_interval := fun_mk (st := s_Coding_interval) l_Coding_interval c_Coding_interval k_Coding_interval
  have F_Coding___init__ := fun_mk (st := s_Coding___init__) l_Coding___init__ c_Coding___init__ k_Coding___init__
  have F_context := fun_mk (st := s_context) l_context c_context k_context
  have F_Coding_take := fun_mk (st := s_Coding_take) l_Coding_take c_Coding_take k_Coding_take
  have F_coding_of := fun_mk (st := s_coding_of) l_coding_of c_coding_of k_coding_of
  have F_interval := fun_mk (st := s_interval) l_interval c_interval k_interval
  have F_law_context := fun_mk (st := s_law_context) l_law_context c_law_context k_law_context
  have F_law_interval := fun_mk (st := s_law_interval) l_law_interval c_law_interval k_law_interval
  have F_law_cell := fun_mk (st := s_law_cell) l_law_cell c_law_cell k_law_cell
  have F_law_digits := fun_mk (st := s_law_digits) l_law_digits c_law_digits k_law_digits
  have F_Coding_shares := fun_mk (st := s_Coding_shares) l_Coding_shares c_Coding_shares k_Coding_shares
  have F_shares := fun_mk (st := s_shares) l_shares c_shares k_shares
  have F_law_shares := fun_mk (st := s_law_shares) l_law_shares c_law_shares k_law_shares
  have F_law_is_integer := fun_mk (st := s_law_is_integer) l_law_is_integer c_law_is_integer k_law_is_integer
  have F_law := fun_mk (st := s_law) l_law c_law k_law
  exact ⟨PySem.W.fnOf "law" "law" (defArgs s_law) (defBody s_law) (defScope s_law) .none kV_law dc_law pm_law an_law cd_law ct_law, fun s v => .of_eq rfl, fun base _ _ => ok_law (mg := mg) {
    a_Coding := C_Coding,
    cl_Coding := ⟨pg_Coding, hd_Coding, po_Coding, sa_Coding⟩,
    g_Coding := PySem.W.mg_of X G g_Coding,
    mk_Coding := mk_Coding,
    kp_Coding := kc_Coding,
    na_Coding_bits := na_Coding_bits,
    na_Coding__width := na_Coding__width,
    na_Coding__low := na_Coding__low,
    na_Coding__size := na_Coding__size,
    na_Coding__whole := na_Coding__whole,
    na_Coding__zeros := na_Coding__zeros,
    na_Coding__ones := na_Coding__ones,
    law_draw := ⟨_, _, F_law_draw, PySem.W.mg_of X G a_law_draw, F_law_draw.binds fun _ _ _ _ _ _ us hl => match us, hl with | [_, _], _ => rfl⟩,
    law_bits := ⟨_, _, F_law_bits, PySem.W.mg_of X G a_law_bits, F_law_bits.binds fun _ _ _ _ _ _ us hl => match us, hl with | [_, _], _ => rfl⟩,
    Coding_interval := ⟨_, _, F_Coding_interval, F_Coding_interval.binds fun _ _ _ _ _ _ us hl => match us, hl with | [_], _ => rfl, ⟨a_Coding_interval, i_Coding_interval, k_Coding_interval⟩⟩,
    Coding___init__ := ⟨_, _, F_Coding___init__, F_Coding___init__.binds fun _ _ _ _ _ _ us hl => match us, hl with | [_, _], _ => rfl, ⟨a_Coding___init__, i_Coding___init__, k_Coding___init__⟩⟩,
    context := ⟨_, _, F_context, PySem.W.mg_of X G a_context, F_context.binds fun _ _ _ _ _ _ us hl => match us, hl with | [_, _, _], _ => rfl⟩,
    Coding_take := ⟨_, _, F_Coding_take, F_Coding_take.binds fun _ _ _ _ _ _ us hl => match us, hl with | [_, _], _ => rfl, ⟨a_Coding_take, i_Coding_take, k_Coding_take⟩⟩,
    coding_of := ⟨_, _, F_coding_of, PySem.W.mg_of X G a_coding_of, F_coding_of.binds fun _ _ _ _ _ _ us hl => match us, hl with | [_, _], _ => rfl⟩,
    interval := ⟨_, _, F_interval, PySem.W.mg_of X G a_interval, F_interval.binds fun _ _ _ _ _ _ us hl => match us, hl with | [_, _], _ => rfl⟩,
    law_context := ⟨_, _, F_law_context, PySem.W.mg_of X G a_law_context, F_law_context.binds fun _ _ _ _ _ _ us hl => match us, hl with | [_, _, _], _ => rfl⟩,
    law_interval := ⟨_, _, F_law_interval, PySem.W.mg_of X G a_law_interval, F_law_interval.binds fun _ _ _ _ _ _ us hl => match us, hl with | [_, _], _ => rfl⟩,
    law_cell := ⟨_, _, F_law_cell, PySem.W.mg_of X G a_law_cell, F_law_cell.binds fun _ _ _ _ _ _ us hl => match us, hl with | [_, _], _ => rfl⟩,
    law_digits := ⟨_, _, F_law_digits, PySem.W.mg_of X G a_law_digits, F_law_digits.binds fun _ _ _ _ _ _ us hl => match us, hl with | [_, _, _], _ => rfl⟩,
    Coding_shares := ⟨_, _, F_Coding_shares, F_Coding_shares.binds fun _ _ _ _ _ _ us hl => match us, hl with | [_], _ => rfl, ⟨a_Coding_shares, i_Coding_shares, k_Coding_shares⟩⟩,
    shares := ⟨_, _, F_shares, PySem.W.mg_of X G a_shares, F_shares.binds fun _ _ _ _ _ _ us hl => match us, hl with | [_, _, _], _ => rfl⟩,
    law_shares := ⟨_, _, F_law_shares, PySem.W.mg_of X G a_law_shares, F_law_shares.binds fun _ _ _ _ _ _ us hl => match us, hl with | [_, _, _], _ => rfl⟩,
    law_is_integer := ⟨_, _, F_law_is_integer, PySem.W.mg_of X G a_law_is_integer, F_law_is_integer.binds fun _ _ _ _ _ _ us hl => match us, hl with | [_], _ => rfl⟩,
    law := ⟨_, _, F_law, PySem.W.mg_of X G a_law, F_law.binds fun _ _ _ _ _ _ us hl => match us, hl with | [_], _ => rfl⟩,
    n_bool := PySem.W.mg_none_of X G n_bool,
    n_int := PySem.W.mg_none_of X G n_int,
    n_isinstance := PySem.W.mg_none_of X G n_isinstance,
    n_len := PySem.W.mg_none_of X G n_len,
    n_range := PySem.W.mg_none_of X G n_range,
    n_str := PySem.W.mg_none_of X G n_str,
    n_tuple := PySem.W.mg_none_of X G n_tuple,
    t_CONTEXTS := t_CONTEXTS,
    c_CONTEXTS := PySem.W.mg_of X G c_CONTEXTS }⟩
theorem walk {l : PySem.W.OpenLaw} {q : Program} {loose : List Str} {XP : (Str → Option Value) → Heap → Prop} {YP : World → Heap → Prop} {d : DefRec} {K : Params → PySem.W.Frag} (hn : l.most = some 63) (hdf : d.params.defaults = [])
    (hY : ∀ (w : World) (h : Heap), YP w h → (K w.params).In h)
    (F : ∀ (w : World) (mg : Str → Option Value) (fa : Addr) (h : Heap), (K w.params).In h → h.Ns mainGlobals mg → mg d.name = some (.ref fa) →
      ∃ fd : FuncData, (∀ (s : Shared) (u : Value), BindsTo s fd ⟨[u], []⟩ [("script", u)]) ∧ ∀ base : Heap, (K w.params).In base → base.Ns mainGlobals mg → FnOk l.prog w (K w.params) mg base CX0 5 fa fd ["script"] (spLaw (K w.params))) :
    PySem.W.WalkO q loose XP YP l.row.toRowW d [] (fun f vs => PySem.call f vs) :=
  L2.walk_ofB (n := 63) (k := 5) (x := "script") (CX := fun _ => CX0) (sp := fun w => spLaw (K w.params)) hn (by decide) hdf ⟨rfl, by decide, by decide⟩ hY F (fun _ _ a ns hl hb _ hS => ⟨a, ns, rfl, hS, hl, hb, fun _ => rfl⟩) fun _ _ _ _ _ z => z
end My
open PySem PySem.W PyProof.Rows
set_option maxRecDepth 100000 in
set_option maxHeartbeats 0 in
theorem PySem.Challenge.cw_packetpicture_k17_interval_of_bits_holds : PySem.Challenge.rw_packetpicture_k17_interval_of_bits.Holds := by
  w_on; o_law; k_head; (case hw => w_witness2)
  k_fill
  refine My.walk (l := PySem.Challenge.rw_packetpicture_k17_interval_of_bits) rfl rfl (fun w h Y => PySem.W.kIn_of Y) ?F
  case F =>
    intro w mg fa h KX G hmg
    refine' My.all_mk KX G hmg ?g_Coding ?pg_Coding ?hd_Coding ?po_Coding ?sa_Coding ?mk_Coding ?kc_Coding ?na_Coding_bits ?na_Coding__width ?na_Coding__low ?na_Coding__size ?na_Coding__whole ?na_Coding__zeros ?na_Coding__ones ?a_law_draw ?l_law_draw ?c_law_draw ?k_law_draw ?a_law_bits ?l_law_bits ?c_law_bits ?k_law_bits ?a_Coding_interval ?i_Coding_interval ?l_Coding_interval ?c_Coding_interval ?k_Coding_interval ?a_Coding___init__ ?i_Coding___init__ ?l_Coding___init__ ?c_Coding___init__ ?k_Coding___init__ ?a_context ?l_context ?c_context ?k_context ?a_Coding_take ?i_Coding_take ?l_Coding_take ?c_Coding_take ?k_Coding_take ?a_coding_of ?l_coding_of ?c_coding_of ?k_coding_of ?a_interval ?l_interval ?c_interval ?k_interval ?a_law_context ?l_law_context ?c_law_context ?k_law_context ?a_law_interval ?l_law_interval ?c_law_interval ?k_law_interval ?a_law_cell ?l_law_cell ?c_law_cell ?k_law_cell ?a_law_digits ?l_law_digits ?c_law_digits ?k_law_digits ?a_Coding_shares ?i_Coding_shares ?l_Coding_shares ?c_Coding_shares ?k_Coding_shares ?a_shares ?l_shares ?c_shares ?k_shares ?a_law_shares ?l_law_shares ?c_law_shares ?k_law_shares ?a_law_is_integer ?l_law_is_integer ?c_law_is_integer ?k_law_is_integer ?a_law ?l_law ?c_law ?k_law ?n_bool ?n_int ?n_isinstance ?n_len ?n_range ?n_str ?n_tuple ?c_CONTEXTS
    (case g_Coding => k_is)
    (case pg_Coding => k_is)
    (case hd_Coding => k_is)
    (case po_Coding => k_is)
    (case sa_Coding => k_is)
    (case mk_Coding => k_is)
    (case kc_Coding => k_is)
    (case na_Coding_bits => k_is)
    (case na_Coding__width => k_is)
    (case na_Coding__low => k_is)
    (case na_Coding__size => k_is)
    (case na_Coding__whole => k_is)
    (case na_Coding__zeros => k_is)
    (case na_Coding__ones => k_is)
    (case a_law_draw => k_is)
    (case l_law_draw => k_is)
    (case c_law_draw => k_is)
    (case k_law_draw => k_is)
    (case a_law_bits => k_is)
    (case l_law_bits => k_is)
    (case c_law_bits => k_is)
    (case k_law_bits => k_is)
    (case a_Coding_interval => k_is)
    (case i_Coding_interval => k_is)
    (case l_Coding_interval => k_is)
    (case c_Coding_interval => k_is)
    (case k_Coding_interval => k_is)
    (case a_Coding___init__ => k_is)
    (case i_Coding___init__ => k_is)
    (case l_Coding___init__ => k_is)
    (case c_Coding___init__ => k_is)
    (case k_Coding___init__ => k_is)
    (case a_context => k_is)
    (case l_context => k_is)
    (case c_context => k_is)
    (case k_context => k_is)
    (case a_Coding_take => k_is)
    (case i_Coding_take => k_is)
    (case l_Coding_take => k_is)
    (case c_Coding_take => k_is)
    (case k_Coding_take => k_is)
    (case a_coding_of => k_is)
    (case l_coding_of => k_is)
    (case c_coding_of => k_is)
    (case k_coding_of => k_is)
    (case a_interval => k_is)
    (case l_interval => k_is)
    (case c_interval => k_is)
    (case k_interval => k_is)
    (case a_law_context => k_is)
    (case l_law_context => k_is)
    (case c_law_context => k_is)
    (case k_law_context => k_is)
    (case a_law_interval => k_is)
    (case l_law_interval => k_is)
    (case c_law_interval => k_is)
    (case k_law_interval => k_is)
    (case a_law_cell => k_is)
    (case l_law_cell => k_is)
    (case c_law_cell => k_is)
    (case k_law_cell => k_is)
    (case a_law_digits => k_is)
    (case l_law_digits => k_is)
    (case c_law_digits => k_is)
    (case k_law_digits => k_is)
    (case a_Coding_shares => k_is)
    (case i_Coding_shares => k_is)
    (case l_Coding_shares => k_is)
    (case c_Coding_shares => k_is)
    (case k_Coding_shares => k_is)
    (case a_shares => k_is)
    (case l_shares => k_is)
    (case c_shares => k_is)
    (case k_shares => k_is)
    (case a_law_shares => k_is)
    (case l_law_shares => k_is)
    (case c_law_shares => k_is)
    (case k_law_shares => k_is)
    (case a_law_is_integer => k_is)
    (case l_law_is_integer => k_is)
    (case c_law_is_integer => k_is)
    (case k_law_is_integer => k_is)
    (case a_law => k_is)
    (case l_law => k_is)
    (case c_law => k_is)
    (case k_law => k_is)
    (case n_bool => k_is)
    (case n_int => k_is)
    (case n_isinstance => k_is)
    (case n_len => k_is)
    (case n_range => k_is)
    (case n_str => k_is)
    (case n_tuple => k_is)
    (case c_CONTEXTS => k_is)
