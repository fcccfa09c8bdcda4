import PyProof.Rows.All
import Wide.All
import OpenK.AllK
import Wide.FinOn
import HandS.ForMost
import HandS.EndBits
import HandS.IsInst
import HandS.Conv
import HandS.RevRange
import HandS.Walk
import HandS.Wide
import HandS.Codes
import HandS.Comp
import PySem.Challenge.RW_packetpicture_k03_whole_tiles_part_the_p
set_option Elab.async false
set_option linter.all false
set_option maxRecDepth 100000
set_option maxHeartbeats 4000000
set_option exponentiation.threshold 4000
/-! Steps of a reading, one lemma a construct; `walk_at "go"` tries them one after another. -/
namespace Gx
open PySem L2
section
variable {K : PySem.W.Frag} {σ : L2.St} {H : Hp} {Q : VK} {D : Ends} {ta tb te to ti tv : TE} {t u : TT} {tr : TA} {tu tw : TS} {x y z v : V} {i j : Int} {B : Bool → Hp → Prop} {A1 A2 : Prop} {b : Bool}
/-- a test's answer; a branch -/
def TB (x : V) (H : Hp) (Q : Bool → Hp → Prop) : Prop := ∃ k, x = .bl k ∧ Q k H
def IfP (c : Bool) (A B : Prop) : Prop := if c = true then A else B
theorem tB_ (q : TB (.bl b) H B ) : TB (.bl b) H B := q
theorem tb_go (q : B b H) : TB (.bl b) H B := ⟨b, rfl, q⟩
theorem if_t (q : A1) : IfP true A1 A2 := by unfold IfP; rw [if_pos rfl]; exact q
theorem if_f (q : A2) : IfP false A1 A2 := by unfold IfP; rw [if_neg Bool.false_ne_true]; exact q
theorem if_nt (q : A2) : IfP (!true) A1 A2 := if_f q
theorem if_nf (q : A1) : IfP (!false) A1 A2 := if_t q
theorem if_y {c : Bool} (h : c = true) (q : A1) : IfP c A1 A2 := by subst h; exact if_t q
theorem if_n {c : Bool} (h : c = false) (q : A2) : IfP c A1 A2 := by subst h; exact if_f q
theorem if_b {c : Bool} (q1 : c = true → A1) (q2 : c = false → A2) : IfP c A1 A2 := by
  cases c with
  | true => exact if_t (q1 rfl)
  | false => exact if_f (q2 rfl)
theorem if_d {p : Prop} [Decidable p] (q1 : p → A1) (q2 : ¬ p → A2) : IfP (decide p) A1 A2 := if_b (fun h => q1 (of_decide_eq_true h)) (fun h => q2 (of_decide_eq_false h))
theorem if_dn {p : Prop} [Decidable p] (q1 : ¬ p → A1) (q2 : p → A2) : IfP (!decide p) A1 A2 := by
  by_cases h : p
  · rw [decide_eq_true h]; exact if_f (q2 h)
  · rw [decide_eq_false h]; exact if_t (q1 h)
theorem if_andc {c d : Bool} {X : Prop} {B : Bool → Hp → Prop} {H : Hp} (h : B d H → X) (q : B (c && d) H) : IfP c X (B false H) := by
  cases c with
  | true => exact if_t (h q)
  | false => exact if_f q
theorem if_andf {c : Bool} (h : c = true → A2 → A1) (q : A2) : IfP c A1 A2 := by
  cases c with
  | true => exact if_t (h rfl q)
  | false => exact if_f q
theorem if_orc {c d : Bool} {X : Prop} {B : Bool → Hp → Prop} {H : Hp} (h : B d H → X) (q : B (c || d) H) : IfP c (B true H) X := by
  cases c with
  | true => exact if_t q
  | false => exact if_f (h q)
theorem if_dy {p : Prop} [Decidable p] (h : p) (q : A1) : IfP (decide p) A1 A2 := if_y (decide_eq_true h) q
theorem if_dno {p : Prop} [Decidable p] (h : ¬ p) (q : A2) : IfP (decide p) A1 A2 := if_n (decide_eq_false h) q
theorem if_two {c : Bool} {x y : Int} {σ : L2.St} {H : Hp} {Q' : VK} (q : ∀ n, (n = x ∨ n = y) → Q' (.int n) H) : IfP c (tC (.int x) σ H Q') (tC (.int y) σ H Q') := if_b (fun _ => q x (.inl rfl)) (fun _ => q y (.inr rfl))
/-- names, constants -/
theorem var {i : Nat} (h : σ[i]? = some (some v)) (q : Q v H) : tVar i σ H Q := ⟨v, h, q⟩
theorem cst (q : Q v H) : tC v σ H Q := q
/-- operators -/
theorem op {r : R2} (q : ta σ H fun x H1 => tb σ H1 fun y H2 => r x y H2 Q) : tOp r ta tb σ H Q := q
theorem un {r : V → Hp → VK → Prop} (q : ta σ H fun x H1 => r x H1 Q) : tUn r ta σ H Q := q
theorem i0 {g : Int → Int → V} (q : Q (g i j) H) : rI0 g (.int i) (.int j) H Q := ⟨i, j, rfl, rfl, q⟩
theorem ic {C : Int → Int → Prop} {g : Int → Int → V} (c : C i j) (q : Q (g i j) H) : rI C g (.int i) (.int j) H Q := ⟨i, j, rfl, rfl, c, q⟩
theorem uu {g : Int → V} (q : Q (g i) H) : rU g (.int i) H Q := ⟨i, rfl, q⟩
theorem eqv (q : Q (.bl (decide (x = y))) H) (h : scal x y = true := by rfl) : rEq x y H Q := ⟨h, q⟩
theorem nev (q : Q (.bl (!decide (x = y))) H) (h : scal x y = true := by rfl) : rNe x y H Q := ⟨h, q⟩
theorem eqI {p : Int} {q' : Int} : decide (V.int p = V.int q') = decide (p = q') := by simp
theorem eqS {p q' : Str} : decide (V.str p = V.str q') = decide (p = q') := by simp
theorem eqvI (q : Q (.bl (decide (i = j))) H) : rEq (.int i) (.int j) H Q := eqv (by rw [eqI]; exact q)
theorem nevI (q : Q (.bl (!decide (i = j))) H) : rNe (.int i) (.int j) H Q := nev (by rw [eqI]; exact q)
theorem eqvS {a b : Str} (q : Q (.bl (decide (a = b))) H) : rEq (.str a) (.str b) H Q := eqv (by rw [eqS]; exact q)
theorem nevS {a b : Str} (q : Q (.bl (!decide (a = b))) H) : rNe (.str a) (.str b) H Q := nev (by rw [eqS]; exact q)
/-- tests -/
theorem test (q : te σ H fun x H1 => TB x H1 B) : tTest te σ H B := q
theorem tB (q : te σ H fun x H1 => TB x H1 B) : L2.tB te σ H B := q
theorem and_ (q : t σ H fun c H1 => IfP c (u σ H1 B) (B false H1)) : tAnd t u σ H B := q
theorem or_ (q : t σ H fun c H1 => IfP c (B true H1) (u σ H1 B)) : tOr t u σ H B := q
theorem not_ (q : t σ H fun c H1 => B (!c) H1) : tNot t σ H B := q
theorem ifx (q : t σ H fun c H1 => IfP c (ta σ H1 Q) (tb σ H1 Q)) : tIf t ta tb σ H Q := q
/-- and, or, not as values -/
def BV (x : V) (H : Hp) (Q : Bool → Hp → Prop) : Prop := ∃ c, x = .bl c ∧ Q c H
theorem bv_go (q : B b H) : BV (.bl b) H B := ⟨b, rfl, q⟩
theorem andV (q : ta σ H fun x H1 => BV x H1 fun c H1 => IfP c (tb σ H1 Q) (Q (.bl false) H1)) : tAndV ta tb σ H Q := q
theorem orV (q : ta σ H fun x H1 => BV x H1 fun c H1 => IfP c (Q (.bl true) H1) (tb σ H1 Q)) : tOrV ta tb σ H Q := q
theorem notV (q : ta σ H fun x H1 => BV x H1 fun c H1 => Q (.bl (!c)) H1) : tNotV ta σ H Q := q
/-- argument lists, displays -/
theorem nil {R : List V → Hp → Prop} (q : R [] H) : tNil σ H R := q
theorem cons {R : List V → Hp → Prop} (q : ta σ H fun x H1 => tr σ H1 fun xs H2 => R (x :: xs) H2) : tCons ta tr σ H R := q
/-- a new object -/
def NewP (H : Hp) (o : HO) (Q : VK) : Prop := ∀ p, H p = none → Q (.ref p) (upd H p o)
def LstP (xs : List V) (H : Hp) (Q : VK) : Prop := xs.length ≤ sizeLine ∧ NewP H (.lst xs) Q
def TupP (xs : List V) (H : Hp) (Q : VK) : Prop := xs.length ≤ sizeLine ∧ NewP H (.tup xs) Q
theorem lst (q : tr σ H fun xs H1 => LstP xs H1 Q) : tLst tr σ H Q := q
theorem tup (q : tr σ H fun xs H1 => TupP xs H1 Q) : tTup tr σ H Q := q
theorem lstP {xs : List V} (h : xs.length ≤ sizeLine) (q : ∀ p, H p = none → Q (.ref p) (upd H p (.lst xs))) : LstP xs H Q := ⟨h, q⟩
theorem tupP {xs : List V} (h : xs.length ≤ sizeLine) (q : ∀ p, H p = none → Q (.ref p) (upd H p (.tup xs))) : TupP xs H Q := ⟨h, q⟩
/-- calls -/
def CP (sp : Sp) (vs dvs : List V) (H : Hp) (Q : VK) (E : XK) : Prop := sp (vs ++ dvs) H Q E
theorem call {sp : Sp} {dvs : List V} {E : XK} (q : tr σ H fun vs H1 => CP sp vs dvs H1 Q E) : tCall sp dvs E tr σ H Q := q
theorem cb {r : List V → Hp → VK → Prop} (q : tr σ H fun vs H1 => r vs H1 Q) : tCB r tr σ H Q := q
/-- statements -/
theorem seq (q : tu { D with nx := tw D } σ H) : tSeq tu tw D σ H := q
theorem next (q : D.nx σ H) : tNext D σ H := q
theorem ret (q : te σ H D.rt) : tRet te D σ H := q
theorem retN (q : D.rt .non H) : tRetN D σ H := q
theorem drop (q : te σ H fun _ H1 => D.nx σ H1) : tDrop te D σ H := q
theorem asg {g : TG} (q : te σ H fun x H1 => g x σ H1 D.nx) : tAsg te g D σ H := q
theorem name {i : Nat} {R : L2.St → Hp → Prop} (q : R (σ.set i (some v)) H) : gName i v σ H R := q
theorem ifs {c : TT} (q : c σ H fun b H1 => IfP b (tu D σ H1) (tw D σ H1)) : tIfS c tu tw D σ H := q
theorem brk (q : D.bk σ H) : tBreak D σ H := q
theorem cnt (q : D.ct σ H) : tCont D σ H := q
def AugP (i : Nat) (x y : V) (ip : TIp) (D : Ends) (σ : L2.St) (H : Hp) : Prop := ip x y H fun z H2 => D.nx (σ.set i (some z)) H2
theorem aug {i : Nat} {tip : TIp} (h : σ[i]? = some (some x)) (q : te σ H fun y H1 => AugP i x y tip D σ H1) : tAug i te tip D σ H := ⟨x, h, q⟩
theorem augI {n : Nat} {f : Int → Int → Int} (q : D.nx (σ.set n (some (.int (f i j)))) H) : AugP n (.int i) (.int j) (ipI f) D σ H := ⟨i, j, rfl, rfl, q⟩
/-- loops: what walks (FW), for a range -/
def FW (J : It) (g : TG) (tb : TS) (D : Ends) (σ : L2.St) (H : Hp) : Prop := ∃ W : Nat → Nat → L2.St → Hp → Prop, (∃ m, W 0 m σ H) ∧ ∀ i m σ H, W i m σ H →
  (J.stop i H ∧ D.nx σ H) ∨ (J.go i H ∧ ∃ N : L2.St → Hp → Prop, (∀ σ' H', N σ' H' → ∃ m', m' < m ∧ W (i + 1) m' σ' H') ∧ ∀ x H', J.yld i H x H' → g x σ H' fun σ2 H2 => tb { D with nx := N, ct := N, bk := D.nx } σ2 H2)
theorem for_ {wi : TI} {g : TG} (q : wi σ H fun J H1 => FW J g tu D σ H1) : tFor wi g tu D σ H := q
def R1P (vs : List V) (H : Hp) (R : It → Hp → Prop) : Prop := ∃ j : Int, vs = [.int j] ∧ -(2 ^ 62) ≤ j ∧ j < 2 ^ 62 ∧ R (Itr 0 j.toNat) H
def R2P (vs : List V) (H : Hp) (R : It → Hp → Prop) : Prop := ∃ i j : Int, vs = [.int i, .int j] ∧ (-(2 ^ 62) ≤ i ∧ i < 2 ^ 62 ∧ -(2 ^ 62) ≤ j ∧ j < 2 ^ 62) ∧ R (Itr i (j - i).toNat) H
theorem rng1 {R : It → Hp → Prop} (q : tr σ H fun vs H1 => R1P vs H1 R) : iRng1 tr σ H R := q
theorem rng2 {R : It → Hp → Prop} (q : tr σ H fun vs H1 => R2P vs H1 R) : iRng2 tr σ H R := q
theorem r1 {R : It → Hp → Prop} (h1 : -(2 ^ 62) ≤ j) (h2 : j < 2 ^ 62) (q : R (Itr 0 j.toNat) H) : R1P [.int j] H R := ⟨j, rfl, h1, h2, q⟩
theorem r2 {R : It → Hp → Prop} (h1 : -(2 ^ 62) ≤ i ∧ i < 2 ^ 62 ∧ -(2 ^ 62) ≤ j ∧ j < 2 ^ 62) (q : R (Itr i (j - i).toNat) H) : R2P [.int i, .int j] H R := ⟨i, j, rfl, h1, q⟩
theorem fwR {lo : Int} {n : Nat} {g : TG} (Pv : Nat → L2.St → Hp → Prop) (h0 : Pv 0 σ H) (hs : ∀ i σ H, i < n → Pv i σ H → g (.int (lo + i)) σ H fun σ2 H2 => tu { D with nx := Pv (i + 1), ct := Pv (i + 1), bk := D.nx } σ2 H2) (hd : ∀ σ H, Pv n σ H → D.nx σ H) :
    FW (Itr lo n) g tu D σ H := for_range Pv h0 hs hd
def LP (K : PySem.W.Frag) (x : V) (H : Hp) (R : It → Hp → Prop) : Prop := ∃ a, x = .ref a ∧ (∃ xs, SqL K H a xs) ∧ R (Itl K a) H
theorem lwk {R : It → Hp → Prop} (q : te σ H fun x H1 => LP K x H1 R) : iList K te σ H R := q
theorem lp {a : Addr} {xs : List V} {R : It → Hp → Prop} (h : SqL K H a xs) (q : R (Itl K a) H) : LP K (.ref a) H R := ⟨a, rfl, ⟨xs, h⟩, q⟩
theorem fwL {a : Addr} {g : TG} (xs : List V) (Pv : Nat → L2.St → Hp → Prop) (h0 : Pv 0 σ H) (hl : ∀ i σ H, i ≤ xs.length → Pv i σ H → SqL K H a xs)
    (hs : ∀ i x σ H, xs[i]? = some x → Pv i σ H → g x σ H fun σ2 H2 => tu { D with nx := Pv (i + 1), ct := Pv (i + 1), bk := D.nx } σ2 H2) (hd : ∀ σ H, Pv xs.length σ H → D.nx σ H) : FW (Itl K a) g tu D σ H := for_list Pv h0 hl hs hd
/-- built-in functions, under names of their own -/
def rInt1 : List V → Hp → VK → Prop := fun xs H Q => (∃ i, xs = [.int i] ∧ Q (.int i) H) ∨ ∃ k, xs = [.bl k] ∧ Q (.int (if k then 1 else 0)) H
def rAbs : List V → Hp → VK → Prop := fun xs H Q => ∃ i, xs = [.int i] ∧ Q (.int (if i < 0 then -i else i)) H
def rStrI : List V → Hp → VK → Prop := fun xs H Q => ∃ i, xs = [.int i] ∧ i.natAbs.log2 < 1920 ∧ Q (.str (toString i)) H
def rLen (K : PySem.W.Frag) : List V → Hp → VK → Prop := fun xs H Q => ∃ x n, xs = [x] ∧ LenV K x H n ∧ Q (.int n) H
theorem int1 (q : Q (.int i) H) : rInt1 [.int i] H Q := .inl ⟨i, rfl, q⟩
theorem intB {k : Bool} (q : Q (.int (if k then 1 else 0)) H) : rInt1 [.bl k] H Q := .inr ⟨k, rfl, q⟩
theorem abs1 (q : Q (.int (if i < 0 then -i else i)) H) : rAbs [.int i] H Q := ⟨i, rfl, q⟩
theorem strI (h : i.natAbs.log2 < 1920) (q : Q (.str (toString i)) H) : rStrI [.int i] H Q := ⟨i, rfl, h, q⟩
theorem lenS {s : Str} (h : s.length ≤ sizeLine) (q : Q (.int (s.length : Nat)) H) : rLen K [.str s] H Q := ⟨_, _, rfl, ⟨h, rfl⟩, q⟩
theorem lenL {p : Addr} {xs : List V} (h : SqL K H p xs) (q : Q (.int (xs.length : Nat)) H) : rLen K [.ref p] H Q := ⟨_, _, rfl, .inl ⟨_, h, rfl⟩, q⟩
theorem lenT {p : Addr} {xs : List V} (h : SqT K H p xs) (q : Q (.int (xs.length : Nat)) H) : rLen K [.ref p] H Q := ⟨_, _, rfl, .inr ⟨_, h, rfl⟩, q⟩
/-- xs[i], s[i] -/
theorem ixL {p : Addr} {xs : List V} (h : SqL K H p xs) (ha : atI xs i = some v) (q : Q v H) : rIx K (.ref p) (.int i) H Q := .inl ⟨p, xs, i, v, rfl, rfl, h, ha, q⟩
theorem ixT {p : Addr} {xs : List V} (h : SqT K H p xs) (ha : atI xs i = some v) (q : Q v H) : rIx K (.ref p) (.int i) H Q := .inr (.inl ⟨p, xs, i, v, rfl, rfl, h, ha, q⟩)
theorem ixS {s : Str} {c : Nat} (h : s.length ≤ sizeLine) (ha : atI s.cps.toList i = some c) (q : Q (.str ⟨#[c]⟩) H) : rIx K (.str s) (.int i) H Q := .inr (.inr ⟨s, i, c, rfl, rfl, h, ha, q⟩)
/-- a, b = t -/
theorem gtup {n : Nat} {a : Addr} {xs : List V} {tg : TGs} {R : L2.St → Hp → Prop} (h : SqT K H a xs) (hl : xs.length = n) (q : tg xs σ H R) : gTup K n tg (.ref a) σ H R := ⟨a, xs, rfl, h, hl, q⟩
theorem gcons {g : TG} {tg : TGs} {xs : List V} {R : L2.St → Hp → Prop} (q : g v σ H fun σ' H' => tg xs σ' H' R) : gCons g tg (v :: xs) σ H R := ⟨v, xs, rfl, q⟩
theorem gnil {R : L2.St → Hp → Prop} (q : R σ H) : gNil [] σ H R := ⟨rfl, q⟩
/-- n.bit_length() -/
def BiP (x : V) (H : Hp) (Q : VK) : Prop := ∃ i, x = .int i ∧ Q (.int (Builtin.Int.intBits i : Nat)) H
/-- o.f, o.f = v, o.m(..), C(..) -/
def FP (K : PySem.W.Frag) (f : Str) (x : V) (H : Hp) (Q : VK) : Prop := ∃ a C dx fs v, x = .ref a ∧ H a = some (.ins C dx fs) ∧ Cls K C ∧ NoAttr K C f ∧ fs.lookup f = some v ∧ Q v H
theorem fld {f : Str} (q : ta σ H fun x H1 => FP K f x H1 Q) : tFld K ta f σ H Q := q
theorem fp {f : Str} {a C dx : Addr} {fs : List (Str × V)} (h : H a = some (.ins C dx fs)) (c : Cls K C) (n : NoAttr K C f) (l : fs.lookup f = some v) (q : Q v H) : FP K f (.ref a) H Q := ⟨a, C, dx, fs, v, rfl, h, c, n, l, q⟩
def SFP (K : PySem.W.Frag) (f : Str) (y x : V) (D : Ends) (σ : L2.St) (H : Hp) : Prop := ∃ a C dx fs, x = .ref a ∧ H a = some (.ins C dx fs) ∧ Cls K C ∧ NoAttr K C f ∧ fs.length < 1000 ∧ D.nx σ (upd H a (.ins C dx (putF f y fs)))
theorem sfld {f : Str} (q : tv σ H fun y H1 => ta σ H1 fun x H2 => SFP K f y x D σ H2) : sFld K ta tv f D σ H := q
theorem sfp {f : Str} {a C dx : Addr} {fs gs : List (Str × V)} (h : H a = some (.ins C dx fs)) (c : Cls K C) (n : NoAttr K C f) (l : fs.length < 1000) (e : putF f y fs = gs) (q : D.nx σ (upd H a (.ins C dx gs))) : SFP K f y (.ref a) D σ H := ⟨a, C, dx, fs, rfl, h, c, n, l, by rw [e]; exact q⟩
theorem few {f : Str} {v : V} : ∀ {fs : List (Str × V)} {k : Nat}, fs.length ≤ k → (putF f v fs).length ≤ k + 1
  | [], k, _ => Nat.succ_le_succ (Nat.zero_le k)
  | (g, u) :: r, k, h => by
    unfold putF
    split
    · exact Nat.le_succ_of_le h
    · cases k with
      | zero => cases h
      | succ k => exact Nat.succ_le_succ (few (Nat.le_of_succ_le_succ h))
def MP (C : Addr) (m : Str) (sp : Sp) (dvs : List V) (E : XK) (t : TA) (σ : L2.St) (x : V) (H : Hp) (Q : VK) : Prop := ∃ a dx fs, x = .ref a ∧ H a = some (.ins C dx fs) ∧ fs.lookup m = none ∧ t σ H fun vs H2 => sp (x :: (vs ++ dvs)) H2 Q E
theorem meth {C : Addr} {m : Str} {sp : Sp} {dvs : List V} {E : XK} (q : ta σ H fun x H1 => MP C m sp dvs E tr σ x H1 Q) : tMeth C m sp dvs E ta tr σ H Q := q
theorem mp {C a dx : Addr} {m : Str} {sp : Sp} {dvs : List V} {E : XK} {fs : List (Str × V)} (h : H a = some (.ins C dx fs)) (n : fs.lookup m = none) (q : tr σ H fun vs H2 => CP sp (.ref a :: vs) dvs H2 Q E) : MP C m sp dvs E tr σ (.ref a) H Q := ⟨a, dx, fs, rfl, h, n, q⟩
def MkP (C : Addr) (sp : Sp) (vs dvs : List V) (H : Hp) (Q : VK) (E : XK) : Prop := ∀ x dx, H x = none → H dx = none → dx ≠ x → CP sp (.ref x :: vs) dvs (upd (upd H dx (.own x)) x (.ins C dx [])) (fun v H2 => v = .non ∧ Q (.ref x) H2) E
theorem make {C : Addr} {sp : Sp} {dvs : List V} {E : XK} (q : tr σ H fun vs H1 => MkP C sp vs dvs H1 Q E) : tMake C sp dvs E tr σ H Q := q
/-- [v] * n -/
def rRepN : R2 := fun x y H Q => ∃ l k xs, x = .ref l ∧ y = .int k ∧ H l = some (.lst xs) ∧ -(2 ^ 63) ≤ k ∧ k < 2 ^ 63 ∧ xs.length * k.toNat ≤ sizeLine ∧ ∀ p, H p = none → Q (.ref p) (upd H p (.lst (List.replicate k.toNat xs).flatten))
theorem repN {l : Addr} {n : Nat} (h : H l = some (.lst [v])) (hn : n ≤ 100000) (q : ∀ p, H p = none → Q (.ref p) (upd H p (.lst (List.replicate n v)))) : rRepN (.ref l) (.int (n : Int)) H Q :=
  ⟨l, n, [v], rfl, rfl, h, by omega, by omega, by rw [Int.toNat_natCast, sizeLine_eq]; show 1 * n ≤ _; omega, fun p hp => by
    rw [Int.toNat_natCast, show (List.replicate n [v]).flatten = List.replicate n v by simp]; exact q p hp⟩
/-- xs[i] op= e -/
def rGetN (K : PySem.W.Frag) : V → V → Hp → VK → Prop := fun x y H Q => ∃ (p : Addr) (xs : List V) (i : Nat) (v : V), x = .ref p ∧ y = .int (i : Int) ∧ SqL K H p xs ∧ i < 1000000 ∧ xs[i]? = some v ∧ Q v H
def AgP (tip : TIp) (tset : TSet) (o i x y : V) (D : Ends) (σ : L2.St) (H : Hp) : Prop := tip x y H fun z H5 => tset o i z H5 fun H6 => D.nx σ H6
theorem augS {tget : V → V → Hp → VK → Prop} {tip : TIp} {tset : TSet} (q : to σ H fun o H1 => ti σ H1 fun i H2 => tget o i H2 fun x H3 => te σ H3 fun y H4 => AgP tip tset o i x y D σ H4) : tAugS to ti te tget tip tset D σ H := q
theorem getN {p : Addr} {xs : List V} {i : Nat} (h : SqL K H p xs) (hi : i < 1000000) (hx : xs[i]? = some v) (q : Q v H) : rGetN K (.ref p) (.int (i : Int)) H Q := ⟨p, xs, i, v, rfl, rfl, h, hi, hx, q⟩
theorem agL {l : Addr} {xs : List V} {k : Nat} {f : Int → Int → Int} (h : H l = some (.lst xs)) (hk : k < xs.length) (q : D.nx σ (upd H l (.lst (xs.set k (.int (f i j)))))) : AgP (ipI f) rSetL (.ref l) (.int (k : Int)) (.int i) (.int j) D σ H :=
  ⟨i, j, rfl, rfl, l, xs, k, k, rfl, rfl, h, by unfold ixN; rw [if_pos (by omega), if_pos (by omega)]; rfl, q⟩
/-- o[i] = v -/
def SbP (ti : TE) (t : TSet) (v : V) (σ : L2.St) (o : V) (H : Hp) (R : L2.St → Hp → Prop) : Prop := ti σ H fun i H2 => t o i v H2 fun H3 => R σ H3
theorem sub {ts : TSet} {R : L2.St → Hp → Prop} (q : to σ H fun o H1 => SbP ti ts v σ o H1 R) : gSub to ti ts v σ H R := q
theorem sbp {ts : TSet} {R : L2.St → Hp → Prop} (q : ti σ H fun i H2 => ts x i v H2 fun H3 => R σ H3) : SbP ti ts v σ x H R := q
theorem setL {l : Addr} {xs : List V} {k : Int} {j : Nat} {R : Hp → Prop} (h : H l = some (.lst xs)) (hk : ixN xs.length k = some j) (q : R (upd H l (.lst (xs.set j v)))) : rSetL (.ref l) (.int k) v H R := ⟨l, xs, k, j, rfl, rfl, h, hk, q⟩
/-- slices -/
def PtP (x : V) (H : Hp) (R : Option Int → Hp → Prop) : Prop := ∃ i, x = .int i ∧ R (some i) H
theorem slc {r : V → Option Int → Option Int → Hp → VK → Prop} {tl th : TO} (q : te σ H fun x H1 => tl σ H1 fun a H2 => th σ H2 fun b H3 => r x a b H3 Q) : tSl r te tl th σ H Q := q
theorem noP {R : Option Int → Hp → Prop} (q : R none H) : tNoPart σ H R := q
theorem part {R : Option Int → Hp → Prop} (q : te σ H fun x H1 => PtP x H1 R) : tPart te σ H R := q
theorem ptp {R : Option Int → Hp → Prop} (q : R (some i) H) : PtP (.int i) H R := ⟨i, rfl, q⟩
theorem slS {z : Str} {lo hi : Option Int} (h : z.length ≤ sizeLine) (q : Q (.str (cutS z lo hi)) H) : rSlS (.str z) lo hi H Q := ⟨z, rfl, h, q⟩
/-- texts put together -/
def rCatS : R2 := fun x y H Q => ∃ i j, x = .str i ∧ y = .str j ∧ i.length + j.length ≤ sizeLine ∧ Q (.str (i ++ j)) H
theorem addS {a b : Str} (h : a.length + b.length ≤ sizeLine) (q : Q (.str (a ++ b)) H) : rCatS (.str a) (.str b) H Q := ⟨a, b, rfl, rfl, h, q⟩
theorem at_map {ns : List Int} {k : Nat} (h : k < ns.length) : atI (ns.map V.int) (k : Int) = some (.int (ns.getD k 0)) := by
  refine atI_nat ?_
  rw [List.getElem?_map, List.getElem?_eq_getElem h]
  simp [List.getD_eq_getElem?_getD, List.getElem?_eq_getElem h]
/-- methods of built-in types -/
def BmP (K : PySem.W.Frag) (T : String) (r : V → List V → Hp → VK → Prop) (t : TA) (σ : L2.St) (x : V) (H : Hp) (Q : VK) : Prop := tyV K T x H ∧ t σ H fun xs H2 => r x xs H2 Q
theorem bm {T : String} {r : V → List V → Hp → VK → Prop} (q : to σ H fun x H1 => BmP K T r tr σ x H1 Q) : tBM K T r to tr σ H Q := q
theorem bmS {T : String} {r : V → List V → Hp → VK → Prop} (h : tyV K T x H) (q : tr σ H fun xs H2 => r x xs H2 Q) : BmP K T r tr σ x H Q := ⟨h, q⟩
theorem app {l : Addr} {xs : List V} (h : H l = some (.lst xs)) (hz : xs.length < sizeLine) (q : Q .non (upd H l (.lst (xs ++ [y])))) : rAppend (.ref l) [y] H Q := ⟨l, xs, y, rfl, rfl, h, hz, q⟩
theorem tyL {p : Addr} {xs : List V} (h : SqL K H p xs) : tyV K "list" (.ref p) H := .inl ⟨rfl, _, h⟩
/-- what follows is shown once, from the word between -/
theorem cut {tz : TS} (M : L2.St → Hp → Prop) (h : tu { D with nx := M } σ H) (k : ∀ σ' H', M σ' H' → tz D σ' H') : C8.tCut tu tz D σ H := ⟨M, h, k⟩
/-- while: a word that falls -/
def WhI (W : Nat → L2.St → Hp → Prop) (m : Nat) (tb : TS) (D : Ends) (σ : L2.St) (b : Bool) (H : Hp) : Prop :=
  if b = true then ∃ N : L2.St → Hp → Prop, (∀ σ' H', N σ' H' → ∃ m', m' < m ∧ W m' σ' H') ∧ tb { D with nx := N, ct := N, bk := D.nx } σ H else D.nx σ H
theorem whI_t {W : Nat → L2.St → Hp → Prop} {m : Nat} (q : tu { D with nx := fun σ' H' => ∃ m', m' < m ∧ W m' σ' H', ct := fun σ' H' => ∃ m', m' < m ∧ W m' σ' H', bk := D.nx } σ H) : WhI W m tu D σ true H := by
  unfold WhI; rw [if_pos rfl]; exact ⟨_, fun _ _ h => h, q⟩
theorem whI_f {W : Nat → L2.St → Hp → Prop} {m : Nat} (q : D.nx σ H) : WhI W m tu D σ false H := by
  unfold WhI; rw [if_neg Bool.false_ne_true]; exact q
theorem whI_d {W : Nat → L2.St → Hp → Prop} {m : Nat} {p : Prop} [Decidable p] (q1 : p → WhI W m tu D σ true H) (q2 : ¬ p → WhI W m tu D σ false H) : WhI W m tu D σ (decide p) H := by
  by_cases h : p
  · rw [decide_eq_true h]; exact q1 h
  · rw [decide_eq_false h]; exact q2 h
theorem whI_b {W : Nat → L2.St → Hp → Prop} {m : Nat} (q1 : b = true → WhI W m tu D σ true H) (q2 : b = false → WhI W m tu D σ false H) : WhI W m tu D σ b H := by
  cases b with
  | true => exact q1 rfl
  | false => exact q2 rfl
theorem whl (W : Nat → L2.St → Hp → Prop) (m0 : Nat) (h0 : W m0 σ H) (hs : ∀ m σ' H', W m σ' H' → t σ' H' fun b H1 => WhI W m tu D σ' b H1) : tWhile t tu D σ H := ⟨W, ⟨m0, h0⟩, hs⟩
/-- any walk -/
theorem fw {J : It} {n : Nat} {G : Hp → Prop} {Y : Nat → Hp → V → Hp → Prop} {g : TG} (w : Walk J n G Y) (Pv : Nat → L2.St → Hp → Prop) (h0 : Pv 0 σ H) (hG : ∀ i σ H, i ≤ n → Pv i σ H → G H)
    (hs : ∀ i x σ H H', i < n → Pv i σ H → Y i H x H' → g x σ H' fun σ2 H2 => tu { D with nx := Pv (i + 1), ct := Pv (i + 1), bk := D.nx } σ2 H2) (hd : ∀ σ H, Pv n σ H → D.nx σ H) : FW J g tu D σ H := for_it w Pv h0 hG hs hd
def StrP (x : V) (H : Hp) (R : It → Hp → Prop) : Prop := ∃ z, x = .str z ∧ R (Its z) H
theorem strw {R : It → Hp → Prop} (q : te σ H fun x H1 => StrP x H1 R) : iStr te σ H R := q
theorem strp {z : Str} {R : It → Hp → Prop} (q : R (Its z) H) : StrP (.str z) H R := ⟨z, rfl, q⟩
/-- comprehensions -/
def LcP (J : It) (g : TG) (tt : TT) (te : TE) (vs : List Nat) (σ : L2.St) (Q : VK) (H1 : Hp) : Prop := ∀ D, H1 D = none → ∃ W : Nat → Nat → Hp → Prop, (∃ m, W 0 m (upd H1 D (.lst []))) ∧ ∀ i m H, W i m H →
  (J.stop i H ∧ Q (.ref D) H) ∨ (J.go i H ∧ ∃ Nx : Hp → Prop, (∀ H', Nx H' → ∃ m', m' < m ∧ W (i + 1) m' H') ∧ ∀ x H', J.yld i H x H' → g x (wipe σ vs) H' fun σ2 H2 => wipe σ2 vs = wipe σ vs ∧ tt σ2 H2 fun b H3 =>
    if b = true then te σ2 H3 fun y H4 => ∃ acc, H4 D = some (.lst acc) ∧ acc.length < sizeLine ∧ Nx (upd H4 D (.lst (acc ++ [y]))) else Nx H3)
theorem lc {wi : TI} {g : TG} {vs : List Nat} (q : wi σ H fun J H1 => LcP J g t te vs σ Q H1) : tLc wi g t te vs σ H Q := q
def WP (A B : Prop) : Prop := A ∧ B
theorem wp (h : A1) (q : A2) : WP A1 A2 := ⟨h, q⟩
theorem yes (q : B true H) : tYes σ H B := q
theorem same_up {H H' : Hp} {p : Addr} {o : HO} (h : H p = none) (s : Same H H') : Same H (upd H' p o) := fun a u e => by rw [upd_ne (ne_of_none e h)]; exact s a u e
theorem same_new {H : Hp} {p : Addr} {o : HO} (h : H p = none) : Same H (upd H p o) := same_up h (Same.refl H)
theorem snoc {H : Hp} {p : Addr} {xs : List Int} {z : Int} : upd H p (.lst (xs.map V.int ++ [.int z])) p = some (.lst ((xs ++ [z]).map V.int)) := by rw [upd_same, List.map_append]; rfl
/-- a comprehension whose turns leave what stands: the list of the turns that are kept -/
theorem lcFil {J : It} {n : Nat} {G : Hp → Prop} {Y : Nat → Hp → V → Hp → Prop} {g : TG} {vs : List Nat} (w : Walk J n G Y) (hn : n < 16777216) (c : Nat → Bool) (f : Nat → V) (hG : ∀ H', Same H H' → G H') (hY : ∀ i H x H', Y i H x H' → Same H H')
    (hs : ∀ i x H1 H' (R : V → Hp → Prop) (R0 : Hp → Prop), i < n → Same H H1 → Y i H1 x H' → (c i = true → ∀ H4, Same H' H4 → R (f i) H4) → (c i = false → ∀ H4, Same H' H4 → R0 H4) →
      g x (wipe σ vs) H' fun σ2 H2 => WP (wipe σ2 vs = wipe σ vs) (t σ2 H2 fun b H3 => IfP b (te σ2 H3 R) (R0 H3)))
    (q : ∀ p H2, H p = none → Same H H2 → H2 p = some (.lst (((List.range n).filter c).map f)) → Q (.ref p) H2) : LcP J g t te vs σ Q H := fun p hp => by
  refine lc_it w (fun i H' => Same H H' ∧ H' p = some (.lst (((List.range i).filter c).map f))) ⟨same_new hp, upd_same⟩ (fun i H' _ h => hG H' h.1) (fun i x H1 H' hi h y => ?_) (fun H' h => q p H' hp h.1 h.2)
  obtain ⟨h1, h2⟩ := h
  have s1 := hY i H1 x H' y
  refine hs i x H1 H' _ _ hi h1 y (fun hc H4 s4 => ⟨_, s4 _ _ (s1 _ _ h2), ?_, same_up hp (h1.trans (s1.trans s4)), ?_⟩) (fun hc H4 s4 => ⟨h1.trans (s1.trans s4), ?_⟩)
  · rw [List.length_map]
    have := List.length_filter_le c (List.range i)
    rw [List.length_range] at this
    rw [sizeLine_eq]; omega
  · rw [upd_same, List.range_succ, List.filter_append, List.map_append, List.filter_cons, if_pos hc]; rfl
  · rw [List.range_succ, List.filter_append, List.map_append, List.filter_cons, if_neg (by rw [hc]; decide)]
    rw [s4 _ _ (s1 _ _ h2)]; simp
theorem lcMap {J : It} {n : Nat} {G : Hp → Prop} {Y : Nat → Hp → V → Hp → Prop} {g : TG} {vs : List Nat} (w : Walk J n G Y) (hn : n < 16777216) (f : Nat → V) (hG : ∀ H', Same H H' → G H') (hY : ∀ i H x H', Y i H x H' → Same H H')
    (hs : ∀ i x H1 H' (R : V → Hp → Prop) (R0 : Hp → Prop), i < n → Same H H1 → Y i H1 x H' → (∀ H4, Same H' H4 → R (f i) H4) →
      g x (wipe σ vs) H' fun σ2 H2 => WP (wipe σ2 vs = wipe σ vs) (t σ2 H2 fun b H3 => IfP b (te σ2 H3 R) (R0 H3)))
    (q : ∀ p H2, H p = none → Same H H2 → H2 p = some (.lst ((List.range n).map f)) → Q (.ref p) H2) : LcP J g t te vs σ Q H := by
  refine lcFil w hn (fun _ => true) f hG hY (fun i x H1 H' R R0 hi h1 y hr _ => hs i x H1 H' R R0 hi h1 y (hr rfl)) ?_
  rw [List.filter_eq_self.mpr (fun _ _ => rfl)]
  exact q
theorem sameFn {f : Nat → V} : ∀ i H x H', YFn f i H x H' → Same H H' := fun _ _ _ _ y => y.1 ▸ Same.refl _
theorem sameAt {xs : List V} : ∀ i H x H', YAt xs i H x H' → Same H H' := fun _ _ _ _ y => y.1 ▸ Same.refl _
/-- reversed ranges -/
def RrP (a b : Int) (H : Hp) (R : It → Hp → Prop) : Prop := -(2 ^ 62) ≤ a ∧ a < 2 ^ 62 ∧ -(2 ^ 62) ≤ b ∧ b < 2 ^ 62 ∧ R (Itc (a + (((b - a).toNat : Nat) : Int) - 1) (-1) (b - a).toNat) H
def Rg1P (x : V) (H : Hp) (R : Int → Int → Hp → Prop) : Prop := ∃ j, x = .int j ∧ R 0 j H
theorem rrv {tr : L2.St → Hp → (Int → Int → Hp → Prop) → Prop} {R : It → Hp → Prop} (q : tr σ H fun a b H1 => RrP a b H1 R) : iRevR tr σ H R := q
theorem rr {a b : Int} {R : It → Hp → Prop} (h : -(2 ^ 62) ≤ a ∧ a < 2 ^ 62 ∧ -(2 ^ 62) ≤ b ∧ b < 2 ^ 62) (q : R (Itc (a + (((b - a).toNat : Nat) : Int) - 1) (-1) (b - a).toNat) H) : RrP a b H R := ⟨h.1, h.2.1, h.2.2.1, h.2.2.2, q⟩
theorem rg1 {R : Int → Int → Hp → Prop} (q : ta σ H fun x H1 => Rg1P x H1 R) : tRg1 ta σ H R := q
theorem rg1p {R : Int → Int → Hp → Prop} (q : R 0 j H) : Rg1P (.int j) H R := ⟨j, rfl, q⟩
/-- isinstance with a built-in class -/
theorem isi {n : String} {tv : Value} (ty : TyX K H x tv) (q : Q (.bl b) H) (e : PySem.W.kitOne K tv (.type n) = some b) : rIsi K [x, .ty n] H Q := ⟨x, .ty n, tv, .type n, b, rfl, .ty n, ty, e, q⟩
theorem isiI {n : String} (q : Q (.bl b) H) (e : kitB "int" n = some b) : rIsi K [.int i, .ty n] H Q := isi (.base (.int i)) q (kit_ty e)
theorem isiS {n : String} {z : Str} (q : Q (.bl b) H) (e : kitB "str" n = some b) : rIsi K [.str z, .ty n] H Q := isi (.base (.str z)) q (kit_ty e)
theorem isiB {n : String} {k : Bool} (q : Q (.bl b) H) (e : kitB "bool" n = some b) : rIsi K [.bl k, .ty n] H Q := isi (.base (.bl k)) q (kit_ty e)
theorem isiN {n : String} (q : Q (.bl b) H) (e : kitB "NoneType" n = some b) : rIsi K [.non, .ty n] H Q := isi (.base .non) q (kit_ty e)
/-- int of a text, order of texts -/
def rIntS : List V → Hp → VK → Prop := fun xs H Q => ∃ a n, xs = [.str a] ∧ PySem.intText? a = some n ∧ a.length ≤ 640 ∧ Q (.int n) H
theorem intS {a : Str} {n : Int} (h : PySem.intText? a = some n) (hl : a.length ≤ 640) (q : Q (.int n) H) : rIntS [.str a] H Q := ⟨a, n, rfl, h, hl, q⟩
def rLtS : R2 := fun x y H Q => ∃ i j, x = .str i ∧ y = .str j ∧ Q (.bl (decide (i.cps.toList < j.cps.toList))) H
theorem ltS {a b : Str} (q : Q (.bl (decide (a.cps.toList < b.cps.toList))) H) : rLtS (.str a) (.str b) H Q := ⟨a, b, rfl, rfl, q⟩
theorem eqB {p q' : Bool} : decide (V.bl p = V.bl q') = decide (p = q') := by simp
theorem eqvB {a b : Bool} (q : Q (.bl (decide (a = b))) H) : rEq (.bl a) (.bl b) H Q := eqv (by rw [eqB]; exact q)
def rMin2 : List V → Hp → VK → Prop := fun xs H Q => ∃ i j, xs = [.int i, .int j] ∧ Q (.int (if j < i then j else i)) H
def rMax2 : List V → Hp → VK → Prop := fun xs H Q => ∃ i j, xs = [.int i, .int j] ∧ Q (.int (if j > i then j else i)) H
theorem min2 (q : Q (.int (if j < i then j else i)) H) : rMin2 [.int i, .int j] H Q := ⟨i, j, rfl, q⟩
theorem max2 (q : Q (.int (if j > i then j else i)) H) : rMax2 [.int i, .int j] H Q := ⟨i, j, rfl, q⟩
/-- x in (..), of ints -/
theorem inL {p : Addr} {xs : List V} {neg : Bool} (h : SqL K H p xs) (f : xs.all flatV = true) (q : Q (.bl (if neg then !inV (.int i) xs else inV (.int i) xs)) H) : rIn K neg (.int i) (.ref p) H Q := ⟨p, xs, rfl, .inl h, rfl, f, q⟩
theorem flat_ints : ∀ xs : List Int, (xs.map V.int).all flatV = true
  | [] => rfl
  | _ :: xs => by rw [List.map_cons, List.all_cons, flat_ints xs]; rfl
theorem notin_ints {z : Int} : ∀ xs : List Int, (∀ y ∈ xs, y ≠ z) → inV (.int z) (xs.map V.int) = false
  | [], _ => rfl
  | y :: xs, h => by
    have ih := notin_ints xs fun u hu => h u (List.mem_cons_of_mem _ hu)
    unfold inV at *
    rw [List.map_cons, List.any_cons, ih, Bool.or_false]
    show (y == z) = false
    exact beq_eq_false_iff_ne.mpr (h y List.mem_cons_self)
theorem inT {p : Addr} {xs : List V} {neg : Bool} (h : SqT K H p xs) (f : xs.all flatV = true) (q : Q (.bl (if neg then !inV (.int i) xs else inV (.int i) xs)) H) : rIn K neg (.int i) (.ref p) H Q := ⟨p, xs, rfl, .inr h, rfl, f, q⟩
/-- == of lists of ints -/
theorem eqvAll_int : ∀ xs ys : List Int, PyData.eqvAll (xs.map .int) (ys.map .int) = decide (xs = ys)
  | [], [] => by simp [PyData.eqvAll]
  | [], _ :: _ => by simp [PyData.eqvAll]
  | _ :: _, [] => by simp [PyData.eqvAll]
  | x :: xs, y :: ys => by
    simp only [List.map_cons, PyData.eqvAll, PyData.eqv, eqvAll_int xs ys]
    by_cases h : x = y
    · subst h; simp
    · simp [h]
theorem canLay_ints : ∀ xs : List Int, PyData.canLayAll0 (xs.map .int) = true
  | [] => rfl
  | _ :: xs => by simp [PyData.canLayAll0, PyData.canLay0, canLay_ints xs]
theorem depth_ints : ∀ xs : List Int, PyData.depthAll (xs.map .int) = 0
  | [] => rfl
  | _ :: xs => by simp [PyData.depthAll, PyData.depth, depth_ints xs]
theorem shaped_ints (xs : List Int) : SeqAt.shaped (.list (xs.map .int)) = true := by
  simp [SeqAt.shaped, PyData.canLay0, PyData.depth, canLay_ints, depth_ints]
theorem shaped_tints (xs : List Int) : SeqAt.shaped (.tuple (xs.map .int)) = true := by
  simp [SeqAt.shaped, PyData.canLay0, PyData.depth, canLay_ints, depth_ints]
theorem dpAll_int : ∀ xs : List Int, DpAll K H (xs.map V.int) (xs.map PyData.int)
  | [] => .nil
  | x :: xs => .cons (.int x) (dpAll_int xs)
theorem eqDI {p q' : Addr} {xs ys : List Int} (h1 : SqL K H p (xs.map V.int)) (h2 : SqL K H q' (ys.map V.int)) (q : Q (.bl (decide (xs = ys))) H) : rEqD K (.ref p) (.ref q') H Q :=
  ⟨_, _, .lst h1 (dpAll_int xs), .lst h2 (dpAll_int ys), shaped_ints xs, shaped_ints ys, by rw [show PyData.eqv (.list (xs.map .int)) (.list (ys.map .int)) = decide (xs = ys) from eqvAll_int xs ys]; exact q⟩
theorem neDI {p q' : Addr} {xs ys : List Int} (h1 : SqL K H p (xs.map V.int)) (h2 : SqL K H q' (ys.map V.int)) (q : Q (.bl (!decide (xs = ys))) H) : rNeD K (.ref p) (.ref q') H Q :=
  ⟨_, _, .lst h1 (dpAll_int xs), .lst h2 (dpAll_int ys), shaped_ints xs, shaped_ints ys, by rw [show PyData.eqv (.list (xs.map .int)) (.list (ys.map .int)) = decide (xs = ys) from eqvAll_int xs ys]; exact q⟩
theorem eqDT {p q' : Addr} {xs ys : List Int} (h1 : SqT K H p (xs.map V.int)) (h2 : SqT K H q' (ys.map V.int)) (q : Q (.bl (decide (xs = ys))) H) : rEqD K (.ref p) (.ref q') H Q :=
  ⟨_, _, .tup h1 (dpAll_int xs), .tup h2 (dpAll_int ys), shaped_tints xs, shaped_tints ys, by rw [show PyData.eqv (.tuple (xs.map .int)) (.tuple (ys.map .int)) = decide (xs = ys) from eqvAll_int xs ys]; exact q⟩
theorem neDT {p q' : Addr} {xs ys : List Int} (h1 : SqT K H p (xs.map V.int)) (h2 : SqT K H q' (ys.map V.int)) (q : Q (.bl (!decide (xs = ys))) H) : rNeD K (.ref p) (.ref q') H Q :=
  ⟨_, _, .tup h1 (dpAll_int xs), .tup h2 (dpAll_int ys), shaped_tints xs, shaped_tints ys, by rw [show PyData.eqv (.tuple (xs.map .int)) (.tuple (ys.map .int)) = decide (xs = ys) from eqvAll_int xs ys]; exact q⟩
/-- all, any, sum, list(..) of a list -/
theorem allP {p : Addr} {bs : List Bool} (h : SqL K H p (bs.map V.bl)) (q : Q (.bl (bs.all id)) H) : L2.rAll K [.ref p] H Q := ⟨p, bs, rfl, h, q⟩
theorem anyP {p : Addr} {bs : List Bool} (h : SqL K H p (bs.map V.bl)) (q : Q (.bl (bs.any id)) H) : L2.rAny K [.ref p] H Q := ⟨p, bs, rfl, h, q⟩
theorem sumP {p : Addr} {ns : List Int} (h : SqL K H p (ns.map V.int)) (q : Q (.int ns.sum) H) : L2.rSum K [.ref p] H Q := ⟨p, ns, rfl, h, q⟩
def rList (K : PySem.W.Frag) : List V → Hp → VK → Prop := fun xs H Q => ∃ p ys, xs = [.ref p] ∧ (SqL K H p ys ∨ SqT K H p ys) ∧ ∀ l, H l = none → Q (.ref l) (upd H l (.lst ys))
theorem listL {p : Addr} {xs : List V} (h : SqL K H p xs) (q : ∀ l, H l = none → Q (.ref l) (upd H l (.lst xs))) : rList K [.ref p] H Q := ⟨p, xs, rfl, .inl h, q⟩
theorem listT {p : Addr} {xs : List V} (h : SqT K H p xs) (q : ∀ l, H l = none → Q (.ref l) (upd H l (.lst xs))) : rList K [.ref p] H Q := ⟨p, xs, rfl, .inr h, q⟩
def rDivmod : List V → Hp → VK → Prop := fun xs H Q => ∃ i j, xs = [.int i, .int j] ∧ CDiv i j ∧ ∀ p, H p = none → Q (.ref p) (upd H p (.tup [.int (i / j), .int (i % j)]))
theorem dvm (c : CDiv i j) (q : ∀ p, H p = none → Q (.ref p) (upd H p (.tup [.int (i / j), .int (i % j)]))) : rDivmod [.int i, .int j] H Q := ⟨i, j, rfl, c, q⟩
theorem cat {l b : Addr} {xs zs : List V} (h1 : H l = some (.lst xs)) (h2 : H b = some (.lst zs)) (hz : xs.length + zs.length ≤ sizeLine) (q : ∀ p, H p = none → Q (.ref p) (upd H p (.lst (xs ++ zs)))) : rCat (.ref l) (.ref b) H Q := ⟨l, b, xs, zs, rfl, rfl, h1, h2, hz, q⟩
def TwP (K : PySem.W.Frag) (x : V) (H : Hp) (R : It → Hp → Prop) : Prop := ∃ a, x = .ref a ∧ (∃ xs, SqT K H a xs) ∧ R (Itt K a) H
theorem twk {R : It → Hp → Prop} (q : te σ H fun x H1 => TwP K x H1 R) : iTup K te σ H R := q
theorem twp {a : Addr} {xs : List V} {R : It → Hp → Prop} (h : SqT K H a xs) (q : R (Itt K a) H) : TwP K (.ref a) H R := ⟨a, rfl, ⟨xs, h⟩, q⟩
/-- a list of tuples of ints -/
def TL (H : Hp) (l : Addr) (n : Nat) (f : Nat → List Int) : Prop := ∃ ps : List Addr, H l = some (.lst (ps.map V.ref)) ∧ ps.length = n ∧ ∀ j a, ps[j]? = some a → H a = some (.tup ((f j).map V.int))
theorem TL.keep {H' : Hp} {l : Addr} {n : Nat} {f : Nat → List Int} (t : TL H l n f) (s : Same H H') : TL H' l n f := by
  obtain ⟨ps, h1, h2, h3⟩ := t
  exact ⟨ps, s _ _ h1, h2, fun j a e => s _ _ (h3 j a e)⟩
theorem TL.nil {l : Addr} {f : Nat → List Int} (h : H l = some (.lst [])) : TL H l 0 f := ⟨[], h, rfl, fun j a e => by cases e⟩
theorem TL.snoc {l t : Addr} {n : Nat} {f : Nat → List Int} (x : TL H l n f) (h : H t = some (.tup ((f n).map V.int))) : ∃ xs, H l = some (.lst xs) ∧ xs.length = n ∧ TL (upd H l (.lst (xs ++ [.ref t]))) l (n + 1) f := by
  obtain ⟨ps, h1, h2, h3⟩ := x
  have ne : ∀ {a : Addr} {ys : List V}, H a = some (.tup ys) → a ≠ l := fun e => ne_of e h1 (by intro z; cases z)
  refine ⟨_, h1, by rw [List.length_map]; exact h2, ps ++ [t], by rw [upd_same, List.map_append]; rfl, by rw [List.length_append, h2]; rfl, fun j a e => ?_⟩
  by_cases hj : j < ps.length
  · rw [List.getElem?_append_left hj] at e
    rw [upd_ne (ne (h3 j a e))]; exact h3 j a e
  · rw [List.getElem?_append_right (by omega)] at e
    have hj2 : j - ps.length = 0 := by
      rcases Nat.eq_zero_or_pos (j - ps.length) with z | z
      · exact z
      · rw [List.getElem?_eq_none (by show 1 ≤ _; omega)] at e; cases e
    rw [hj2] at e
    have e2 : t = a := Option.some.inj e
    subst e2
    rw [upd_ne (ne h), show j = n by omega]; exact h
theorem TL.len {l : Addr} {n : Nat} {f : Nat → List Int} (x : TL H l n f) : ∃ xs, H l = some (.lst xs) ∧ xs.length = n := by
  obtain ⟨ps, h1, h2, h3⟩ := x
  exact ⟨_, h1, by rw [List.length_map]; exact h2⟩
theorem TL.get {l : Addr} {n j : Nat} {f : Nat → List Int} (x : TL H l n f) (hj : j < n) : ∃ xs a, H l = some (.lst xs) ∧ atI xs (j : Int) = some (.ref a) ∧ H a = some (.tup ((f j).map V.int)) := by
  obtain ⟨ps, h1, h2, h3⟩ := x
  have hj2 : j < ps.length := by omega
  refine ⟨_, ps[j], h1, atI_nat ?_, h3 j _ (List.getElem?_eq_getElem hj2)⟩
  rw [List.getElem?_map, List.getElem?_eq_getElem hj2]; rfl
theorem dp_tups : ∀ (ps : List Addr) (g : Nat → List Int), (∀ j a, ps[j]? = some a → H a = some (.tup ((g j).map V.int))) → DpAll K H (ps.map V.ref) ((List.range ps.length).map fun j => PyData.tuple ((g j).map PyData.int))
  | [], _, _ => .nil
  | a :: ps, g, h => by
    rw [List.length_cons, List.range_succ_eq_map, List.map_cons, List.map_cons, List.map_map]
    exact .cons (.tup (SqT.of (h 0 a rfl)) (dpAll_int _)) (dp_tups ps (fun j => g (j + 1)) fun j b e => h (j + 1) b (by simpa using e))
theorem lay_tups : ∀ rows : List (List Int), PyData.canLayAll0 (rows.map fun r => PyData.tuple (r.map PyData.int)) = true ∧ PyData.depthAll (rows.map fun r => PyData.tuple (r.map PyData.int)) ≤ 1 ∧ PyData.eqvAll (rows.map fun r => PyData.tuple (r.map PyData.int)) (rows.map fun r => PyData.tuple (r.map PyData.int)) = true
  | [] => ⟨rfl, by simp [PyData.depthAll], by simp [PyData.eqvAll]⟩
  | r :: rows => by
    obtain ⟨h1, h2, h3⟩ := lay_tups rows
    refine ⟨by simp [PyData.canLayAll0, PyData.canLay0, canLay_ints, h1], ?_, ?_⟩
    · simp only [List.map_cons, PyData.depthAll, PyData.depth, depth_ints]; omega
    · simp [PyData.eqvAll, PyData.eqv, eqvAll_int, h3]
theorem TL.dp {l : Addr} {n : Nat} {f : Nat → List Int} (x : TL H l n f) : Dp K H (.ref l) (.list (((List.range n).map f).map fun r => PyData.tuple (r.map PyData.int))) := by
  obtain ⟨ps, h1, h2, h3⟩ := x
  have := dp_tups (K := K) ps f h3
  rw [h2] at this
  rw [List.map_map]
  exact .lst (SqL.of h1) this
theorem shaped_tups (rows : List (List Int)) : SeqAt.shaped (.list (rows.map fun r => PyData.tuple (r.map PyData.int))) = true := by
  obtain ⟨h1, h2, _⟩ := lay_tups rows
  unfold SeqAt.shaped
  simp only [PyData.canLay0, PyData.depth, h1, Bool.true_and]
  exact decide_eq_true (by omega)
theorem eqTL {l m : Addr} {n : Nat} {f : Nat → List Int} (x : TL H l n f) (y : TL H m n f) (q : Q (.bl true) H) : rEqD K (.ref l) (.ref m) H Q :=
  ⟨_, _, x.dp, y.dp, shaped_tups _, shaped_tups _, by rw [show PyData.eqv (.list (((List.range n).map f).map fun r => PyData.tuple (r.map PyData.int))) (.list (((List.range n).map f).map fun r => PyData.tuple (r.map PyData.int))) = true from (lay_tups _).2.2]; exact q⟩
theorem neTL {l m : Addr} {n : Nat} {f : Nat → List Int} (x : TL H l n f) (y : TL H m n f) (q : Q (.bl false) H) : rNeD K (.ref l) (.ref m) H Q :=
  ⟨_, _, x.dp, y.dp, shaped_tups _, shaped_tups _, by rw [show PyData.eqv (.list (((List.range n).map f).map fun r => PyData.tuple (r.map PyData.int))) (.list (((List.range n).map f).map fun r => PyData.tuple (r.map PyData.int))) = true from (lay_tups _).2.2]; exact q⟩
/-- a comprehension whose turns make a tuple each -/
theorem lcTup {J : It} {n : Nat} {G : Hp → Prop} {Y : Nat → Hp → V → Hp → Prop} {g : TG} {vs : List Nat} (w : Walk J n G Y) (hn : n < 16777216) (f : Nat → List Int) (hG : ∀ H', Same H H' → G H') (hY : ∀ i H x H', Y i H x H' → Same H H')
    (hs : ∀ i x H1 H' (R : V → Hp → Prop) (R0 : Hp → Prop), i < n → Same H H1 → Y i H1 x H' → (∀ p H4, Same H' H4 → H4 p = some (.tup ((f i).map V.int)) → R (.ref p) H4) →
      g x (wipe σ vs) H' fun σ2 H2 => WP (wipe σ2 vs = wipe σ vs) (t σ2 H2 fun b H3 => IfP b (te σ2 H3 R) (R0 H3)))
    (q : ∀ p H2, H p = none → Same H H2 → TL H2 p n f → Q (.ref p) H2) : LcP J g t te vs σ Q H := fun p hp => by
  refine lc_it w (fun i H' => Same H H' ∧ TL H' p i f) ⟨same_new hp, TL.nil upd_same⟩ (fun i H' _ h => hG H' h.1) (fun i x H1 H' hi h y => ?_) (fun H' h => q p H' hp h.1 h.2)
  obtain ⟨h1, h2⟩ := h
  have s1 := hY i H1 x H' y
  refine hs i x H1 H' _ _ hi h1 y (fun a H4 s4 ha => ?_)
  obtain ⟨xs, e1, e2, e3⟩ := (h2.keep (s1.trans s4)).snoc ha
  exact ⟨xs, e1, by rw [sizeLine_eq]; omega, same_up hp (h1.trans (s1.trans s4)), e3⟩
/-- a list of lists of ints -/
def LL (H : Hp) (l : Addr) (n : Nat) (f : Nat → List Int) : Prop := ∃ ps : List Addr, H l = some (.lst (ps.map V.ref)) ∧ ps.length = n ∧ ∀ j a, ps[j]? = some a → H a = some (.lst ((f j).map V.int))
theorem LL.keep {H' : Hp} {l : Addr} {n : Nat} {f : Nat → List Int} (t : LL H l n f) (s : Same H H') : LL H' l n f := by
  obtain ⟨ps, h1, h2, h3⟩ := t
  exact ⟨ps, s _ _ h1, h2, fun j a e => s _ _ (h3 j a e)⟩
theorem LL.nil {l : Addr} {f : Nat → List Int} (h : H l = some (.lst [])) : LL H l 0 f := ⟨[], h, rfl, fun j a e => by cases e⟩
theorem LL.snoc {l t : Addr} {n : Nat} {f : Nat → List Int} (x : LL H l n f) (h : H t = some (.lst ((f n).map V.int))) (ne : t ≠ l) : ∃ xs, H l = some (.lst xs) ∧ xs.length = n ∧ LL (upd H l (.lst (xs ++ [.ref t]))) l (n + 1) f := by
  obtain ⟨ps, h1, h2, h3⟩ := x
  have nl : ∀ {j : Nat} {a : Addr}, ps[j]? = some a → a ≠ l := fun {j a} e z => by
    have e2 := h3 j a e
    rw [z, h1] at e2
    have e3 : ps.map V.ref = (f j).map V.int := by injection e2 with e2; injection e2
    cases hp : ps with
    | nil => rw [hp] at e; cases e
    | cons b r =>
      rw [hp] at e3
      cases hf : f j with
      | nil => rw [hf] at e3; cases e3
      | cons z zs => rw [hf] at e3; injection e3 with e4; cases e4
  refine ⟨_, h1, by rw [List.length_map]; exact h2, ps ++ [t], by rw [upd_same, List.map_append]; rfl, by rw [List.length_append, h2]; rfl, fun j a e => ?_⟩
  by_cases hj : j < ps.length
  · rw [List.getElem?_append_left hj] at e
    rw [upd_ne (nl e)]; exact h3 j a e
  · rw [List.getElem?_append_right (by omega)] at e
    have hj2 : j - ps.length = 0 := by
      rcases Nat.eq_zero_or_pos (j - ps.length) with z | z
      · exact z
      · rw [List.getElem?_eq_none (by show 1 ≤ _; omega)] at e; cases e
    rw [hj2] at e
    have e2 : t = a := Option.some.inj e
    subst e2
    rw [upd_ne ne, show j = n by omega]; exact h
theorem LL.len {l : Addr} {n : Nat} {f : Nat → List Int} (x : LL H l n f) : ∃ xs, H l = some (.lst xs) ∧ xs.length = n := by
  obtain ⟨ps, h1, h2, h3⟩ := x
  exact ⟨_, h1, by rw [List.length_map]; exact h2⟩
theorem LL.all {l : Addr} {n : Nat} {f : Nat → List Int} (x : LL H l n f) : ∃ xs, H l = some (.lst xs) ∧ xs.length = n ∧ ∀ j v, xs[j]? = some v → ∃ a, v = .ref a ∧ H a = some (.lst ((f j).map V.int)) := by
  obtain ⟨ps, h1, h2, h3⟩ := x
  refine ⟨_, h1, by rw [List.length_map]; exact h2, fun j v e => ?_⟩
  rw [List.getElem?_map] at e
  cases ea : ps[j]? with
  | none => rw [ea] at e; cases e
  | some a => rw [ea] at e; exact ⟨a, (Option.some.inj e).symm, h3 j a ea⟩
theorem LL.get {l : Addr} {n j : Nat} {f : Nat → List Int} (x : LL H l n f) (hj : j < n) : ∃ xs a, H l = some (.lst xs) ∧ atI xs (j : Int) = some (.ref a) ∧ H a = some (.lst ((f j).map V.int)) := by
  obtain ⟨ps, h1, h2, h3⟩ := x
  have hj2 : j < ps.length := by omega
  refine ⟨_, ps[j], h1, atI_nat ?_, h3 j _ (List.getElem?_eq_getElem hj2)⟩
  rw [List.getElem?_map, List.getElem?_eq_getElem hj2]; rfl
theorem LL.congr {l : Addr} {n : Nat} {f g : Nat → List Int} (x : LL H l n f) (h : ∀ j, j < n → f j = g j) : LL H l n g := by
  obtain ⟨ps, h1, h2, h3⟩ := x
  refine ⟨ps, h1, h2, fun j a e => ?_⟩
  have hj : j < ps.length := by
    rcases Nat.lt_or_ge j ps.length with z | z
    · exact z
    · rw [List.getElem?_eq_none z] at e; cases e
  rw [← h j (by omega)]; exact h3 j a e
theorem dp_lists : ∀ (ps : List Addr) (g : Nat → List Int), (∀ j a, ps[j]? = some a → H a = some (.lst ((g j).map V.int))) → DpAll K H (ps.map V.ref) ((List.range ps.length).map fun j => PyData.list ((g j).map PyData.int))
  | [], _, _ => .nil
  | a :: ps, g, h => by
    rw [List.length_cons, List.range_succ_eq_map, List.map_cons, List.map_cons, List.map_map]
    exact .cons (.lst (SqL.of (h 0 a rfl)) (dpAll_int _)) (dp_lists ps (fun j => g (j + 1)) fun j b e => h (j + 1) b (by simpa using e))
theorem lay_lists : ∀ rows : List (List Int), PyData.canLayAll0 (rows.map fun r => PyData.list (r.map PyData.int)) = true ∧ PyData.depthAll (rows.map fun r => PyData.list (r.map PyData.int)) ≤ 1 ∧ PyData.eqvAll (rows.map fun r => PyData.list (r.map PyData.int)) (rows.map fun r => PyData.list (r.map PyData.int)) = true
  | [] => ⟨rfl, by simp [PyData.depthAll], by simp [PyData.eqvAll]⟩
  | r :: rows => by
    obtain ⟨h1, h2, h3⟩ := lay_lists rows
    refine ⟨by simp [PyData.canLayAll0, PyData.canLay0, canLay_ints, h1], ?_, ?_⟩
    · simp only [List.map_cons, PyData.depthAll, PyData.depth, depth_ints]; omega
    · simp [PyData.eqvAll, PyData.eqv, eqvAll_int, h3]
theorem LL.dp {l : Addr} {n : Nat} {f : Nat → List Int} (x : LL H l n f) : Dp K H (.ref l) (.list (((List.range n).map f).map fun r => PyData.list (r.map PyData.int))) := by
  obtain ⟨ps, h1, h2, h3⟩ := x
  have := dp_lists (K := K) ps f h3
  rw [h2] at this
  rw [List.map_map]
  exact .lst (SqL.of h1) this
theorem shaped_lists (rows : List (List Int)) : SeqAt.shaped (.list (rows.map fun r => PyData.list (r.map PyData.int))) = true := by
  obtain ⟨h1, h2, _⟩ := lay_lists rows
  unfold SeqAt.shaped
  simp only [PyData.canLay0, PyData.depth, h1, Bool.true_and]
  exact decide_eq_true (by omega)
theorem eqLL {l m : Addr} {n : Nat} {f : Nat → List Int} (x : LL H l n f) (y : LL H m n f) (q : Q (.bl true) H) : rEqD K (.ref l) (.ref m) H Q :=
  ⟨_, _, x.dp, y.dp, shaped_lists _, shaped_lists _, by rw [show PyData.eqv (.list (((List.range n).map f).map fun r => PyData.list (r.map PyData.int))) (.list (((List.range n).map f).map fun r => PyData.list (r.map PyData.int))) = true from (lay_lists _).2.2]; exact q⟩
/-- a comprehension whose turns make a list each -/
theorem lcLst {J : It} {n : Nat} {G : Hp → Prop} {Y : Nat → Hp → V → Hp → Prop} {g : TG} {vs : List Nat} (w : Walk J n G Y) (hn : n < 16777216) (f : Nat → List Int) (hG : ∀ H', Same H H' → G H') (hY : ∀ i H x H', Y i H x H' → Same H H')
    (hs : ∀ i x H1 H' (R : V → Hp → Prop) (R0 : Hp → Prop), i < n → Same H H1 → Y i H1 x H' → (∀ p H4, H' p = none → Same H' H4 → H4 p = some (.lst ((f i).map V.int)) → R (.ref p) H4) →
      g x (wipe σ vs) H' fun σ2 H2 => WP (wipe σ2 vs = wipe σ vs) (t σ2 H2 fun b H3 => IfP b (te σ2 H3 R) (R0 H3)))
    (q : ∀ p H2, H p = none → Same H H2 → LL H2 p n f → Q (.ref p) H2) : LcP J g t te vs σ Q H := fun p hp => by
  refine lc_it w (fun i H' => Same H H' ∧ LL H' p i f) ⟨same_new hp, LL.nil upd_same⟩ (fun i H' _ h => hG H' h.1) (fun i x H1 H' hi h y => ?_) (fun H' h => q p H' hp h.1 h.2)
  obtain ⟨h1, h2⟩ := h
  have s1 := hY i H1 x H' y
  refine hs i x H1 H' _ _ hi h1 y (fun a H4 hf s4 ha => ?_)
  obtain ⟨ys, hy, _⟩ := h2.len
  obtain ⟨xs, e1, e2, e3⟩ := (h2.keep (s1.trans s4)).snoc ha (ne_of_none (s1 _ _ hy) hf).symm
  exact ⟨xs, e1, by rw [sizeLine_eq]; omega, same_up hp (h1.trans (s1.trans s4)), e3⟩
theorem cutV_ints (xs : List Int) {b n : Nat} (h : b + n ≤ xs.length) : cutV (xs.map V.int) (some (b : Int)) (some ((b + n : Nat) : Int)) = ((xs.drop b).take n).map V.int := by
  unfold cutV
  rw [HT.sIx_nat, HT.sIx_nat, List.length_map, Nat.min_eq_left h, Nat.min_eq_left (show b ≤ xs.length by omega), Nat.add_sub_cancel_left, List.map_take, List.map_drop]
/-- a comprehension over two ranges -/
def Lc2In (J1 : It) (g1 : TG) (tt1 : TT) (te : TE) (vs1 : List Nat) (D : Addr) (Nx : Hp → Prop) (σ2 : L2.St) (H4 : Hp) : Prop := ∃ W1 : Nat → Nat → Hp → Prop, (∃ m, W1 0 m H4) ∧ ∀ j k H, W1 j k H →
      (J1.stop j H ∧ Nx H) ∨ (J1.go j H ∧ ∃ Nx1 : Hp → Prop, (∀ H', Nx1 H' → ∃ k', k' < k ∧ W1 (j + 1) k' H') ∧ ∀ x H', J1.yld j H x H' → g1 x (wipe σ2 vs1) H' fun σ3 H5 => wipe σ3 vs1 = wipe σ2 vs1 ∧ tt1 σ3 H5 fun b H6 =>
        if b = true then te σ3 H6 fun y H7 => ∃ acc, H7 D = some (.lst acc) ∧ acc.length < sizeLine ∧ Nx1 (upd H7 D (.lst (acc ++ [y]))) else Nx1 H6)
def Lc2P (J : It) (g : TG) (tt : TT) (wi1 : TI) (g1 : TG) (tt1 : TT) (te : TE) (vs vs1 : List Nat) (σ : L2.St) (Q : VK) (H1 : Hp) : Prop := ∀ D, H1 D = none → ∃ W : Nat → Nat → Hp → Prop, (∃ m, W 0 m (upd H1 D (.lst []))) ∧ ∀ i m H, W i m H →
  (J.stop i H ∧ Q (.ref D) H) ∨ (J.go i H ∧ ∃ Nx : Hp → Prop, (∀ H', Nx H' → ∃ m', m' < m ∧ W (i + 1) m' H') ∧ ∀ x H', J.yld i H x H' → g x (wipe σ vs) H' fun σ2 H2 => wipe σ2 vs = wipe σ vs ∧ tt σ2 H2 fun b H3 =>
    if b = true then wi1 σ2 H3 fun J1 H4 => Lc2In J1 g1 tt1 te vs1 D Nx σ2 H4 else Nx H3)
theorem lc2 {wi wi1 : TI} {g g1 : TG} {tt tt1 : TT} {vs vs1 : List Nat} (q : wi σ H fun J H1 => Lc2P J g tt wi1 g1 tt1 te vs vs1 σ Q H1) : tLc2 wi g tt wi1 g1 tt1 te vs vs1 σ H Q := q
/-- what is made after i whole turns of the outer walk -/
def made (m : Nat) (f : Nat → Nat → V) (i : Nat) : List V := (List.range i).flatMap fun i => (List.range m).map (f i)
theorem made_len (m : Nat) (f : Nat → Nat → V) : ∀ i, (made m f i).length = i * m
  | 0 => by simp [made]
  | i + 1 => by
    have := made_len m f i
    unfold made at *
    rw [List.range_succ, List.flatMap_append, List.length_append, this, Nat.succ_mul]; simp
theorem made_succ (m : Nat) (f : Nat → Nat → V) (i : Nat) : made m f (i + 1) = made m f i ++ (List.range m).map (f i) := by
  unfold made
  rw [List.range_succ, List.flatMap_append]; simp
theorem lc2O {J : It} {n : Nat} {wi1 : TI} {g g1 : TG} {tt tt1 : TT} {vs vs1 : List Nat} {G : Hp → Prop} {Y : Nat → Hp → V → Hp → Prop} (w : Walk J n G Y) (Pv : Addr → Nat → Hp → Prop) (h0 : ∀ D, H D = none → Pv D 0 (upd H D (.lst []))) (hG : ∀ D i H', i ≤ n → Pv D i H' → G H')
    (hs : ∀ D i x H1 H', i < n → Pv D i H1 → Y i H1 x H' → g x (wipe σ vs) H' fun σ2 H2 => WP (wipe σ2 vs = wipe σ vs) (tt σ2 H2 fun b H3 => IfP b (wi1 σ2 H3 fun J1 H4 => Lc2In J1 g1 tt1 te vs1 D (Pv D (i + 1)) σ2 H4) (Pv D (i + 1) H3)))
    (hd : ∀ D H', H D = none → Pv D n H' → Q (.ref D) H') : Lc2P J g tt wi1 g1 tt1 te vs vs1 σ Q H := fun D hD => by
  refine ⟨fun i m H => m = n - i ∧ i ≤ n ∧ Pv D i H, ⟨n, by simp, Nat.zero_le _, h0 D hD⟩, ?_⟩
  rintro i m H' ⟨rfl, hi, p⟩
  have q := hG D i H' hi p
  by_cases hlt : i < n
  · refine .inr ⟨w.goes i H' hlt q, Pv D (i + 1), fun H' p' => ⟨n - (i + 1), by omega, rfl, hlt, p'⟩, fun x H2 y => hs D i x H' H2 hlt p (w.yields i H' x H2 hlt q y)⟩
  · have e : i = n := by omega
    subst e
    exact .inl ⟨w.stops H' q, hd D H' hD p⟩
theorem lc2I {J1 : It} {n : Nat} {g1 : TG} {tt1 : TT} {vs1 : List Nat} {D : Addr} {Nx : Hp → Prop} {G : Hp → Prop} {Y : Nat → Hp → V → Hp → Prop} (w : Walk J1 n G Y) (Pv : Nat → Hp → Prop) (h0 : Pv 0 H) (hG : ∀ i H', i ≤ n → Pv i H' → G H')
    (hs : ∀ i x H1 H', i < n → Pv i H1 → Y i H1 x H' → g1 x (wipe σ vs1) H' fun σ3 H5 => WP (wipe σ3 vs1 = wipe σ vs1) (tt1 σ3 H5 fun b H6 => IfP b (te σ3 H6 fun y H7 => ∃ acc, H7 D = some (.lst acc) ∧ acc.length < sizeLine ∧ Pv (i + 1) (upd H7 D (.lst (acc ++ [y])))) (Pv (i + 1) H6)))
    (hd : ∀ H', Pv n H' → Nx H') : Lc2In J1 g1 tt1 te vs1 D Nx σ H := by
  refine ⟨fun i m H => m = n - i ∧ i ≤ n ∧ Pv i H, ⟨n, by simp, Nat.zero_le _, h0⟩, ?_⟩
  rintro i m H' ⟨rfl, hi, p⟩
  have q := hG i H' hi p
  by_cases hlt : i < n
  · refine .inr ⟨w.goes i H' hlt q, Pv (i + 1), fun H' p' => ⟨n - (i + 1), by omega, rfl, hlt, p'⟩, fun x H2 y => hs i x H' H2 hlt p (w.yields i H' x H2 hlt q y)⟩
  · have e : i = n := by omega
    subst e
    exact .inl ⟨w.stops H' q, hd H' p⟩
theorem slL {a : Addr} {xs : List V} {lo hi : Option Int} (h : SqL K H a xs) (q : ∀ p, H p = none → Q (.ref p) (upd H p (.lst (cutV xs lo hi)))) : rSlL K (.ref a) lo hi H Q := ⟨a, xs, rfl, h, q⟩
theorem up_seq {p l : Addr} {xs : List V} {o : HO} (h : SqL K H p xs) (hl : H l = none) : SqL K (upd H l o) p xs := (same_new hl).seq h
end
section
variable {X : Cx}
theorem o_rep : OpR X (binaryOp .Mult) rRepN := op_rep
theorem pget_list : PGet X (rGetN X.K) := by
  intro pins s σ H o i ov iv Q I ro ri h
  obtain ⟨p, xs, k, v, rfl, rfl, hq, hk, hx, q⟩ := h
  cases ro
  obtain ⟨t, rfl⟩ := ri
  obtain ⟨its, r, pl, hz⟩ := I.list hq
  obtain ⟨w, ew, rw'⟩ := r.get hx
  exact wpAny_getItem_list pl.isList (by omega) (by omega) (by rw [Int.toNat_natCast]; simpa using ew) ⟨v, H, I, rw', q⟩
theorem o_addS : OpR X (binaryOp .Add) rCatS := op_add_str
theorem o_ltS : OpR X (compareOp .Lt) rLtS := op_lt_str
theorem c_intS : CallR X (.type "int") rIntS := call_int_str
theorem c_min2 (hc : X.calm = true) : CallR X (.builtin "min") rMin2 := call_min2 hc
theorem c_max2 (hc : X.calm = true) : CallR X (.builtin "max") rMax2 := call_max2 hc
theorem c_divmod : CallR X (.builtin "divmod") rDivmod := call_divmod
theorem c_list : CallR X (.type "list") (rList X.K) := call_list_of
theorem c_listK {K : PySem.W.Frag} (h : X.K = K) : CallR X (.type "list") (rList K) := by subst h; exact call_list_of
theorem sl_listK {K : PySem.W.Frag} (h : X.K = K) : SlR X (rSlL K) := by subst h; exact sl_list
theorem pe_fldK {K : PySem.W.Frag} {e : Expr} {ta : TE} {f : Str} {pos : Pos} (h : X.K = K) (he : PE X e ta) (hb : attributeBase e f X.env (eval e X.env) = eval e X.env) : PE X (.Attribute e f pos) (tFld K ta f) := by subst h; exact pe_fld he hb
theorem c_int : CallR X (.type "int") rInt1 := call_int1
theorem c_abs : CallR X (.builtin "abs") rAbs := call_abs
theorem c_strI : CallR X (.type "str") rStrI := call_str_int
theorem c_len : CallR X (.builtin "len") (rLen X.K) := call_len
end
end Gx
local macro_rules | `(tactic| walk_at "few") => `(tactic| (refine Nat.lt_of_le_of_lt (m := 30) ?_ (by decide); repeat (first | exact Nat.zero_le _ | refine Gx.few ?_)))
local macro_rules | `(tactic| walk_at "side") => `(tactic| ((try dsimp only [L2.CMul, L2.CDiv, L2.CPow, L2.CDivN]); first | omega | decide | assumption))
local macro_rules | `(tactic| walk_at "go1") => `(tactic| (first
  | with_reducible refine Gx.seq ?_
  | with_reducible refine Gx.asg ?_
  | with_reducible refine Gx.op ?_
  | ((with_reducible refine' Gx.var ?h0 ?_); (case h0 => rfl))
  | with_reducible refine Gx.cst ?_
  | with_reducible refine Gx.i0 ?_
  | with_reducible refine Gx.name ?_
  | with_reducible refine Gx.cons ?_
  | with_reducible refine Gx.nil ?_
  | with_reducible refine Gx.call ?_
  | with_reducible refine Gx.cb ?_
  | with_reducible refine Gx.int1 ?_
  | with_reducible refine Gx.intB ?_
  | with_reducible refine Gx.abs1 ?_
  | with_reducible refine Gx.un ?_
  | with_reducible refine Gx.uu ?_
  | with_reducible refine Gx.ifs ?_
  | with_reducible refine Gx.ifx ?_
  | with_reducible refine Gx.test ?_
  | with_reducible refine Gx.tB ?_
  | with_reducible refine Gx.tb_go ?_
  | with_reducible refine Gx.bv_go ?_
  | with_reducible refine Gx.and_ ?_
  | with_reducible refine Gx.or_ ?_
  | with_reducible refine Gx.not_ ?_
  | with_reducible refine Gx.andV ?_
  | with_reducible refine Gx.orV ?_
  | with_reducible refine Gx.notV ?_
  | with_reducible refine Gx.eqvI ?_
  | with_reducible refine Gx.nevI ?_
  | with_reducible refine Gx.eqvS ?_
  | with_reducible refine Gx.eqvB ?_
  | with_reducible refine Gx.ltS ?_
  | with_reducible refine Gx.nevS ?_
  | with_reducible refine Gx.ret ?_
  | with_reducible refine Gx.retN ?_
  | with_reducible refine Gx.drop ?_
  | with_reducible refine Gx.next ?_
  | with_reducible refine Gx.brk ?_
  | with_reducible refine Gx.cnt ?_
  | with_reducible refine Gx.if_t ?_
  | with_reducible refine Gx.if_f ?_
  | with_reducible refine Gx.if_nt ?_
  | with_reducible refine Gx.whI_t ?_
  | with_reducible refine Gx.whI_f ?_
  | with_reducible refine Gx.if_nf ?_
  | with_reducible refine Gx.for_ ?_
  | with_reducible refine Gx.rng1 ?_
  | with_reducible refine Gx.rng2 ?_
  | with_reducible refine Gx.lwk ?_
  | with_reducible refine Gx.twk ?_
  | with_reducible refine Gx.lst ?_
  | with_reducible refine Gx.tup ?_
  | with_reducible refine Gx.bm ?_
  | with_reducible refine Gx.lc ?_
  | with_reducible refine Gx.lc2 ?_
  | with_reducible refine Gx.gcons ?_
  | with_reducible refine Gx.gnil ?_
  | with_reducible refine Gx.strw ?_
  | with_reducible refine Gx.strp ?_
  | with_reducible refine Gx.fld ?_
  | with_reducible refine Gx.sfld ?_
  | with_reducible refine Gx.meth ?_
  | with_reducible refine Gx.make ?_
  | with_reducible refine Gx.augS ?_
  | with_reducible refine Gx.sub ?_
  | with_reducible refine Gx.slc ?_
  | with_reducible refine Gx.noP ?_
  | with_reducible refine Gx.part ?_
  | with_reducible refine Gx.ptp ?_
  | with_reducible refine Gx.sbp ?_
  | ((with_reducible refine' Gx.wp ?h0 ?_); (case h0 => rfl))
  | with_reducible refine Gx.yes ?_
  | with_reducible refine Gx.rrv ?_
  | with_reducible refine Gx.rg1 ?_
  | with_reducible refine Gx.rg1p ?_
  | ((with_reducible refine' Gx.aug ?h0 ?_); (case h0 => rfl))
  | with_reducible refine Gx.augI ?_))
local macro_rules | `(tactic| walk_at "go") => `(tactic| repeat walk_at "go1")

namespace Gd
open PySem L2
/-- tiles beside one another -/
def ac (n t : Nat) : Nat := (n + t - 1) / t
theorem ac_int {n t : Nat} (ht : 0 < t) : ((n : Int) + (t : Int) - 1) / (t : Int) = ((ac n t : Nat) : Int) := by
  unfold ac
  rw [Int.natCast_ediv]
  congr 1
  omega
theorem ac_pos {n t : Nat} (hn : 0 < n) (ht : 0 < t) : 0 < ac n t := by
  unfold ac
  exact Nat.div_pos (by omega) ht
theorem ac_le {n t : Nat} (ht : 0 < t) : ac n t ≤ n := by
  unfold ac
  rcases Nat.eq_zero_or_pos n with h | h
  · subst h; rw [Nat.zero_add]; rw [Nat.div_eq_of_lt (by omega)]; exact Nat.le_refl _
  · have := Nat.div_le_of_le_mul (m := n + t - 1) (k := t) (n := n) (by
      have : t * n = t * (n - 1) + t := by rw [← Nat.mul_succ]; congr 1; omega
      have : n - 1 ≤ t * (n - 1) := Nat.le_mul_of_pos_left _ ht
      omega)
    exact this
/-- so large a picture may be -/
theorem room {w h c : Nat} (hh : h ≤ 3072 / (w * c)) (hp : 0 < w * c) : w * h * c ≤ 3072 := by
  have e := (Nat.le_div_iff_mul_le hp).mp hh
  rw [Nat.mul_right_comm, Nat.mul_comm]; exact e
/-- the side of the k-th tile -/
def sd (n t k : Nat) : Nat := min t (n - k * t)
theorem ac_mul {n t k : Nat} (ht : 0 < t) (hk : k < ac n t) : k * t < n := by
  unfold ac at hk
  have h := (Nat.le_div_iff_mul_le ht).mp (Nat.succ_le_of_lt hk)
  rw [Nat.succ_mul] at h
  omega
theorem sd_int {n t k : Nat} (ht : 0 < t) (hk : k < ac n t) : (if (n : Int) - ((k * t : Nat) : Int) < (t : Int) then (n : Int) - ((k * t : Nat) : Int) else (t : Int)) = ((sd n t k : Nat) : Int) := by
  have := ac_mul ht hk
  unfold sd
  generalize k * t = m at *
  split <;> omega
theorem ac_succ {n t : Nat} (ht : 0 < t) : ac (n + 1) t = ac n t + if n % t = 0 then 1 else 0 := by
  unfold ac
  rw [show n + 1 + t - 1 = (n + t - 1) + 1 by omega, Nat.succ_div]
  congr 1
  have e : n + t - 1 + 1 = n + t := by omega
  rw [e]
  by_cases h : n % t = 0
  · rw [if_pos h, if_pos (Nat.dvd_of_mod_eq_zero (by rw [Nat.add_mod_right]; exact h))]
  · rw [if_neg h, if_neg (fun z => h (by have := Nat.mod_eq_zero_of_dvd z; rwa [Nat.add_mod_right] at this))]
/-- every t-th column begins a tile -/
theorem firsts {t : Nat} (ht : 0 < t) : ∀ n, ((List.range n).filter fun i => decide (i % t = 0)).length = ac n t
  | 0 => by unfold ac; rw [Nat.zero_add, Nat.div_eq_of_lt (by omega)]; rfl
  | n + 1 => by
    rw [List.range_succ, List.filter_append, List.length_append, firsts ht n, ac_succ ht]
    congr 1
    by_cases h : n % t = 0
    · rw [if_pos h, List.filter_cons, if_pos (decide_eq_true h)]; rfl
    · rw [if_neg h, List.filter_cons, if_neg (by simpa using h)]; rfl
/-- the columns of one tile -/
theorem side {t k : Nat} (ht : 0 < t) : ∀ n, ((List.range n).filter fun i => decide (i / t = k)) = List.range' (k * t) (sd n t k)
  | 0 => by unfold sd; rw [Nat.zero_sub, Nat.min_zero]; rfl
  | n + 1 => by
    rw [List.range_succ, List.filter_append, side ht n]
    have d1 := Nat.div_mul_le_self n t
    have d2 := Nat.lt_div_mul_add (a := n) ht
    by_cases h : n / t = k
    · rw [List.filter_cons, if_pos (decide_eq_true h)]
      subst h
      have e1 : sd n t (n / t) = n - n / t * t := by unfold sd; omega
      have e2 : sd (n + 1) t (n / t) = (n - n / t * t) + 1 := by unfold sd; omega
      rw [e1, e2, List.range'_concat]
      congr 2
      omega
    · rw [List.filter_cons, if_neg (by simpa using h)]
      have e : sd (n + 1) t k = sd n t k := by
        unfold sd
        rcases Nat.lt_or_ge n (k * t) with z | z
        · omega
        · have : k < n / t := by
            rcases Nat.lt_trichotomy (n / t) k with y | y | y
            · have := (Nat.div_lt_iff_lt_mul ht).mp y; omega
            · exact absurd y h
            · exact y
          have g := (Nat.le_div_iff_mul_le ht).mp (Nat.succ_le_of_lt this)
          rw [Nat.succ_mul] at g
          omega
      rw [e]
      show List.range' _ _ ++ [] = _
      rw [List.append_nil]
theorem sd_pos {n t k : Nat} (ht : 0 < t) (hk : k < ac n t) : 0 < sd n t k := by
  have := ac_mul ht hk
  unfold sd; omega
end Gd

namespace Gd
/-- the k-th key: channel, tile, plane -/
def ky (T c d k : Nat) : List Int := [(k : Int) / (T : Int) % (c : Int), (k : Int) % (T : Int), (d : Int) - 1 - (k : Int) / (T : Int) / (c : Int)]
theorem ky_of {T c d i j l : Nat} (hj : j < c) (hl : l < T) : ky T c d ((i * c + j) * T + l) = [(j : Int), (l : Int), (d : Int) - 1 - (i : Int)] := by
  have e1 : ((i * c + j) * T + l) / T = i * c + j := by
    rw [Nat.mul_comm, Nat.mul_add_div (by omega), Nat.div_eq_of_lt hl, Nat.add_zero]
  have e2 : ((i * c + j) * T + l) % T = l := by rw [Nat.mul_comm, Nat.mul_add_mod, Nat.mod_eq_of_lt hl]
  have e3 : (i * c + j) / c = i := by rw [Nat.mul_comm, Nat.mul_add_div (by omega), Nat.div_eq_of_lt hj, Nat.add_zero]
  have e4 : (i * c + j) % c = j := by rw [Nat.mul_comm, Nat.mul_add_mod, Nat.mod_eq_of_lt hj]
  unfold ky
  rw [← Int.natCast_ediv, ← Int.natCast_emod, ← Int.natCast_emod, ← Int.natCast_ediv, e1, e2, e3, e4]
theorem ky_at {T c d k : Nat} (hc : 0 < c) : ky T c d k = [((k / T % c : Nat) : Int), ((k % T : Nat) : Int), (d : Int) - 1 - ((k / T / c : Nat) : Int)] := by
  unfold ky
  rw [Int.natCast_emod, Int.natCast_emod, Int.natCast_ediv, Int.natCast_ediv, Int.natCast_ediv]
theorem ky_back {T c k : Nat} : (k / T / c * c + k / T % c) * T + k % T = k := by
  rw [Nat.div_add_mod' (k / T) c, Nat.div_add_mod' k T]
end Gd

namespace Gd
/-- the tile of a pixel, and its place there -/
def tileOf (w t n : Nat) : Nat := n / w / t * ac w t + n % w / t
def placeOf (w t n : Nat) : Nat := n / w % t * sd w t (n % w / t) + n % w % t
theorem lt_ac {n t m : Nat} (ht : 0 < t) (h : m < n) : m / t < ac n t := by
  unfold ac
  refine (Nat.lt_div_iff_mul_lt ht).mpr ?_
  have := Nat.div_mul_le_self m t
  omega
theorem tile_mod {w t n : Nat} (hw : 0 < w) (ht : 0 < t) : tileOf w t n % ac w t = n % w / t := by
  unfold tileOf
  rw [Nat.mul_comm, Nat.mul_add_mod, Nat.mod_eq_of_lt (lt_ac ht (Nat.mod_lt _ hw))]
theorem tile_div {w t n : Nat} (hw : 0 < w) (ht : 0 < t) : tileOf w t n / ac w t = n / w / t := by
  unfold tileOf
  have p := ac_pos hw ht
  rw [Nat.mul_comm, Nat.mul_add_div p, Nat.div_eq_of_lt (lt_ac ht (Nat.mod_lt _ hw)), Nat.add_zero]
theorem tile_lt {w h t n : Nat} (hw : 0 < w) (ht : 0 < t) (hn : n < w * h) : tileOf w t n < ac w t * ac h t := by
  have a := lt_ac (n := w) ht (Nat.mod_lt n hw)
  have b := lt_ac (n := h) ht (Nat.div_lt_of_lt_mul hn)
  have c := Nat.mul_le_mul_right (ac w t) (Nat.succ_le_of_lt b)
  rw [Nat.succ_mul, Nat.mul_comm (ac h t)] at c
  unfold tileOf
  omega
end Gd

namespace Gd
open PySem L2
/-- the m-th pixel of tile k -/
def pix (w t k m : Nat) : Nat := (k / ac w t * t + m / sd w t (k % ac w t)) * w + (k % ac w t * t + m % sd w t (k % ac w t))
theorem made_flat (W : Nat) (hW : 0 < W) (f : Nat → Nat → V) : ∀ i, Gx.made W f i = (List.range (i * W)).map fun m => f (m / W) (m % W)
  | 0 => by simp [Gx.made]
  | i + 1 => by
    rw [Gx.made_succ, made_flat W hW f i, Nat.succ_mul, List.range_add, List.map_append, List.map_map]
    congr 1
    refine List.map_congr_left fun j hj => ?_
    have hj2 := List.mem_range.mp hj
    show f i j = f ((i * W + j) / W) ((i * W + j) % W)
    rw [Nat.mul_comm, Nat.mul_add_div hW, Nat.div_eq_of_lt hj2, Nat.add_zero, Nat.mul_add_mod, Nat.mod_eq_of_lt hj2]
section
variable {w h t k m n : Nat} (hw : 0 < w) (ht : 0 < t) (hk : k < ac w t * ac h t)
include hw ht hk
theorem rows_of (hm : m < sd h t (k / ac w t) * sd w t (k % ac w t)) : m / sd w t (k % ac w t) < sd h t (k / ac w t) ∧ m % sd w t (k % ac w t) < sd w t (k % ac w t) := by
  have p := sd_pos (n := w) ht (Nat.mod_lt k (ac_pos hw ht))
  exact ⟨Nat.div_lt_of_lt_mul (by rw [Nat.mul_comm]; exact hm), Nat.mod_lt _ p⟩
theorem pix_parts (hm : m < sd h t (k / ac w t) * sd w t (k % ac w t)) : pix w t k m / w = k / ac w t * t + m / sd w t (k % ac w t) ∧ pix w t k m % w = k % ac w t * t + m % sd w t (k % ac w t) := by
  obtain ⟨h1, h2⟩ := rows_of hw ht hk hm
  have c : k % ac w t * t + m % sd w t (k % ac w t) < w := by
    generalize m % sd w t (k % ac w t) = j at *
    unfold sd at h2; omega
  unfold pix
  rw [Nat.mul_comm, Nat.mul_add_div hw, Nat.div_eq_of_lt c, Nat.mul_add_mod, Nat.mod_eq_of_lt c]
  exact ⟨rfl, rfl⟩
theorem pix_lt (hm : m < sd h t (k / ac w t) * sd w t (k % ac w t)) : pix w t k m < w * h := by
  obtain ⟨h1, h2⟩ := rows_of hw ht hk hm
  obtain ⟨e1, e2⟩ := pix_parts hw ht hk hm
  have r : pix w t k m / w < h := by
    rw [e1]
    generalize m / sd w t (k % ac w t) = i at *
    unfold sd at h1; omega
  have := (Nat.div_lt_iff_lt_mul hw).mp r
  rw [Nat.mul_comm]; exact this
theorem cut4 {a i : Nat} (hi : i < t) : (a * t + i) / t = a ∧ (a * t + i) % t = i := by
  rw [Nat.mul_comm, Nat.mul_add_div ht, Nat.div_eq_of_lt hi, Nat.mul_add_mod, Nat.mod_eq_of_lt hi]
  exact ⟨rfl, rfl⟩
theorem pix_four (hm : m < sd h t (k / ac w t) * sd w t (k % ac w t)) : pix w t k m / w / t = k / ac w t ∧ pix w t k m / w % t = m / sd w t (k % ac w t) ∧ pix w t k m % w / t = k % ac w t ∧ pix w t k m % w % t = m % sd w t (k % ac w t) := by
  obtain ⟨h1, h2⟩ := rows_of hw ht hk hm
  obtain ⟨e1, e2⟩ := pix_parts hw ht hk hm
  have i1 : m / sd w t (k % ac w t) < t := by
    generalize m / sd w t (k % ac w t) = i at *
    unfold sd at h1; omega
  have i2 : m % sd w t (k % ac w t) < t := by
    generalize m % sd w t (k % ac w t) = i at *
    unfold sd at h2; omega
  rw [e1, e2]
  exact ⟨(cut4 hw ht hk i1).1, (cut4 hw ht hk i1).2, (cut4 hw ht hk i2).1, (cut4 hw ht hk i2).2⟩
theorem pix_tile (hm : m < sd h t (k / ac w t) * sd w t (k % ac w t)) : tileOf w t (pix w t k m) = k ∧ placeOf w t (pix w t k m) = m := by
  obtain ⟨a, b, c, d⟩ := pix_four hw ht hk hm
  unfold tileOf placeOf
  rw [a, b, c, d]
  exact ⟨Nat.div_add_mod' _ _, Nat.div_add_mod' _ _⟩
theorem pix_back (hn : n < w * h) (e : tileOf w t n = k) : placeOf w t n < sd h t (k / ac w t) * sd w t (k % ac w t) ∧ pix w t k (placeOf w t n) = n := by
  have tm := tile_mod (n := n) hw ht
  have td := tile_div (n := n) hw ht
  rw [e] at tm td
  have p := sd_pos (n := w) ht (Nat.mod_lt k (ac_pos hw ht))
  have x1 := Nat.div_add_mod' (n % w) t
  have y1 := Nat.div_add_mod' (n / w) t
  have xm := Nat.mod_lt (n % w) ht
  have ym := Nat.mod_lt (n / w) ht
  have xw := Nat.mod_lt n hw
  have yh : n / w < h := Nat.div_lt_of_lt_mul hn
  have c1 : n % w % t < sd w t (k % ac w t) := by unfold sd; rw [tm]; omega
  have c2 : n / w % t < sd h t (k / ac w t) := by unfold sd; rw [td]; omega
  have pl : placeOf w t n = n / w % t * sd w t (k % ac w t) + n % w % t := by unfold placeOf; rw [← tm]
  have d1 : placeOf w t n / sd w t (k % ac w t) = n / w % t := by rw [pl, Nat.mul_comm, Nat.mul_add_div p, Nat.div_eq_of_lt c1, Nat.add_zero]
  have d2 : placeOf w t n % sd w t (k % ac w t) = n % w % t := by rw [pl, Nat.mul_comm, Nat.mul_add_mod, Nat.mod_eq_of_lt c1]
  refine ⟨?_, ?_⟩
  · have := Nat.mul_le_mul_right (sd w t (k % ac w t)) (Nat.succ_le_of_lt c2)
    rw [Nat.succ_mul] at this
    omega
  · unfold pix
    rw [d1, d2, td, tm, y1, x1]
    exact Nat.div_add_mod' n w
theorem pix_mono (hm : m + 1 < sd h t (k / ac w t) * sd w t (k % ac w t)) : pix w t k m < pix w t k (m + 1) := by
  have a1 := pix_parts hw ht hk (show m < _ by omega)
  have a2 := pix_parts hw ht hk hm
  have p := sd_pos (n := w) ht (Nat.mod_lt k (ac_pos hw ht))
  have x1 := Nat.div_add_mod' (pix w t k m) w
  have x2 := Nat.div_add_mod' (pix w t k (m + 1)) w
  have xl := Nat.mod_lt (pix w t k m) hw
  generalize pix w t k m = u at *
  generalize pix w t k (m + 1) = v at *
  generalize sd w t (k % ac w t) = W at *
  have y1 := Nat.div_add_mod' m W
  have y2 := Nat.div_add_mod' (m + 1) W
  have le : m / W ≤ (m + 1) / W := Nat.div_le_div_right (by omega)
  rcases Nat.lt_or_ge (m / W) ((m + 1) / W) with q | q
  · have r : u / w + 1 ≤ v / w := by rw [a1.1, a2.1]; omega
    have := Nat.mul_le_mul_right w r
    rw [Nat.succ_mul] at this
    omega
  · have e : m / W = (m + 1) / W := by omega
    rw [← e] at y2 a2
    have : u % w < v % w := by rw [a1.2, a2.2]; omega
    have e2 : u / w = v / w := by rw [a1.1, a2.1]
    rw [e2] at x1
    omega
end
/-- how often a pixel was seen: the tiles below k are done, of tile k the places below m -/
def sv (w t k m n : Nat) : Int := if tileOf w t n < k ∨ (tileOf w t n = k ∧ placeOf w t n < m) then 1 else 0
def seenV (w h t k m : Nat) : List Int := (List.range (w * h)).map (sv w t k m)
theorem seen_len (w h t k m : Nat) : (seenV w h t k m).length = w * h := by unfold seenV; rw [List.length_map, List.length_range]
theorem seen_nil (w h t : Nat) : List.replicate (w * h) (V.int 0) = (seenV w h t 0 0).map V.int := by
  unfold seenV
  rw [List.map_map]
  refine (List.eq_replicate_iff.mpr ⟨by rw [List.length_map, List.length_range], fun b hb => ?_⟩).symm
  obtain ⟨n, _, rfl⟩ := List.mem_map.mp hb
  show V.int (sv w t 0 0 n) = _
  unfold sv
  rw [if_neg (by omega)]
theorem seen_get {w h t k m n : Nat} (hn : n < w * h) : (seenV w h t k m).getD n 0 = sv w t k m n := by
  unfold seenV
  rw [List.getD_eq_getElem?_getD, List.getElem?_map, List.getElem?_range hn]; rfl
section
variable {w h t k m : Nat} (hw : 0 < w) (ht : 0 < t) (hk : k < ac w t * ac h t)
include hw ht hk
theorem sv_pix (hm : m < sd h t (k / ac w t) * sd w t (k % ac w t)) : sv w t k m (pix w t k m) = 0 := by
  obtain ⟨a, b⟩ := pix_tile hw ht hk hm
  unfold sv
  rw [a, b, if_neg (by omega)]
theorem seen_step (hm : m < sd h t (k / ac w t) * sd w t (k % ac w t)) : ((seenV w h t k m).map V.int).set (pix w t k m) (V.int 1) = (seenV w h t k (m + 1)).map V.int := by
  obtain ⟨a, b⟩ := pix_tile hw ht hk hm
  have pl := pix_lt hw ht hk hm
  apply List.ext_getElem?
  intro i
  unfold seenV
  rw [List.map_map, List.map_map, List.getElem?_set, List.getElem?_map, List.getElem?_map, List.length_map, List.length_range]
  by_cases hi : i < w * h
  · rw [List.getElem?_range hi]
    by_cases e : pix w t k m = i
    · rw [if_pos e, if_pos (by omega)]
      subst e
      show _ = some (V.int (sv w t k (m + 1) (pix w t k m)))
      unfold sv
      rw [a, b, if_pos (by omega)]
    · rw [if_neg e]
      show some (V.int (sv w t k m i)) = some (V.int (sv w t k (m + 1) i))
      congr 2
      unfold sv
      by_cases e2 : tileOf w t i = k
      · have back := pix_back hw ht hk hi e2
        have ne : placeOf w t i ≠ m := fun z => e (by rw [← z]; exact back.2)
        by_cases c : placeOf w t i < m
        · rw [if_pos (.inr ⟨e2, c⟩), if_pos (.inr ⟨e2, by omega⟩)]
        · rw [if_neg (by omega), if_neg (by omega)]
      · by_cases c : tileOf w t i < k
        · rw [if_pos (.inl c), if_pos (.inl c)]
        · rw [if_neg (fun z => z.elim c (fun y => e2 y.1)), if_neg (fun z => z.elim c (fun y => e2 y.1))]
  · rw [List.getElem?_eq_none (by rw [List.length_range]; omega), if_neg (by omega)]; rfl
theorem seen_tile : seenV w h t k (sd h t (k / ac w t) * sd w t (k % ac w t)) = seenV w h t (k + 1) 0 := by
  unfold seenV
  refine List.map_congr_left fun i hi => ?_
  have hi2 := List.mem_range.mp hi
  unfold sv
  by_cases e2 : tileOf w t i = k
  · have back := pix_back hw ht hk hi2 e2
    rw [if_pos (.inr ⟨e2, back.1⟩), if_pos (.inl (by omega))]
  · by_cases c : tileOf w t i < k
    · rw [if_pos (.inl c), if_pos (.inl (by omega))]
    · rw [if_neg (fun z => z.elim c (fun y => e2 y.1)), if_neg (fun z => z.elim (fun y => by omega) (fun y => by omega))]
end
theorem seen_all {w h t : Nat} (hw : 0 < w) (ht : 0 < t) : seenV w h t (ac w t * ac h t) 0 = List.replicate (w * h) 1 := by
  unfold seenV
  refine List.eq_replicate_iff.mpr ⟨by rw [List.length_map, List.length_range], fun b hb => ?_⟩
  obtain ⟨n, hn, rfl⟩ := List.mem_map.mp hb
  have := tile_lt (t := t) hw ht (List.mem_range.mp hn)
  unfold sv
  rw [if_pos (.inl this)]
/-- all that stands but one object stands -/
def Off (s : Addr) (H H' : Hp) : Prop := ∀ a o, H a = some o → a ≠ s → H' a = some o
theorem Off.of {s : Addr} {H H' : Hp} (e : Same H H') : Off s H H' := fun a o h _ => e a o h
theorem Off.trans {s : Addr} {H H1 H2 : Hp} (e : Off s H H1) (f : Off s H1 H2) : Off s H H2 := fun a o h n => f a o (e a o h n) n
theorem Off.up {s : Addr} {H H' : Hp} {o : HO} (e : Off s H H') : Off s H (upd H' s o) := fun a u h n => by rw [upd_ne n]; exact e a u h n
end Gd

namespace My
open PySem L2
def top (i : Nat) : Stmt := PySem.Challenge.pw_packetpicture_k03_whole_tiles_part_the_p.main.body.getD i (.Pass ⟨0, 0, 0, 0⟩)
abbrev s_Frame_across : Stmt := inClass (top 13) 1
abbrev s_tile_corner : Stmt := top 14
abbrev s_tile_size : Stmt := top 15
abbrev s_tile_pixels : Stmt := top 16
abbrev s_law_is_int : Stmt := top 23
abbrev s_locate_pixel : Stmt := top 17
abbrev s_law_are_ints : Stmt := top 24
abbrev s_check_size : Stmt := top 12
abbrev s_check_range : Stmt := top 5
abbrev s_check_kind : Stmt := top 11
abbrev s_Frame___init__ : Stmt := inClass (top 13) 0
abbrev s_law_mixed : Stmt := top 20
abbrev s_law_numbers : Stmt := top 21
abbrev s_law_sizes : Stmt := top 22
abbrev s_law_cell : Stmt := top 19
abbrev s_law : Stmt := top 25
/-- a def of the text as it stands behind the top -/
structure DefAt (K : PySem.W.Frag) (mg : Str → Option Value) (x : Str) (st : Stmt) (ps : List Str) where
  a : Addr
  d : FuncData
  f : Fun K x x st a d
  g : mg x = some (.ref a)
  b : Binds K d ps []
structure MethAt (K : PySem.W.Frag) (C : Addr) (x q : Str) (st : Stmt) (ps : List Str) where
  a : Addr
  d : FuncData
  f : Fun K x q st a d
  b : Binds K d ps []
  m : Meth K C x a
structure Tx (K : PySem.W.Frag) (mg : Str → Option Value) where
  a_Frame : Addr
  cl_Frame : Cls K a_Frame
  g_Frame : mg "Frame" = some (.ref a_Frame)
  mk_Frame : PySem.W.makesIn K a_Frame = true
  kp_Frame : PySem.W.keepIn K (.ref a_Frame) = true
  na_Frame_width : NoAttr K a_Frame "width"
  na_Frame_height : NoAttr K a_Frame "height"
  na_Frame_depth : NoAttr K a_Frame "depth"
  na_Frame_channels : NoAttr K a_Frame "channels"
  na_Frame_tile : NoAttr K a_Frame "tile"
  Frame_across : MethAt K a_Frame "across" "Frame.across" s_Frame_across ["self"]
  tile_corner : DefAt K mg "tile_corner" s_tile_corner ["frame", "tile"]
  tile_size : DefAt K mg "tile_size" s_tile_size ["frame", "tile"]
  tile_pixels : DefAt K mg "tile_pixels" s_tile_pixels ["frame", "tile"]
  law_is_int : DefAt K mg "_law_is_int" s_law_is_int ["actual"]
  locate_pixel : DefAt K mg "locate_pixel" s_locate_pixel ["frame", "pixel"]
  law_are_ints : DefAt K mg "_law_are_ints" s_law_are_ints ["row"]
  check_size : DefAt K mg "check_size" s_check_size ["width", "height", "channels"]
  check_range : DefAt K mg "check_range" s_check_range ["name", "value", "least", "most"]
  check_kind : DefAt K mg "check_kind" s_check_kind ["width", "height", "depth", "channels"]
  Frame___init__ : MethAt K a_Frame "__init__" "Frame.__init__" s_Frame___init__ ["self", "width", "height", "depth", "channels", "tile"]
  law_mixed : DefAt K mg "_law_mixed" s_law_mixed ["number", "k", "limit"]
  law_numbers : DefAt K mg "_law_numbers" s_law_numbers ["cell", "count", "limit"]
  law_sizes : DefAt K mg "_law_sizes" s_law_sizes ["cell", "most"]
  law_cell : DefAt K mg "_law_cell" s_law_cell ["script", "k"]
  law : DefAt K mg "law" s_law ["script"]
  n_abs : mg "abs" = none
  n_all : mg "all" = none
  n_bool : mg "bool" = none
  n_int : mg "int" = none
  n_isinstance : mg "isinstance" = none
  n_len : mg "len" = none
  n_list : mg "list" = none
  n_min : mg "min" = none
  n_range : mg "range" = none
  n_tuple : mg "tuple" = none
  t_DEPTH_MOST : Tok
  c_DEPTH_MOST : mg "DEPTH_MOST" = some (.int 8 t_DEPTH_MOST)
  t_SIDE_MOST : Tok
  c_SIDE_MOST : mg "SIDE_MOST" = some (.int 64 t_SIDE_MOST)
  t_TILE_MOST : Tok
  c_TILE_MOST : mg "TILE_MOST" = some (.int 16 t_TILE_MOST)
  t_VALUES_MOST : Tok
  c_VALUES_MOST : mg "VALUES_MOST" = some (.int 3072 t_VALUES_MOST)
section
variable {P : Program} {w : World} {K : PySem.W.Frag} {mg : Str → Option Value} {base : Heap}
def fl_Frame (v0 v1 v2 v3 v4 : V) : List (Str × V) := [("width", v0), ("height", v1), ("depth", v2), ("channels", v3), ("tile", v4)]
theorem ne_Frame_width__height : ((Str.ofString "width") = Str.ofString "height") = False := eq_false (by decide +kernel)
theorem ne_Frame_width__depth : ((Str.ofString "width") = Str.ofString "depth") = False := eq_false (by decide +kernel)
theorem ne_Frame_width__channels : ((Str.ofString "width") = Str.ofString "channels") = False := eq_false (by decide +kernel)
theorem ne_Frame_width__tile : ((Str.ofString "width") = Str.ofString "tile") = False := eq_false (by decide +kernel)
theorem ne_Frame_width____init__ : ((Str.ofString "width") = Str.ofString "__init__") = False := eq_false (by decide +kernel)
theorem ne_Frame_width__across : ((Str.ofString "width") = Str.ofString "across") = False := eq_false (by decide +kernel)
theorem ne_Frame_width__down : ((Str.ofString "width") = Str.ofString "down") = False := eq_false (by decide +kernel)
theorem ne_Frame_width__tiles : ((Str.ofString "width") = Str.ofString "tiles") = False := eq_false (by decide +kernel)
theorem ne_Frame_width__pixels : ((Str.ofString "width") = Str.ofString "pixels") = False := eq_false (by decide +kernel)
theorem ne_Frame_width__packets : ((Str.ofString "width") = Str.ofString "packets") = False := eq_false (by decide +kernel)
theorem ne_Frame_width__same : ((Str.ofString "width") = Str.ofString "same") = False := eq_false (by decide +kernel)
theorem ne_Frame_height__width : ((Str.ofString "height") = Str.ofString "width") = False := eq_false (by decide +kernel)
theorem ne_Frame_height__depth : ((Str.ofString "height") = Str.ofString "depth") = False := eq_false (by decide +kernel)
theorem ne_Frame_height__channels : ((Str.ofString "height") = Str.ofString "channels") = False := eq_false (by decide +kernel)
theorem ne_Frame_height__tile : ((Str.ofString "height") = Str.ofString "tile") = False := eq_false (by decide +kernel)
theorem ne_Frame_height____init__ : ((Str.ofString "height") = Str.ofString "__init__") = False := eq_false (by decide +kernel)
theorem ne_Frame_height__across : ((Str.ofString "height") = Str.ofString "across") = False := eq_false (by decide +kernel)
theorem ne_Frame_height__down : ((Str.ofString "height") = Str.ofString "down") = False := eq_false (by decide +kernel)
theorem ne_Frame_height__tiles : ((Str.ofString "height") = Str.ofString "tiles") = False := eq_false (by decide +kernel)
theorem ne_Frame_height__pixels : ((Str.ofString "height") = Str.ofString "pixels") = False := eq_false (by decide +kernel)
theorem ne_Frame_height__packets : ((Str.ofString "height") = Str.ofString "packets") = False := eq_false (by decide +kernel)
theorem ne_Frame_height__same : ((Str.ofString "height") = Str.ofString "same") = False := eq_false (by decide +kernel)
theorem ne_Frame_depth__width : ((Str.ofString "depth") = Str.ofString "width") = False := eq_false (by decide +kernel)
theorem ne_Frame_depth__height : ((Str.ofString "depth") = Str.ofString "height") = False := eq_false (by decide +kernel)
theorem ne_Frame_depth__channels : ((Str.ofString "depth") = Str.ofString "channels") = False := eq_false (by decide +kernel)
theorem ne_Frame_depth__tile : ((Str.ofString "depth") = Str.ofString "tile") = False := eq_false (by decide +kernel)
theorem ne_Frame_depth____init__ : ((Str.ofString "depth") = Str.ofString "__init__") = False := eq_false (by decide +kernel)
theorem ne_Frame_depth__across : ((Str.ofString "depth") = Str.ofString "across") = False := eq_false (by decide +kernel)
theorem ne_Frame_depth__down : ((Str.ofString "depth") = Str.ofString "down") = False := eq_false (by decide +kernel)
theorem ne_Frame_depth__tiles : ((Str.ofString "depth") = Str.ofString "tiles") = False := eq_false (by decide +kernel)
theorem ne_Frame_depth__pixels : ((Str.ofString "depth") = Str.ofString "pixels") = False := eq_false (by decide +kernel)
theorem ne_Frame_depth__packets : ((Str.ofString "depth") = Str.ofString "packets") = False := eq_false (by decide +kernel)
theorem ne_Frame_depth__same : ((Str.ofString "depth") = Str.ofString "same") = False := eq_false (by decide +kernel)
theorem ne_Frame_channels__width : ((Str.ofString "channels") = Str.ofString "width") = False := eq_false (by decide +kernel)
theorem ne_Frame_channels__height : ((Str.ofString "channels") = Str.ofString "height") = False := eq_false (by decide +kernel)
theorem ne_Frame_channels__depth : ((Str.ofString "channels") = Str.ofString "depth") = False := eq_false (by decide +kernel)
theorem ne_Frame_channels__tile : ((Str.ofString "channels") = Str.ofString "tile") = False := eq_false (by decide +kernel)
theorem ne_Frame_channels____init__ : ((Str.ofString "channels") = Str.ofString "__init__") = False := eq_false (by decide +kernel)
theorem ne_Frame_channels__across : ((Str.ofString "channels") = Str.ofString "across") = False := eq_false (by decide +kernel)
theorem ne_Frame_channels__down : ((Str.ofString "channels") = Str.ofString "down") = False := eq_false (by decide +kernel)
theorem ne_Frame_channels__tiles : ((Str.ofString "channels") = Str.ofString "tiles") = False := eq_false (by decide +kernel)
theorem ne_Frame_channels__pixels : ((Str.ofString "channels") = Str.ofString "pixels") = False := eq_false (by decide +kernel)
theorem ne_Frame_channels__packets : ((Str.ofString "channels") = Str.ofString "packets") = False := eq_false (by decide +kernel)
theorem ne_Frame_channels__same : ((Str.ofString "channels") = Str.ofString "same") = False := eq_false (by decide +kernel)
theorem ne_Frame_tile__width : ((Str.ofString "tile") = Str.ofString "width") = False := eq_false (by decide +kernel)
theorem ne_Frame_tile__height : ((Str.ofString "tile") = Str.ofString "height") = False := eq_false (by decide +kernel)
theorem ne_Frame_tile__depth : ((Str.ofString "tile") = Str.ofString "depth") = False := eq_false (by decide +kernel)
theorem ne_Frame_tile__channels : ((Str.ofString "tile") = Str.ofString "channels") = False := eq_false (by decide +kernel)
theorem ne_Frame_tile____init__ : ((Str.ofString "tile") = Str.ofString "__init__") = False := eq_false (by decide +kernel)
theorem ne_Frame_tile__across : ((Str.ofString "tile") = Str.ofString "across") = False := eq_false (by decide +kernel)
theorem ne_Frame_tile__down : ((Str.ofString "tile") = Str.ofString "down") = False := eq_false (by decide +kernel)
theorem ne_Frame_tile__tiles : ((Str.ofString "tile") = Str.ofString "tiles") = False := eq_false (by decide +kernel)
theorem ne_Frame_tile__pixels : ((Str.ofString "tile") = Str.ofString "pixels") = False := eq_false (by decide +kernel)
theorem ne_Frame_tile__packets : ((Str.ofString "tile") = Str.ofString "packets") = False := eq_false (by decide +kernel)
theorem ne_Frame_tile__same : ((Str.ofString "tile") = Str.ofString "same") = False := eq_false (by decide +kernel)
theorem put_Frame_width {v0 v1 v2 v3 v4 : V} {z : V} : putF "width" z (fl_Frame v0 v1 v2 v3 v4) = fl_Frame z v1 v2 v3 v4 := by
  simp only [fl_Frame, putF, if_false, if_true, reduceIte]
theorem lk_Frame_width {v0 v1 v2 v3 v4 : V} : (fl_Frame v0 v1 v2 v3 v4).lookup ("width" : Str) = some v0 := by
  have h := lookup_putF "width" "width" v0 (fl_Frame v0 v1 v2 v3 v4)
  rw [put_Frame_width, if_pos rfl] at h
  exact h
theorem put_Frame_height {v0 v1 v2 v3 v4 : V} {z : V} : putF "height" z (fl_Frame v0 v1 v2 v3 v4) = fl_Frame v0 z v2 v3 v4 := by
  simp only [fl_Frame, putF, ne_Frame_width__height, if_false, if_true, reduceIte]
theorem lk_Frame_height {v0 v1 v2 v3 v4 : V} : (fl_Frame v0 v1 v2 v3 v4).lookup ("height" : Str) = some v1 := by
  have h := lookup_putF "height" "height" v1 (fl_Frame v0 v1 v2 v3 v4)
  rw [put_Frame_height, if_pos rfl] at h
  exact h
theorem put_Frame_depth {v0 v1 v2 v3 v4 : V} {z : V} : putF "depth" z (fl_Frame v0 v1 v2 v3 v4) = fl_Frame v0 v1 z v3 v4 := by
  simp only [fl_Frame, putF, ne_Frame_width__depth, ne_Frame_height__depth, if_false, if_true, reduceIte]
theorem lk_Frame_depth {v0 v1 v2 v3 v4 : V} : (fl_Frame v0 v1 v2 v3 v4).lookup ("depth" : Str) = some v2 := by
  have h := lookup_putF "depth" "depth" v2 (fl_Frame v0 v1 v2 v3 v4)
  rw [put_Frame_depth, if_pos rfl] at h
  exact h
theorem put_Frame_channels {v0 v1 v2 v3 v4 : V} {z : V} : putF "channels" z (fl_Frame v0 v1 v2 v3 v4) = fl_Frame v0 v1 v2 z v4 := by
  simp only [fl_Frame, putF, ne_Frame_width__channels, ne_Frame_height__channels, ne_Frame_depth__channels, if_false, if_true, reduceIte]
theorem lk_Frame_channels {v0 v1 v2 v3 v4 : V} : (fl_Frame v0 v1 v2 v3 v4).lookup ("channels" : Str) = some v3 := by
  have h := lookup_putF "channels" "channels" v3 (fl_Frame v0 v1 v2 v3 v4)
  rw [put_Frame_channels, if_pos rfl] at h
  exact h
theorem put_Frame_tile {v0 v1 v2 v3 v4 : V} {z : V} : putF "tile" z (fl_Frame v0 v1 v2 v3 v4) = fl_Frame v0 v1 v2 v3 z := by
  simp only [fl_Frame, putF, ne_Frame_width__tile, ne_Frame_height__tile, ne_Frame_depth__tile, ne_Frame_channels__tile, if_false, if_true, reduceIte]
theorem lk_Frame_tile {v0 v1 v2 v3 v4 : V} : (fl_Frame v0 v1 v2 v3 v4).lookup ("tile" : Str) = some v4 := by
  have h := lookup_putF "tile" "tile" v4 (fl_Frame v0 v1 v2 v3 v4)
  rw [put_Frame_tile, if_pos rfl] at h
  exact h
theorem len_Frame {v0 v1 v2 v3 v4 : V} : (fl_Frame v0 v1 v2 v3 v4).length = 5 := rfl
theorem few_Frame {v0 v1 v2 v3 v4 : V} : (fl_Frame v0 v1 v2 v3 v4).length < 1000 := by
  show 5 < 1000
  decide
theorem ini_Frame {v0 v1 v2 v3 v4 : V} : putF "tile" v4 (putF "channels" v3 (putF "depth" v2 (putF "height" v1 (putF "width" v0 [])))) = fl_Frame v0 v1 v2 v3 v4 := by
  simp only [fl_Frame, putF, ne_Frame_width__height, ne_Frame_width__depth, ne_Frame_width__channels, ne_Frame_width__tile, ne_Frame_height__depth, ne_Frame_height__channels, ne_Frame_height__tile, ne_Frame_depth__channels, ne_Frame_depth__tile, ne_Frame_channels__tile, if_false, if_true, reduceIte]
theorem no_Frame___init__ {v0 v1 v2 v3 v4 : V} : (fl_Frame v0 v1 v2 v3 v4).lookup ("__init__" : Str) = none := by
  have q : ∀ (g : Str) (u : V) (r : List (Str × V)), ¬ g = "__init__" → List.lookup (Str.ofString "__init__") ((g, u) :: r) = List.lookup (Str.ofString "__init__") r := fun g u r h => by
    have hb : ((Str.ofString "__init__") == g) = false := beq_eq_false_iff_ne.mpr (fun z => h z.symm)
    simp only [List.lookup, hb]
  unfold fl_Frame
  rw [q _ _ _ (by rw [ne_Frame_width____init__]; exact id), q _ _ _ (by rw [ne_Frame_height____init__]; exact id), q _ _ _ (by rw [ne_Frame_depth____init__]; exact id), q _ _ _ (by rw [ne_Frame_channels____init__]; exact id), q _ _ _ (by rw [ne_Frame_tile____init__]; exact id)]
  rfl
theorem no_Frame_across {v0 v1 v2 v3 v4 : V} : (fl_Frame v0 v1 v2 v3 v4).lookup ("across" : Str) = none := by
  have q : ∀ (g : Str) (u : V) (r : List (Str × V)), ¬ g = "across" → List.lookup (Str.ofString "across") ((g, u) :: r) = List.lookup (Str.ofString "across") r := fun g u r h => by
    have hb : ((Str.ofString "across") == g) = false := beq_eq_false_iff_ne.mpr (fun z => h z.symm)
    simp only [List.lookup, hb]
  unfold fl_Frame
  rw [q _ _ _ (by rw [ne_Frame_width__across]; exact id), q _ _ _ (by rw [ne_Frame_height__across]; exact id), q _ _ _ (by rw [ne_Frame_depth__across]; exact id), q _ _ _ (by rw [ne_Frame_channels__across]; exact id), q _ _ _ (by rw [ne_Frame_tile__across]; exact id)]
  rfl
theorem no_Frame_down {v0 v1 v2 v3 v4 : V} : (fl_Frame v0 v1 v2 v3 v4).lookup ("down" : Str) = none := by
  have q : ∀ (g : Str) (u : V) (r : List (Str × V)), ¬ g = "down" → List.lookup (Str.ofString "down") ((g, u) :: r) = List.lookup (Str.ofString "down") r := fun g u r h => by
    have hb : ((Str.ofString "down") == g) = false := beq_eq_false_iff_ne.mpr (fun z => h z.symm)
    simp only [List.lookup, hb]
  unfold fl_Frame
  rw [q _ _ _ (by rw [ne_Frame_width__down]; exact id), q _ _ _ (by rw [ne_Frame_height__down]; exact id), q _ _ _ (by rw [ne_Frame_depth__down]; exact id), q _ _ _ (by rw [ne_Frame_channels__down]; exact id), q _ _ _ (by rw [ne_Frame_tile__down]; exact id)]
  rfl
theorem no_Frame_tiles {v0 v1 v2 v3 v4 : V} : (fl_Frame v0 v1 v2 v3 v4).lookup ("tiles" : Str) = none := by
  have q : ∀ (g : Str) (u : V) (r : List (Str × V)), ¬ g = "tiles" → List.lookup (Str.ofString "tiles") ((g, u) :: r) = List.lookup (Str.ofString "tiles") r := fun g u r h => by
    have hb : ((Str.ofString "tiles") == g) = false := beq_eq_false_iff_ne.mpr (fun z => h z.symm)
    simp only [List.lookup, hb]
  unfold fl_Frame
  rw [q _ _ _ (by rw [ne_Frame_width__tiles]; exact id), q _ _ _ (by rw [ne_Frame_height__tiles]; exact id), q _ _ _ (by rw [ne_Frame_depth__tiles]; exact id), q _ _ _ (by rw [ne_Frame_channels__tiles]; exact id), q _ _ _ (by rw [ne_Frame_tile__tiles]; exact id)]
  rfl
theorem no_Frame_pixels {v0 v1 v2 v3 v4 : V} : (fl_Frame v0 v1 v2 v3 v4).lookup ("pixels" : Str) = none := by
  have q : ∀ (g : Str) (u : V) (r : List (Str × V)), ¬ g = "pixels" → List.lookup (Str.ofString "pixels") ((g, u) :: r) = List.lookup (Str.ofString "pixels") r := fun g u r h => by
    have hb : ((Str.ofString "pixels") == g) = false := beq_eq_false_iff_ne.mpr (fun z => h z.symm)
    simp only [List.lookup, hb]
  unfold fl_Frame
  rw [q _ _ _ (by rw [ne_Frame_width__pixels]; exact id), q _ _ _ (by rw [ne_Frame_height__pixels]; exact id), q _ _ _ (by rw [ne_Frame_depth__pixels]; exact id), q _ _ _ (by rw [ne_Frame_channels__pixels]; exact id), q _ _ _ (by rw [ne_Frame_tile__pixels]; exact id)]
  rfl
theorem no_Frame_packets {v0 v1 v2 v3 v4 : V} : (fl_Frame v0 v1 v2 v3 v4).lookup ("packets" : Str) = none := by
  have q : ∀ (g : Str) (u : V) (r : List (Str × V)), ¬ g = "packets" → List.lookup (Str.ofString "packets") ((g, u) :: r) = List.lookup (Str.ofString "packets") r := fun g u r h => by
    have hb : ((Str.ofString "packets") == g) = false := beq_eq_false_iff_ne.mpr (fun z => h z.symm)
    simp only [List.lookup, hb]
  unfold fl_Frame
  rw [q _ _ _ (by rw [ne_Frame_width__packets]; exact id), q _ _ _ (by rw [ne_Frame_height__packets]; exact id), q _ _ _ (by rw [ne_Frame_depth__packets]; exact id), q _ _ _ (by rw [ne_Frame_channels__packets]; exact id), q _ _ _ (by rw [ne_Frame_tile__packets]; exact id)]
  rfl
theorem no_Frame_same {v0 v1 v2 v3 v4 : V} : (fl_Frame v0 v1 v2 v3 v4).lookup ("same" : Str) = none := by
  have q : ∀ (g : Str) (u : V) (r : List (Str × V)), ¬ g = "same" → List.lookup (Str.ofString "same") ((g, u) :: r) = List.lookup (Str.ofString "same") r := fun g u r h => by
    have hb : ((Str.ofString "same") == g) = false := beq_eq_false_iff_ne.mpr (fun z => h z.symm)
    simp only [List.lookup, hb]
  unfold fl_Frame
  rw [q _ _ _ (by rw [ne_Frame_width__same]; exact id), q _ _ _ (by rw [ne_Frame_height__same]; exact id), q _ _ _ (by rw [ne_Frame_depth__same]; exact id), q _ _ _ (by rw [ne_Frame_channels__same]; exact id), q _ _ _ (by rw [ne_Frame_tile__same]; exact id)]
  rfl
/-- a Frame stands at x -/
def Frm (C : Addr) (H : Hp) (x : Addr) (w h d c t : Nat) : Prop := ∃ dx, H x = some (.ins C dx (fl_Frame (.int (w : Int)) (.int (h : Int)) (.int (d : Int)) (.int (c : Int)) (.int (t : Int))))
theorem Frm.keep {C x : Addr} {H H' : Hp} {w h d c t : Nat} (f : Frm C H x w h d c t) (s : Same H H') : Frm C H' x w h d c t := by
  obtain ⟨dx, h1⟩ := f
  exact ⟨dx, s _ _ h1⟩

set_option hygiene false
local macro_rules | `(tactic| walk_at "go1") => `(tactic| (first
  | refine Gx.fp (by assumption) T.cl_Frame T.na_Frame_width lk_Frame_width ?_
  | refine Gx.fp (by assumption) T.cl_Frame T.na_Frame_height lk_Frame_height ?_
  | refine Gx.fp (by assumption) T.cl_Frame T.na_Frame_depth lk_Frame_depth ?_
  | refine Gx.fp (by assumption) T.cl_Frame T.na_Frame_channels lk_Frame_channels ?_
  | refine Gx.fp (by assumption) T.cl_Frame T.na_Frame_tile lk_Frame_tile ?_))
set_option hygiene true
/-- the law's own: True, whatever the script -/
def spLaw (K : PySem.W.Frag) : Sp := fun vs H Q _ => ∃ (a : Addr) (ns : List Int), vs = [.ref a] ∧ SqL K H a (ns.map V.int) ∧ ns.length ≤ 63 ∧ (∀ z ∈ ns, Builtin.Int.intBits z ≤ 1048576) ∧ ∀ H', Q (.bl true) H' 
def sp_Frame_across (C : Addr) : Sp := fun vs H Q _ => ∃ (x : Addr) (w h d c t : Nat), vs = [.ref x] ∧ Frm C H x w h d c t ∧ 1 ≤ t ∧ t ≤ 16 ∧ Q (.int (Gd.ac w t : Nat)) H

theorem sc_Frame_across : FnScope ["self"] ["self"] (defScope s_Frame_across) := ⟨rfl, rfl, rfl, by decide +kernel, rfl, by decide +kernel, by decide +kernel⟩
theorem ok_Frame_across (T : Tx K mg) : FnOk P w K mg base CX0 1 T.Frame_across.a T.Frame_across.d ["self"] (sp_Frame_across T.a_Frame) := by
  refine T.Frame_across.f.ok sc_Frame_across (fun vs H Q E h => ?_) (fun cdv A outer s H vs Q E hr h => ⟨_, pss_one (ps_ret (pe_op op_fdiv (pe_op op_sub (pe_op op_add (pe_fld (pv 0) rfl) (pe_fld (pv 0) rfl)) (pe_int)) (pe_fld (pv 0) rfl))), ?_⟩)
  · obtain ⟨x, w, h, d, c, t, rfl, _⟩ := h
    rfl
  · skip
    obtain ⟨x, w, h, d, c, t, rfl, ⟨dx, hx⟩, ht1, ht2, q⟩ := h
    walk_at "go"
    refine Gx.ic ⟨by omega, by omega⟩ ?_
    rw [Gd.ac_int (by omega)]
    exact q

theorem cp_Frame_across {C x : Addr} {w h d c t : Nat} {H : Hp} {Q : VK} {E : XK} (f : Frm C H x w h d c t) (h1 : 1 ≤ t) (h2 : t ≤ 16) (q : Q (.int (Gd.ac w t : Nat)) H) : Gx.CP (sp_Frame_across C) [.ref x] [] H Q E := ⟨x, w, h, d, c, t, rfl, f, h1, h2, q⟩

def sp_tile_corner (C : Addr) : Sp := fun vs H Q _ => ∃ (x : Addr) (w h d c t k : Nat), vs = [.ref x, .int (k : Int)] ∧ Frm C H x w h d c t ∧ 1 ≤ t ∧ t ≤ 16 ∧ 1 ≤ w ∧ w ≤ 64 ∧ k ≤ 100000 ∧ ∀ p, H p = none → Q (.ref p) (upd H p (.tup [.int (k % Gd.ac w t * t : Nat), .int (k / Gd.ac w t * t : Nat)]))

theorem sc_tile_corner : FnScope ["frame", "tile", "across"] ["frame", "tile"] (defScope s_tile_corner) := ⟨rfl, rfl, rfl, by decide +kernel, rfl, by decide +kernel, by decide +kernel⟩
theorem ok_tile_corner (T : Tx K mg) : FnOk P w K mg base CX0 2 T.tile_corner.a T.tile_corner.d ["frame", "tile"] (sp_tile_corner T.a_Frame) := by
  refine T.tile_corner.f.ok sc_tile_corner (fun vs H Q E h => ?_) (fun cdv A outer s H vs Q E hr h => ⟨_, pss_cons (ps_set (i := 2) sc_tile_corner.nd rfl (Or.inl rfl) (pe_meth0 (pv 0) T.cl_Frame T.Frame_across.m (ok_Frame_across T) (hr.mono (by decide)) T.Frame_across.b .nil pass0))
      (pss_one (ps_ret (pe_tup (pa_cons (pe_op op_mul (pe_op op_mod (pv 1) (pv 2)) (pe_fld (pv 0) rfl)) (pa_cons (pe_op op_mul (pe_op op_fdiv (pv 1) (pv 2)) (pe_fld (pv 0) rfl)) pa_nil))))), ?_⟩)
  · obtain ⟨x, w, h, d, c, t, k, rfl, _⟩ := h
    rfl
  · skip
    obtain ⟨x, w, h, d, c, t, k, rfl, ⟨dx, hx⟩, ht1, ht2, hw1, hw, hk, q⟩ := h
    have l1 := Gd.ac_le (n := w) (t := t) (by omega)
    have l2 := Gd.ac_pos (n := w) (t := t) (by omega) (by omega)
    walk_at "go"
    refine Gx.mp hx no_Frame_across ?_
    walk_at "go"
    refine cp_Frame_across ⟨dx, hx⟩ ht1 ht2 ?_
    walk_at "go"
    refine Gx.ic (by omega) ?_
    walk_at "go"
    refine Gx.ic (.inr (by omega)) ?_
    walk_at "go"
    refine Gx.ic ⟨by omega, by omega⟩ ?_
    walk_at "go"
    refine Gx.ic (.inr (by omega)) ?_
    walk_at "go"
    rw [← Int.natCast_emod, ← Int.natCast_ediv, ← Int.natCast_mul, ← Int.natCast_mul]
    exact Gx.tupP (by show 2 ≤ sizeLine; decide) q

theorem cp_tile_corner {C x : Addr} {w h d c t k : Nat} {H : Hp} {Q : VK} {E : XK} (f : Frm C H x w h d c t) (h1 : 1 ≤ t) (h2 : t ≤ 16) (hw1 : 1 ≤ w) (hw : w ≤ 64) (hk : k ≤ 100000) (q : ∀ p, H p = none → Q (.ref p) (upd H p (.tup [.int (k % Gd.ac w t * t : Nat), .int (k / Gd.ac w t * t : Nat)]))) :
    Gx.CP (sp_tile_corner C) [.ref x, .int (k : Int)] [] H Q E := ⟨x, w, h, d, c, t, k, rfl, f, h1, h2, hw1, hw, hk, q⟩

def sp_tile_size (C : Addr) : Sp := fun vs H Q _ => ∃ (x : Addr) (w h d c t k : Nat), vs = [.ref x, .int (k : Int)] ∧ Frm C H x w h d c t ∧ 1 ≤ t ∧ t ≤ 16 ∧ 1 ≤ w ∧ w ≤ 64 ∧ 1 ≤ h ∧ h ≤ 64 ∧ k < Gd.ac w t * Gd.ac h t ∧
  ∀ p H', H p = none → Same H H' → H' p = some (.tup [.int (Gd.sd w t (k % Gd.ac w t) : Nat), .int (Gd.sd h t (k / Gd.ac w t) : Nat)]) → Q (.ref p) H'

theorem sc_tile_size : FnScope ["frame", "tile", "left", "top"] ["frame", "tile"] (defScope s_tile_size) := ⟨rfl, rfl, rfl, by decide +kernel, rfl, by decide +kernel, by decide +kernel⟩
theorem ok_tile_size (T : Tx K mg) : FnOk P w K mg base CX0 3 T.tile_size.a T.tile_size.d ["frame", "tile"] (sp_tile_size T.a_Frame) := by
  refine T.tile_size.f.ok sc_tile_size (fun vs H Q E h => ?_) (fun cdv A outer s H vs Q E hr h => ⟨_, pss_cons (ps_asg (pe_call (ok_tile_corner T) (hr.mono (by decide)) rfl T.tile_corner.g T.tile_corner.f.kp T.tile_corner.b .nil pass0 (pa_cons (pv 0) (pa_cons (pv 1) pa_nil))) (pg_tup rfl (pgs_cons (pg_name (i := 2) sc_tile_size.nd rfl (Or.inl rfl)) (pgs_cons (pg_name (i := 3) sc_tile_size.nd rfl (Or.inl rfl)) pgs_nil))))
      (pss_one (ps_ret (pe_tup (pa_cons (pe_callB (Gx.c_min2 rfl) rfl T.n_min (by decide +kernel) (pa_cons (pe_fld (pv 0) rfl) (pa_cons (pe_op op_sub (pe_fld (pv 0) rfl) (pv 2)) pa_nil))) (pa_cons (pe_callB (Gx.c_min2 rfl) rfl T.n_min (by decide +kernel) (pa_cons (pe_fld (pv 0) rfl) (pa_cons (pe_op op_sub (pe_fld (pv 0) rfl) (pv 3)) pa_nil))) pa_nil))))), ?_⟩)
  · obtain ⟨x, w, h, d, c, t, k, rfl, _⟩ := h
    rfl
  · skip
    obtain ⟨x, w, h, d, c, t, k, rfl, ⟨dx, hx⟩, ht1, ht2, hw1, hw, hh1, hh, hk, q⟩ := h
    have l1 := Gd.ac_le (n := w) (t := t) (by omega)
    have l2 := Gd.ac_pos (n := w) (t := t) (by omega) (by omega)
    have l3 := Gd.ac_le (n := h) (t := t) (by omega)
    have l4 : Gd.ac w t * Gd.ac h t ≤ 64 * 64 := Nat.mul_le_mul (by omega) (by omega)
    have m1 : k % Gd.ac w t < Gd.ac w t := Nat.mod_lt _ l2
    have m2 : k / Gd.ac w t < Gd.ac h t := Nat.div_lt_of_lt_mul hk
    walk_at "go"
    refine cp_tile_corner ⟨dx, hx⟩ ht1 ht2 hw1 hw (by omega) fun p hp => ?_
    refine Gx.gtup (SqT.of upd_same) rfl ?_
    have hx := Gx.same_new (o := .tup [.int (k % Gd.ac w t * t : Nat), .int (k / Gd.ac w t * t : Nat)]) hp _ _ hx
    walk_at "go"
    refine Gx.min2 ?_
    walk_at "go"
    refine Gx.min2 ?_
    walk_at "go"
    rw [Gd.sd_int (by omega) m1, Gd.sd_int (by omega) m2]
    refine Gx.tupP (by show 2 ≤ sizeLine; decide) fun p2 hp2 => ?_
    exact q p2 _ (((Gx.same_new hp).free hp2)) ((Gx.same_new hp).trans (Gx.same_new hp2)) upd_same

theorem cp_tile_size {C x : Addr} {w h d c t k : Nat} {H : Hp} {Q : VK} {E : XK} (f : Frm C H x w h d c t) (h1 : 1 ≤ t) (h2 : t ≤ 16) (hw1 : 1 ≤ w) (hw : w ≤ 64) (hh1 : 1 ≤ h) (hh : h ≤ 64) (hk : k < Gd.ac w t * Gd.ac h t)
    (q : ∀ p H', H p = none → Same H H' → H' p = some (.tup [.int (Gd.sd w t (k % Gd.ac w t) : Nat), .int (Gd.sd h t (k / Gd.ac w t) : Nat)]) → Q (.ref p) H') :
    Gx.CP (sp_tile_size C) [.ref x, .int (k : Int)] [] H Q E := ⟨x, w, h, d, c, t, k, rfl, f, h1, h2, hw1, hw, hh1, hh, hk, q⟩

/-- the pixels of a tile, row by row -/
def sp_tile_pixels (C : Addr) : Sp := fun vs H Q _ => ∃ (x : Addr) (w h d c t k : Nat), vs = [.ref x, .int (k : Int)] ∧ Frm C H x w h d c t ∧ 1 ≤ t ∧ t ≤ 16 ∧ 1 ≤ w ∧ w ≤ 64 ∧ 1 ≤ h ∧ h ≤ 64 ∧ k < Gd.ac w t * Gd.ac h t ∧
  ∀ p H', H p = none → Same H H' → H' p = some (.lst (Gx.made (Gd.sd w t (k % Gd.ac w t)) (fun i j => .int (((k / Gd.ac w t * t + i) * w + (k % Gd.ac w t * t + j) : Nat) : Int)) (Gd.sd h t (k / Gd.ac w t)))) → Q (.ref p) H'

theorem sc_tile_pixels : FnScope ["frame", "tile", "left", "top", "width", "height", "row", "column"] ["frame", "tile"] (defScope s_tile_pixels) := ⟨rfl, rfl, rfl, by decide +kernel, rfl, by decide +kernel, by decide +kernel⟩
theorem ok_tile_pixels (T : Tx K mg) : FnOk P w K mg base CX0 4 T.tile_pixels.a T.tile_pixels.d ["frame", "tile"] (sp_tile_pixels T.a_Frame) := by
  refine T.tile_pixels.f.ok sc_tile_pixels (fun vs H Q E h => ?_) (fun cdv A outer s H vs Q E hr h => ⟨_, pss_cons (ps_asg (pe_call (ok_tile_corner T) (hr.mono (by decide)) rfl T.tile_corner.g T.tile_corner.f.kp T.tile_corner.b .nil pass0 (pa_cons (pv 0) (pa_cons (pv 1) pa_nil))) (pg_tup rfl (pgs_cons (pg_name (i := 2) sc_tile_pixels.nd rfl (Or.inr rfl)) (pgs_cons (pg_name (i := 3) sc_tile_pixels.nd rfl (Or.inl rfl)) pgs_nil))))
      (pss_cons (ps_asg (pe_call (ok_tile_size T) (hr.mono (by decide)) rfl T.tile_size.g T.tile_size.f.kp T.tile_size.b .nil pass0 (pa_cons (pv 0) (pa_cons (pv 1) pa_nil))) (pg_tup rfl (pgs_cons (pg_name (i := 4) sc_tile_pixels.nd rfl (Or.inr rfl)) (pgs_cons (pg_name (i := 5) sc_tile_pixels.nd rfl (Or.inl rfl)) pgs_nil))))
      (pss_one (ps_ret (pe_lc2 (own := [("row", 6), ("column", 7)]) (vs1 := [7]) (g := gName 6) (g1 := gName 7) (tt := tYes) (tt1 := tYes) rfl sc_tile_pixels.nd (pi_range2 rfl T.n_range (pa_cons (pv 3) (pa_cons (pe_op op_add (pv 3) (pv 5)) pa_nil))) (blkOk_by (own := [("row", 6), ("column", 7)]) (N := ["frame", "tile", "left", "top", "width", "height", "row", "column"]) (sc := defScope s_tile_pixels) (by decide +kernel)) (by decide) (fun _ _ _ _ _ => pg_name (i := 6) sc_tile_pixels.nd rfl (Or.inl rfl)) (fun _ _ _ _ _ => pts_nil) (fun _ _ _ _ _ => pi_range2 rfl T.n_range (pa_cons (pv 2) (pa_cons (pe_op op_add (pv 2) (pv 4)) pa_nil))) (fun _ _ _ _ _ => pg_name (i := 7) sc_tile_pixels.nd rfl (Or.inl rfl)) (fun _ _ _ _ _ => pts_nil) (fun _ _ _ _ _ => pe_op op_add (pe_op op_mul (pv 6) (Gx.pe_fldK (K := K) rfl (pv 0) rfl)) (pv 7)))))), ?_⟩)
  · obtain ⟨x, w, h, d, c, t, k, rfl, _⟩ := h
    rfl
  · skip
    obtain ⟨x, w, h, d, c, t, k, rfl, fr, ht1, ht2, hw1, hw, hh1, hh, hk, q⟩ := h
    have l1 := Gd.ac_le (n := w) (t := t) (by omega)
    have l2 := Gd.ac_pos (n := w) (t := t) (by omega) (by omega)
    have l3 := Gd.ac_le (n := h) (t := t) (by omega)
    have l4 : Gd.ac w t * Gd.ac h t ≤ 64 * 64 := Nat.mul_le_mul (by omega) (by omega)
    have m1 : k % Gd.ac w t < Gd.ac w t := Nat.mod_lt _ l2
    have m2 : k / Gd.ac w t < Gd.ac h t := Nat.div_lt_of_lt_mul hk
    have b1 := Gd.ac_mul (n := w) (t := t) (by omega) m1
    have b2 := Gd.ac_mul (n := h) (t := t) (by omega) m2
    have sw : Gd.sd w t (k % Gd.ac w t) ≤ 16 := by unfold Gd.sd; omega
    have sh : Gd.sd h t (k / Gd.ac w t) ≤ 16 := by unfold Gd.sd; omega
    walk_at "go"
    refine cp_tile_corner fr ht1 ht2 hw1 hw (by omega) fun p1 hp1 => ?_
    refine Gx.gtup (SqT.of upd_same) rfl ?_
    have s1 := Gx.same_new (o := .tup [.int (k % Gd.ac w t * t : Nat), .int (k / Gd.ac w t * t : Nat)]) hp1
    have fr1 := fr.keep s1
    walk_at "go"
    refine cp_tile_size fr1 ht1 ht2 hw1 hw hh1 hh hk fun p2 H2 hp2 s2 h2 => ?_
    refine Gx.gtup (SqT.of h2) rfl ?_
    have s12 := s1.trans s2
    generalize k % Gd.ac w t * t = X0 at *
    generalize k / Gd.ac w t * t = Y0 at *
    generalize Gd.sd w t (k % Gd.ac w t) = W0 at *
    generalize Gd.sd h t (k / Gd.ac w t) = H0 at *
    walk_at "go"
    refine Gx.r2 ⟨by omega, by omega, by omega, by omega⟩ ?_
    rw [show ((Y0 : Int) + (H0 : Int) - (Y0 : Int)).toNat = H0 by omega]
    refine Gx.lc2O walk_range (fun D i H' => H D = none ∧ Same H H' ∧ H' D = some (.lst (Gx.made W0 (fun i j => .int (((Y0 + i) * w + (X0 + j) : Nat) : Int)) i)))
      (fun D hD => ⟨s12.free hD, Gx.same_up (s12.free hD) s12, upd_same⟩) (fun _ _ _ _ _ => trivial) ?_ (fun D H' hD hp => q D H' hp.1 hp.2.1 hp.2.2)
    rintro D i v H3 H3' hi ⟨hD, s3, h3⟩ ⟨rfl, hv⟩
    have hv2 : v = .int ((Y0 + i : Nat) : Int) := hv.trans (congrArg V.int (by omega))
    subst hv2

    walk_at "go"
    refine Gx.r2 ⟨by omega, by omega, by omega, by omega⟩ ?_
    rw [show ((X0 : Int) + (W0 : Int) - (X0 : Int)).toNat = W0 by omega]
    refine Gx.lc2I walk_range (fun j H' => (∀ a, a ≠ D → H' a = H3' a) ∧ H' D = some (.lst (Gx.made W0 (fun i j => .int (((Y0 + i) * w + (X0 + j) : Nat) : Int)) i ++ (List.range j).map fun j => .int (((Y0 + i) * w + (X0 + j) : Nat) : Int))))
      ⟨fun _ _ => rfl, by rw [h3]; simp⟩ (fun _ _ _ _ => trivial) ?_ ?_
    · rintro j v H4 H4' hj ⟨k4, h4⟩ ⟨rfl, hv⟩
      have hv2 : v = .int ((X0 + j : Nat) : Int) := hv.trans (congrArg V.int (by omega))
      subst hv2
      obtain ⟨dx, hx⟩ := fr.keep s3
      have xD : x ≠ D := ne_of hx h3 (by intro z; cases z)
      have hx := (k4 x xD).trans hx
      walk_at "go"
      refine Gx.ic (.inr (by omega)) ?_
      walk_at "go"
      refine ⟨_, h4, ?_, fun a ha => by rw [upd_ne ha]; exact k4 a ha, ?_⟩
      · rw [List.length_append, Gx.made_len, List.length_map, List.length_range, sizeLine_eq]
        have : i * W0 ≤ 16 * 16 := Nat.mul_le_mul (by omega) sw
        omega
      · rw [upd_same, List.range_succ, List.map_append, List.append_assoc, ← Int.natCast_mul, ← Int.natCast_add]; rfl
    · rintro H4 ⟨k4, h4⟩
      refine ⟨hD, fun a o e => ?_, by rw [h4, Gx.made_succ]⟩
      by_cases ha : a = D
      · subst ha; rw [hD] at e; cases e
      · rw [k4 a ha]; exact s3 a o e

theorem cp_tile_pixels {C x : Addr} {w h d c t k : Nat} {H : Hp} {Q : VK} {E : XK} (f : Frm C H x w h d c t) (h1 : 1 ≤ t) (h2 : t ≤ 16) (hw1 : 1 ≤ w) (hw : w ≤ 64) (hh1 : 1 ≤ h) (hh : h ≤ 64) (hk : k < Gd.ac w t * Gd.ac h t)
    (q : ∀ p H', H p = none → Same H H' → H' p = some (.lst (Gx.made (Gd.sd w t (k % Gd.ac w t)) (fun i j => .int (((k / Gd.ac w t * t + i) * w + (k % Gd.ac w t * t + j) : Nat) : Int)) (Gd.sd h t (k / Gd.ac w t)))) → Q (.ref p) H') :
    Gx.CP (sp_tile_pixels C) [.ref x, .int (k : Int)] [] H Q E := ⟨x, w, h, d, c, t, k, rfl, f, h1, h2, hw1, hw, hh1, hh, hk, q⟩

def sp_law_is_int : Sp := fun vs H Q _ => ∃ i : Int, vs = [.int i] ∧ Q (.bl true) H

theorem sc_law_is_int : FnScope ["actual"] ["actual"] (defScope s_law_is_int) := ⟨rfl, rfl, rfl, by decide +kernel, rfl, by decide +kernel, by decide +kernel⟩
theorem ok_law_is_int (T : Tx K mg) : FnOk P w K mg base CX0 1 T.law_is_int.a T.law_is_int.d ["actual"] (sp_law_is_int) := by
  refine T.law_is_int.f.ok sc_law_is_int (fun vs H Q E h => ?_) (fun cdv A outer s H vs Q E hr h => ⟨_, pss_one (ps_ret (pe_and (pe_callB call_isi rfl T.n_isinstance (by decide +kernel) (pa_cons (pv 0) (pa_cons (pe_bltn (v := .ty "int") rfl T.n_int (by decide +kernel) rfl) pa_nil))) (pe_one (pe_not (pe_callB call_isi rfl T.n_isinstance (by decide +kernel) (pa_cons (pv 0) (pa_cons (pe_bltn (v := .ty "bool") rfl T.n_bool (by decide +kernel) rfl) pa_nil))))))), ?_⟩)
  · obtain ⟨i, rfl, _⟩ := h
    rfl
  · skip
    obtain ⟨i, rfl, q⟩ := h
    walk_at "go"
    refine Gx.isiI ?_ (by decide +kernel : kitB "int" "int" = some true)
    walk_at "go"
    refine Gx.isiI ?_ (by decide +kernel : kitB "int" "bool" = some false)
    walk_at "go"
    exact q

theorem cp_law_is_int {i : Int} {H : Hp} {Q : VK} {E : XK} (q : Q (.bl true) H) : Gx.CP sp_law_is_int [.int i] [] H Q E := ⟨i, rfl, q⟩

def sp_locate_pixel (C : Addr) : Sp := fun vs H Q _ => ∃ (x : Addr) (w h d c t n : Nat), vs = [.ref x, .int (n : Int)] ∧ Frm C H x w h d c t ∧ 1 ≤ t ∧ t ≤ 16 ∧ 1 ≤ w ∧ w ≤ 64 ∧ 1 ≤ h ∧ h ≤ 64 ∧ n < w * h ∧
  ∀ p H', Same H H' → H' p = some (.tup [.int (Gd.tileOf w t n : Nat), .int (Gd.placeOf w t n : Nat)]) → Q (.ref p) H'

theorem sc_locate_pixel : FnScope ["frame", "pixel", "side", "column", "row", "tile", "width", "_"] ["frame", "pixel"] (defScope s_locate_pixel) := ⟨rfl, rfl, rfl, by decide +kernel, rfl, by decide +kernel, by decide +kernel⟩
theorem ok_locate_pixel (T : Tx K mg) : FnOk P w K mg base CX0 4 T.locate_pixel.a T.locate_pixel.d ["frame", "pixel"] (sp_locate_pixel T.a_Frame) := by
  refine T.locate_pixel.f.ok sc_locate_pixel (fun vs H Q E h => ?_) (fun cdv A outer s H vs Q E hr h => ⟨_, pss_cons (ps_set (i := 2) sc_locate_pixel.nd rfl (Or.inl rfl) (pe_fld (pv 0) rfl))
      (pss_cons (ps_set (i := 3) sc_locate_pixel.nd rfl (Or.inl rfl) (pe_op op_mod (pv 1) (pe_fld (pv 0) rfl)))
      (pss_cons (ps_set (i := 4) sc_locate_pixel.nd rfl (Or.inl rfl) (pe_op op_fdiv (pv 1) (pe_fld (pv 0) rfl)))
      (pss_cons (ps_set (i := 5) sc_locate_pixel.nd rfl (Or.inl rfl) (pe_op op_add (pe_op op_mul (pe_op op_fdiv (pv 4) (pv 2)) (pe_meth0 (pv 0) T.cl_Frame T.Frame_across.m (ok_Frame_across T) (hr.mono (by decide)) T.Frame_across.b .nil pass0)) (pe_op op_fdiv (pv 3) (pv 2))))
      (pss_cons (ps_asg (pe_call (ok_tile_size T) (hr.mono (by decide)) rfl T.tile_size.g T.tile_size.f.kp T.tile_size.b .nil pass0 (pa_cons (pv 0) (pa_cons (pv 5) pa_nil))) (pg_tup rfl (pgs_cons (pg_name (i := 6) sc_locate_pixel.nd rfl (Or.inl rfl)) (pgs_cons (pg_name (i := 7) sc_locate_pixel.nd rfl (Or.inl rfl)) pgs_nil))))
      (pss_one (ps_ret (pe_tup (pa_cons (pv 5) (pa_cons (pe_op op_add (pe_op op_mul (pe_op op_mod (pv 4) (pv 2)) (pv 6)) (pe_op op_mod (pv 3) (pv 2))) pa_nil))))))))), ?_⟩)
  · obtain ⟨x, w, h, d, c, t, n, rfl, _⟩ := h
    rfl
  · skip
    obtain ⟨x, w, h, d, c, t, n, rfl, fr, ht1, ht2, hw1, hw, hh1, hh, hn, q⟩ := h
    have l1 := Gd.ac_le (n := w) (t := t) (by omega)
    have big : w * h ≤ 64 * 64 := Nat.mul_le_mul hw hh
    have tl := Gd.tile_lt (t := t) (by omega) (by omega) hn
    have tm := Gd.tile_mod (n := n) (show 0 < w by omega) (show 0 < t by omega)
    have td := Gd.tile_div (n := n) (show 0 < w by omega) (show 0 < t by omega)
    obtain ⟨dx, hx⟩ := id fr
    walk_at "go"
    refine Gx.ic (show (0 : Int) < (w : Int) by omega) ?_
    walk_at "go"
    refine Gx.ic ⟨by omega, by omega⟩ ?_
    walk_at "go"
    refine Gx.ic ⟨by omega, by omega⟩ ?_
    walk_at "go"
    refine Gx.mp hx no_Frame_across ?_
    walk_at "go"
    refine cp_Frame_across fr ht1 ht2 ?_
    refine Gx.ic (.inr (by omega)) ?_
    walk_at "go"
    refine Gx.ic ⟨by omega, by omega⟩ ?_
    walk_at "go"
    rw [← Int.natCast_ediv, ← Int.natCast_ediv, ← Int.natCast_emod, ← Int.natCast_ediv, ← Int.natCast_mul, ← Int.natCast_add]
    refine cp_tile_size (k := Gd.tileOf w t n) fr ht1 ht2 hw1 hw hh1 hh tl fun p2 H2 hp2 s2 h2 => ?_
    rw [tm, td] at h2
    refine Gx.gtup (SqT.of h2) rfl ?_
    walk_at "go"
    refine Gx.ic (show (0 : Int) < (t : Int) by omega) ?_
    walk_at "go"
    have sw : Gd.sd w t (n % w / t) ≤ 16 := by unfold Gd.sd; omega
    refine Gx.ic (.inr (by omega)) ?_
    walk_at "go"
    refine Gx.ic (show (0 : Int) < (t : Int) by omega) ?_
    walk_at "go"
    rw [← Int.natCast_emod, ← Int.natCast_emod, ← Int.natCast_mul, ← Int.natCast_add]
    refine Gx.tupP (by show 2 ≤ sizeLine; decide) fun p hp => ?_
    exact q p _ (s2.trans (Gx.same_new hp)) upd_same

theorem cp_locate_pixel {C x : Addr} {w h d c t n : Nat} {H : Hp} {Q : VK} {E : XK} (f : Frm C H x w h d c t) (h1 : 1 ≤ t) (h2 : t ≤ 16) (hw1 : 1 ≤ w) (hw : w ≤ 64) (hh1 : 1 ≤ h) (hh : h ≤ 64) (hn : n < w * h)
    (q : ∀ p H', Same H H' → H' p = some (.tup [.int (Gd.tileOf w t n : Nat), .int (Gd.placeOf w t n : Nat)]) → Q (.ref p) H') : Gx.CP (sp_locate_pixel C) [.ref x, .int (n : Int)] [] H Q E := ⟨x, w, h, d, c, t, n, rfl, f, h1, h2, hw1, hw, hh1, hh, hn, q⟩

def sp_law_are_ints : Sp := fun vs H Q _ => ∃ (p : Addr) (xs : List Int), vs = [.ref p] ∧ H p = some (.lst (xs.map V.int)) ∧ xs.length ≤ 10000 ∧ ∀ H', Same H H' → Q (.bl true) H'

theorem sc_law_are_ints : FnScope ["row", "number"] ["row"] (defScope s_law_are_ints) := ⟨rfl, rfl, rfl, by decide +kernel, rfl, by decide +kernel, by decide +kernel⟩
theorem ok_law_are_ints (T : Tx K mg) : FnOk P w K mg base CX0 2 T.law_are_ints.a T.law_are_ints.d ["row"] (sp_law_are_ints) := by
  refine T.law_are_ints.f.ok sc_law_are_ints (fun vs H Q E h => ?_) (fun cdv A outer s H vs Q E hr h => ⟨_, pss_one (ps_ret (pe_and (pe_callB call_isi rfl T.n_isinstance (by decide +kernel) (pa_cons (pv 0) (pa_cons (pe_bltn (v := .ty "list") rfl T.n_list (by decide +kernel) rfl) pa_nil))) (pe_one (pe_callB (cr_all rfl) rfl T.n_all (by decide +kernel) (pa_cons (pe_lc (own := [("number", 1)]) (g := gName 1) (tt := tYes) rfl sc_law_are_ints.nd (pi_list (pv 0)) (blkOk_by (own := [("number", 1)]) (N := ["row", "number"]) (sc := defScope s_law_are_ints) (by decide +kernel)) (fun _ _ _ _ _ => pg_name (i := 1) sc_law_are_ints.nd rfl (Or.inl rfl)) (fun _ _ _ _ _ => pts_nil) (fun _ _ _ _ _ => pe_call (ok_law_is_int T) (hr.mono (by decide)) rfl T.law_is_int.g T.law_is_int.f.kp T.law_is_int.b .nil pass0 (pa_cons (pv 1) pa_nil))) pa_nil))))), ?_⟩)
  · obtain ⟨p, xs, rfl, _⟩ := h
    rfl
  · skip
    obtain ⟨p, xs, rfl, hp, hl, q⟩ := h
    walk_at "go"
    refine Gx.isi (.base (.lst hp)) ?_ (kit_ty (by decide +kernel : kitB "list" "list" = some true))
    walk_at "go"
    refine Gx.lp (SqL.of hp) ?_
    refine Gx.lcMap walk_list (by rw [List.length_map]; omega) (fun _ => .bl true) (fun _ s => s.seq (SqL.of hp)) Gx.sameAt ?_ ?_
    · rintro k x H3 H3' R R0 hk _ ⟨rfl, hx⟩ hr
      obtain ⟨z, rfl⟩ : ∃ z : Int, x = .int z := by
        rw [List.getElem?_map] at hx
        cases e : xs[k]? with
        | none => rw [e] at hx; cases hx
        | some z => rw [e] at hx; exact ⟨z, (Option.some.inj hx).symm⟩
      walk_at "go"
      refine cp_law_is_int ?_
      exact hr _ (Same.refl _)
    intro pl H3 hpl s3 hal
    walk_at "go"
    refine Gx.allP (bs := List.replicate xs.length true) (SqL.of (by rw [hal, List.map_replicate, List.map_const', List.length_range, List.length_map])) ?_
    rw [show (List.replicate xs.length true).all id = true by simp]
    exact q _ s3

theorem cp_law_are_ints {p : Addr} {xs : List Int} {H : Hp} {Q : VK} {E : XK} (hp : H p = some (.lst (xs.map V.int))) (hl : xs.length ≤ 10000) (q : ∀ H', Same H H' → Q (.bl true) H') : Gx.CP sp_law_are_ints [.ref p] [] H Q E := ⟨p, xs, rfl, hp, hl, q⟩

def sp_check_size : Sp := fun vs H Q _ => ∃ (w h c : Nat), vs = [.int (w : Int), .int (h : Int), .int (c : Int)] ∧ w ≤ 64 ∧ h ≤ 64 ∧ c ≤ 3 ∧ w * h * c ≤ 3072 ∧ Q .non H

theorem sc_check_size : FnScope ["width", "height", "channels"] ["width", "height", "channels"] (defScope s_check_size) := ⟨rfl, rfl, rfl, by decide +kernel, rfl, by decide +kernel, by decide +kernel⟩
theorem ok_check_size (T : Tx K mg) : FnOk P w K mg base CX0 3 T.check_size.a T.check_size.d ["width", "height", "channels"] (sp_check_size) := by
  refine T.check_size.f.ok sc_check_size (fun vs H Q E h => ?_) (fun cdv A outer s H vs Q E hr h => ⟨_, pss_one (ps_if (pt_cmpR op_gt (pe_op op_mul (pe_op op_mul (pv 0) (pv 1)) (pv 2)) (pe_glob (v := .int 3072) rfl T.c_VALUES_MOST ⟨_, rfl⟩) (nomark _)) (pss_one (ps_never)) (pss_nil)), ?_⟩)
  · obtain ⟨w, h, c, rfl, _⟩ := h
    rfl
  · skip
    obtain ⟨w, h, c, rfl, hw, hh, hc, hs, q⟩ := h
    walk_at "go"
    refine Gx.ic (by walk_at "side") ?_
    walk_at "go"
    refine Gx.ic (.inr (by omega)) ?_
    walk_at "go"
    rw [show (w : Int) * (h : Int) * (c : Int) = ((w * h * c : Nat) : Int) by rw [Int.natCast_mul, Int.natCast_mul]]
    refine Gx.if_dno (by omega) ?_
    walk_at "go"
    exact q

theorem cp_check_size {w h c : Nat} {H : Hp} {Q : VK} {E : XK} (hw : w ≤ 64) (hh : h ≤ 64) (hc : c ≤ 3) (hs : w * h * c ≤ 3072) (q : Q .non H) : Gx.CP sp_check_size [.int (w : Int), .int (h : Int), .int (c : Int)] [] H Q E := ⟨w, h, c, rfl, hw, hh, hc, hs, q⟩

/-- a number that is in range -/
def sp_check_range : Sp := fun vs H Q _ => ∃ (z : Str) (v l m : Int), vs = [.str z, .int v, .int l, .int m] ∧ l ≤ v ∧ v ≤ m ∧ Q .non H

theorem sc_check_range : FnScope ["name", "value", "least", "most"] ["name", "value", "least", "most"] (defScope s_check_range) := ⟨rfl, rfl, rfl, by decide +kernel, rfl, by decide +kernel, by decide +kernel⟩
theorem ok_check_range (T : Tx K mg) : FnOk P w K mg base CX0 3 T.check_range.a T.check_range.d ["name", "value", "least", "most"] (sp_check_range) := by
  refine T.check_range.f.ok sc_check_range (fun vs H Q E h => ?_) (fun cdv A outer s H vs Q E hr h => ⟨_, pss_one (ps_if (PW.pt (pw_or (pt_cmpR op_lt (pv 1) (pv 2) (nomark _)) (pw_or1 (pt_cmpR op_gt (pv 1) (pv 3) (nomark _))))) (pss_one (ps_never)) (pss_nil)), ?_⟩)
  · obtain ⟨z, v, l, m, rfl, _⟩ := h
    rfl
  · skip
    obtain ⟨z, v, l, m, rfl, h1, h2, q⟩ := h
    walk_at "go"
    refine Gx.if_dno (by omega) ?_
    walk_at "go"
    refine Gx.if_dno (by omega) ?_
    walk_at "go"
    exact q

theorem cp_check_range {z : Str} {v l m : Int} {H : Hp} {Q : VK} {E : XK} (h1 : l ≤ v) (h2 : v ≤ m) (q : Q .non H) : Gx.CP sp_check_range [.str z, .int v, .int l, .int m] [] H Q E := ⟨z, v, l, m, rfl, h1, h2, q⟩

def sp_check_kind : Sp := fun vs H Q _ => ∃ (w h d c : Nat), vs = [.int (w : Int), .int (h : Int), .int (d : Int), .int (c : Int)] ∧ 1 ≤ w ∧ w ≤ 64 ∧ 1 ≤ h ∧ h ≤ 64 ∧ 1 ≤ d ∧ d ≤ 8 ∧ (c = 1 ∨ c = 3) ∧ ∀ H', Same H H' → Q .non H'

theorem sc_check_kind : FnScope ["width", "height", "depth", "channels"] ["width", "height", "depth", "channels"] (defScope s_check_kind) := ⟨rfl, rfl, rfl, by decide +kernel, rfl, by decide +kernel, by decide +kernel⟩
theorem ok_check_kind (T : Tx K mg) : FnOk P w K mg base CX0 4 T.check_kind.a T.check_kind.d ["width", "height", "depth", "channels"] (sp_check_kind) := by
  refine T.check_kind.f.ok sc_check_kind (fun vs H Q E h => ?_) (fun cdv A outer s H vs Q E hr h => ⟨_, pss_cons (ps_expr (pe_call (ok_check_range T) (hr.mono (by decide)) rfl T.check_range.g T.check_range.f.kp T.check_range.b .nil pass0 (pa_cons (pe_str) (pa_cons (pv 0) (pa_cons (pe_int) (pa_cons (pe_glob (v := .int 64) rfl T.c_SIDE_MOST ⟨_, rfl⟩) pa_nil))))))
      (pss_cons (ps_expr (pe_call (ok_check_range T) (hr.mono (by decide)) rfl T.check_range.g T.check_range.f.kp T.check_range.b .nil pass0 (pa_cons (pe_str) (pa_cons (pv 1) (pa_cons (pe_int) (pa_cons (pe_glob (v := .int 64) rfl T.c_SIDE_MOST ⟨_, rfl⟩) pa_nil))))))
      (pss_cons (ps_expr (pe_call (ok_check_range T) (hr.mono (by decide)) rfl T.check_range.g T.check_range.f.kp T.check_range.b .nil pass0 (pa_cons (pe_str) (pa_cons (pv 2) (pa_cons (pe_int) (pa_cons (pe_glob (v := .int 8) rfl T.c_DEPTH_MOST ⟨_, rfl⟩) pa_nil))))))
      (pss_one (ps_if (pt_cmpR op_notIn_seq (pv 3) (pe_tup (pa_cons (pe_int) (pa_cons (pe_int) pa_nil))) (by rfl)) (pss_one (ps_never)) (pss_nil))))), ?_⟩)
  · obtain ⟨w, h, d, c, rfl, _⟩ := h
    rfl
  · skip
    obtain ⟨w, h, d, c, rfl, hw1, hw2, hh1, hh2, hd1, hd2, hc, q⟩ := h
    walk_at "go"
    refine cp_check_range (by omega) (by omega) ?_
    walk_at "go"
    refine cp_check_range (by omega) (by omega) ?_
    walk_at "go"
    refine cp_check_range (by omega) (by omega) ?_
    walk_at "go"
    refine Gx.tupP (by show 2 ≤ sizeLine; decide) fun p hp => ?_
    walk_at "go"
    refine Gx.inT (SqT.of upd_same) rfl ?_
    walk_at "go"
    refine Gx.if_n (by rcases hc with e | e <;> subst e <;> decide) ?_
    walk_at "go"
    exact q _ (Gx.same_new hp)

theorem cp_check_kind {w h d c : Nat} {H : Hp} {Q : VK} {E : XK} (hw1 : 1 ≤ w) (hw2 : w ≤ 64) (hh1 : 1 ≤ h) (hh2 : h ≤ 64) (hd1 : 1 ≤ d) (hd2 : d ≤ 8) (hc : c = 1 ∨ c = 3) (q : ∀ H', Same H H' → Q .non H') :
    Gx.CP sp_check_kind [.int (w : Int), .int (h : Int), .int (d : Int), .int (c : Int)] [] H Q E := ⟨w, h, d, c, rfl, hw1, hw2, hh1, hh2, hd1, hd2, hc, q⟩

def sp_Frame_init (C : Addr) : Sp := fun vs H Q _ => ∃ (H0 : Hp) (x dx : Addr) (w h d c t : Nat), vs = [.ref x, .int (w : Int), .int (h : Int), .int (d : Int), .int (c : Int), .int (t : Int)] ∧ H x = some (.ins C dx []) ∧ Same H0 H ∧ H0 x = none ∧
  1 ≤ w ∧ w ≤ 64 ∧ 1 ≤ h ∧ h ≤ 64 ∧ 1 ≤ d ∧ d ≤ 8 ∧ (c = 1 ∨ c = 3) ∧ 1 ≤ t ∧ t ≤ 16 ∧ w * h * c ≤ 3072 ∧ ∀ (H' : Hp), Same H0 H' → Frm C H' x w h d c t → Q .non H'

theorem sc_Frame___init__ : FnScope ["self", "width", "height", "depth", "channels", "tile"] ["self", "width", "height", "depth", "channels", "tile"] (defScope s_Frame___init__) := ⟨rfl, rfl, rfl, by decide +kernel, rfl, by decide +kernel, by decide +kernel⟩
theorem ok_Frame___init__ (T : Tx K mg) : FnOk P w K mg base CX0 5 T.Frame___init__.a T.Frame___init__.d ["self", "width", "height", "depth", "channels", "tile"] (sp_Frame_init T.a_Frame) := by
  refine T.Frame___init__.f.ok sc_Frame___init__ (fun vs H Q E h => ?_) (fun cdv A outer s H vs Q E hr h => ⟨_, pss_cons (ps_expr (pe_call (ok_check_kind T) (hr.mono (by decide)) rfl T.check_kind.g T.check_kind.f.kp T.check_kind.b .nil pass0 (pa_cons (pv 1) (pa_cons (pv 2) (pa_cons (pv 3) (pa_cons (pv 4) pa_nil))))))
      (pss_cons (ps_expr (pe_call (ok_check_range T) (hr.mono (by decide)) rfl T.check_range.g T.check_range.f.kp T.check_range.b .nil pass0 (pa_cons (pe_str) (pa_cons (pv 5) (pa_cons (pe_int) (pa_cons (pe_glob (v := .int 16) rfl T.c_TILE_MOST ⟨_, rfl⟩) pa_nil))))))
      (pss_cons (ps_expr (pe_call (ok_check_size T) (hr.mono (by decide)) rfl T.check_size.g T.check_size.f.kp T.check_size.b .nil pass0 (pa_cons (pv 1) (pa_cons (pv 2) (pa_cons (pv 4) pa_nil)))))
      (pss_cons (ps_fld (pv 0) (pv 1) rfl)
      (pss_cons (ps_fld (pv 0) (pv 2) rfl)
      (pss_cons (ps_fld (pv 0) (pv 3) rfl)
      (pss_cons (ps_fld (pv 0) (pv 4) rfl)
      (pss_one (ps_fld (pv 0) (pv 5) rfl)))))))), ?_⟩)
  · obtain ⟨H0, x, dx, w, h, d, c, t, rfl, _⟩ := h
    rfl
  · skip
    obtain ⟨H0, x, dx, w, h, d, c, t, rfl, hx, s0, h0, hw1, hw2, hh1, hh2, hd1, hd2, hc, ht1, ht2, hs, q⟩ := h
    walk_at "go"
    refine cp_check_kind hw1 hw2 hh1 hh2 hd1 hd2 hc fun H1 s1 => ?_
    walk_at "go"
    refine cp_check_range (by omega) (by omega) ?_
    walk_at "go"
    refine cp_check_size hw2 hh2 (by omega) hs ?_
    have hx := s1 _ _ hx
    have s0 := s0.trans s1
    walk_at "go"
    refine Gx.sfp hx T.cl_Frame T.na_Frame_width (by walk_at "few") rfl ?_
    walk_at "go"
    refine Gx.sfp upd_same T.cl_Frame T.na_Frame_height (by walk_at "few") rfl ?_
    walk_at "go"
    refine Gx.sfp upd_same T.cl_Frame T.na_Frame_depth (by walk_at "few") rfl ?_
    walk_at "go"
    refine Gx.sfp upd_same T.cl_Frame T.na_Frame_channels (by walk_at "few") rfl ?_
    walk_at "go"
    refine Gx.sfp upd_same T.cl_Frame T.na_Frame_tile (by walk_at "few") rfl ?_
    rw [upd_upd, upd_upd, upd_upd, upd_upd, ini_Frame]
    exact q _ (Gx.same_up h0 s0) ⟨dx, upd_same⟩


/-- some number from 0 on below the limit -/
def sp_law_mixed : Sp := fun vs H Q _ => ∃ (n k l : Int), vs = [.int n, .int k, .int l] ∧ 0 < l ∧ ∀ r, 0 ≤ r → r < l → Q (.int r) H

theorem sc_law_mixed : FnScope ["number", "k", "limit", "one", "two"] ["number", "k", "limit"] (defScope s_law_mixed) := ⟨rfl, rfl, rfl, by decide +kernel, rfl, by decide +kernel, by decide +kernel⟩
theorem ok_law_mixed (T : Tx K mg) : FnOk P w K mg base CX0 1 T.law_mixed.a T.law_mixed.d ["number", "k", "limit"] (sp_law_mixed) := by
  refine T.law_mixed.f.ok sc_law_mixed (fun vs H Q E h => ?_) (fun cdv A outer s H vs Q E hr h => ⟨_, pss_cons (ps_set (i := 3) sc_law_mixed.nd rfl (Or.inl rfl) (pe_op op_mod (pe_callTy Gx.c_int rfl T.n_int (by decide +kernel) (pa_cons (pe_op op_mul (pe_op op_add (pe_op op_add (pv 0) (pe_op op_mul (pe_int) (pv 1))) (pe_int)) (pe_int)) pa_nil)) (pe_int)))
      (pss_cons (ps_set (i := 4) sc_law_mixed.nd rfl (Or.inl rfl) (pe_op op_mod (pe_callTy Gx.c_int rfl T.n_int (by decide +kernel) (pa_cons (pe_op op_add (pe_op op_mul (pv 3) (pv 3)) (pe_op op_mul (pe_int) (pv 1))) pa_nil)) (pe_int)))
      (pss_one (ps_ret (pe_op op_mod (pe_op op_mod (pe_callTy Gx.c_int rfl T.n_int (by decide +kernel) (pa_cons (pe_op op_add (pe_op op_mul (pv 4) (pe_int)) (pv 3)) pa_nil)) (pe_int)) (pv 2))))), ?_⟩)
  · obtain ⟨n, k, l, rfl, _⟩ := h
    rfl
  · skip
    obtain ⟨n, k, l, rfl, hl, q⟩ := h
    walk_at "go"
    refine Gx.ic (.inl (by decide)) ?_
    walk_at "go"
    refine Gx.ic (.inr (by decide)) ?_
    walk_at "go"
    refine Gx.ic (by decide) ?_
    generalize e1 : ((n + 7 * k + 1) * 48271) % 2147483647 = one
    have h1 : 0 ≤ one ∧ one < 2147483647 := by omega
    walk_at "go"
    refine Gx.ic (.inl (by omega)) ?_
    walk_at "go"
    refine Gx.ic (.inl (by decide)) ?_
    walk_at "go"
    refine Gx.ic (by decide) ?_
    walk_at "go"
    refine Gx.ic (.inr (by decide)) ?_
    walk_at "go"
    refine Gx.ic (by decide) ?_
    walk_at "go"
    refine Gx.ic hl ?_
    exact q _ (Int.emod_nonneg _ (by omega)) (Int.emod_lt_of_pos _ hl)

theorem cp_law_mixed {n k l : Int} {H : Hp} {Q : VK} {E : XK} (hl : 0 < l) (q : ∀ r, 0 ≤ r → r < l → Q (.int r) H) : Gx.CP sp_law_mixed [.int n, .int k, .int l] [] H Q E := ⟨n, k, l, rfl, hl, q⟩

/-- a new list of so many numbers from 0 on below the limit -/
def sp_law_numbers : Sp := fun vs H Q _ => ∃ (c : Int) (n : Nat) (l : Int), vs = [.int c, .int (n : Int), .int l] ∧ 0 < l ∧ l < 1073741824 ∧ n ≤ 100000 ∧
  ∀ (xs : List Int) (p : Addr) (H' : Hp), xs.length = n → (∀ x ∈ xs, 0 ≤ x ∧ x < l) → H p = none → Same H H' → H' p = some (.lst (xs.map V.int)) → Q (.ref p) H'

theorem sc_law_numbers : FnScope ["cell", "count", "limit", "rest", "large", "numbers", "k"] ["cell", "count", "limit"] (defScope s_law_numbers) := ⟨rfl, rfl, rfl, by decide +kernel, rfl, by decide +kernel, by decide +kernel⟩
theorem ok_law_numbers (T : Tx K mg) : FnOk P w K mg base CX0 2 T.law_numbers.a T.law_numbers.d ["cell", "count", "limit"] (sp_law_numbers) := by
  refine T.law_numbers.f.ok sc_law_numbers (fun vs H Q E h => ?_) (fun cdv A outer s H vs Q E hr h => ⟨_, pss_cons (ps_set (i := 3) sc_law_numbers.nd rfl (Or.inl rfl) (pe_callB Gx.c_abs rfl T.n_abs (by decide +kernel) (pa_cons (pv 0) pa_nil)))
      (pss_cons (ps_set (i := 4) sc_law_numbers.nd rfl (Or.inl rfl) (pe_cmpR op_ge (pv 3) (pe_op op_pow (pe_int) (pe_int)) (nomark _)))
      (pss_cons (ps_set (i := 5) sc_law_numbers.nd rfl (Or.inl rfl) (pe_lst pa_nil))
      (pss_cons (ps_for PassesOwn.never rfl (pi_range1 rfl T.n_range (pa_cons (pv 1) pa_nil)) (pg_name (i := 6) sc_law_numbers.nd rfl (Or.inl rfl))
      (pss_one (ps_if (PW.pt (pw_and (pt_val (pv 4)) (pw_and1 (pt_cmpR op_gt (pv 3) (pe_int) (nomark _))))) (pss_cons (ps_expr (pe_bm PySem.F.plainAttrs_list PySem.F.slot_list_append PySem.F.type_list_append mt_append (pv 5) (pa_cons (pe_op op_mod (pe_callTy Gx.c_int rfl T.n_int (by decide +kernel) (pa_cons (pv 3) pa_nil)) (pv 2)) pa_nil)))
      (pss_one (ps_set (i := 3) sc_law_numbers.nd rfl (Or.inl rfl) (pe_op op_fdiv (pv 3) (pv 2))))) (pss_one (ps_expr (pe_bm PySem.F.plainAttrs_list PySem.F.slot_list_append PySem.F.type_list_append mt_append (pv 5) (pa_cons (pe_call (ok_law_mixed T) (hr.mono (by decide)) rfl T.law_mixed.g T.law_mixed.f.kp T.law_mixed.b .nil pass0 (pa_cons (pe_callB Gx.c_abs rfl T.n_abs (by decide +kernel) (pa_cons (pv 0) pa_nil)) (pa_cons (pv 6) (pa_cons (pv 2) pa_nil)))) pa_nil)))))))
      (pss_one (ps_ret (pv 5)))))), ?_⟩)
  · obtain ⟨c, n, l, rfl, _⟩ := h
    rfl
  · skip
    obtain ⟨c, n, l, rfl, h0, h1, hn, q⟩ := h
    walk_at "go"
    refine Gx.ic ⟨by decide, by decide, by decide⟩ ?_
    walk_at "go"
    refine Gx.lstP (Nat.zero_le _) fun p hp => ?_
    walk_at "go"
    refine Gx.r1 (by omega) (by omega) ?_
    refine Gx.fwR (fun i σ' H' => ∃ (xs : List Int) (r : Int) (b : Bool) (kv : Option V), xs.length = i ∧ (∀ x ∈ xs, 0 ≤ x ∧ x < l) ∧ H p = none ∧ Same H H' ∧ H' p = some (.lst (xs.map V.int)) ∧
      σ' = [some (.int c), some (.int (n : Int)), some (.int l), some (.int r), some (.bl b), some (.ref p), kv]) ?_ ?_ ?_
    · exact ⟨[], _, _, none, rfl, (fun _ z => nomatch z), hp, (fun b o e => by rw [upd_ne (ne_of_none e hp)]; exact e), upd_same, rfl⟩
    · rintro i σ' H' hi ⟨xs, r, b, kv, hx, hb, hp0, hs, hL, rfl⟩
      have hz : (xs.map V.int).length < sizeLine := by rw [List.length_map, sizeLine_eq]; omega
      have fin : ∀ (x : Int) (r' : Int) (kv' : Option V), 0 ≤ x → x < l → ∃ (ys : List Int) (r : Int) (b' : Bool) (kv : Option V), ys.length = i + 1 ∧ (∀ x ∈ ys, 0 ≤ x ∧ x < l) ∧ H p = none ∧ Same H (upd H' p (.lst (xs.map V.int ++ [.int x]))) ∧
          upd H' p (.lst (xs.map V.int ++ [.int x])) p = some (.lst (ys.map V.int)) ∧
          [some (V.int c), some (.int (n : Int)), some (.int l), some (.int r'), some (.bl b), some (.ref p), kv'] = [some (V.int c), some (.int (n : Int)), some (.int l), some (.int r), some (.bl b'), some (.ref p), kv] := by
        intro x r' kv' hx0 hx1
        refine ⟨xs ++ [x], r', b, kv', by rw [List.length_append, hx]; rfl, fun y hy => ?_, hp0, fun a o e => ?_, ?_, rfl⟩
        · rcases List.mem_append.mp hy with z | z
          · exact hb y z
          · rw [List.mem_singleton.mp z]; exact ⟨hx0, hx1⟩
        · rw [upd_ne (ne_of_none e hp0)]; exact hs a o e
        · rw [upd_same, List.map_append]; rfl
      walk_at "go"
      refine Gx.if_b (fun hb1 => ?_) (fun hb1 => ?_)
      · walk_at "go"
        refine Gx.if_d (fun hr1 => ?_) (fun hr1 => ?_)
        · walk_at "go"
          refine Gx.bmS (Gx.tyL (SqL.of hL)) ?_
          walk_at "go"
          refine Gx.ic h0 ?_
          walk_at "go"
          refine Gx.app hL hz ?_
          walk_at "go"
          refine Gx.ic ⟨h0, h1⟩ ?_
          walk_at "go"
          exact fin _ _ _ (Int.emod_nonneg _ (by omega)) (Int.emod_lt_of_pos _ h0)
        · walk_at "go"
          refine Gx.bmS (Gx.tyL (SqL.of hL)) ?_
          walk_at "go"
          refine cp_law_mixed h0 fun y hy0 hy1 => ?_
          walk_at "go"
          refine Gx.app hL hz ?_
          exact fin _ _ _ hy0 hy1
      · walk_at "go"
        refine Gx.bmS (Gx.tyL (SqL.of hL)) ?_
        walk_at "go"
        refine cp_law_mixed h0 fun y hy0 hy1 => ?_
        walk_at "go"
        refine Gx.app hL hz ?_
        exact fin _ _ _ hy0 hy1
    · rintro σ' H' ⟨xs, r, b, kv, hx, hb, hp0, hs, hL, rfl⟩
      walk_at "go"
      exact q xs p H' (by omega) hb hp0 hs hL

theorem cp_law_numbers {c n l : Int} {H : Hp} {Q : VK} {E : XK} (hn : 0 ≤ n ∧ n ≤ 100000) (h0 : 0 < l) (h1 : l < 1073741824)
    (q : ∀ (xs : List Int) (p : Addr) (H' : Hp), xs.length = n.toNat → (∀ x ∈ xs, 0 ≤ x ∧ x < l) → H p = none → Same H H' → H' p = some (.lst (xs.map V.int)) → Q (.ref p) H') : Gx.CP sp_law_numbers [.int c, .int n, .int l] [] H Q E :=
  ⟨c, n.toNat, l, by rw [List.append_nil, Int.toNat_of_nonneg hn.1], h0, h1, by omega, q⟩

/-- width, height, depth, channels, tile -/
def sp_law_sizes : Sp := fun vs H Q _ => ∃ (c : Int) (m : Nat), vs = [.int c, .int (m : Int)] ∧ 1 ≤ m ∧ m ≤ 64 ∧
  ∀ (w h d ch t : Nat) (p : Addr) (H' : Hp), 1 ≤ w ∧ w ≤ m ∧ 1 ≤ h ∧ h ≤ m ∧ 1 ≤ d ∧ d ≤ 8 ∧ (ch = 1 ∨ ch = 3) ∧ 1 ≤ t ∧ t ≤ 16 ∧ w * h * ch ≤ 3072 → H p = none → Same H H' → H' p = some (.lst [.int (w : Int), .int (h : Int), .int (d : Int), .int (ch : Int), .int (t : Int)]) → Q (.ref p) H'

theorem sc_law_sizes : FnScope ["cell", "most", "row", "channels", "width", "height"] ["cell", "most"] (defScope s_law_sizes) := ⟨rfl, rfl, rfl, by decide +kernel, rfl, by decide +kernel, by decide +kernel⟩
theorem ok_law_sizes (T : Tx K mg) : FnOk P w K mg base CX0 3 T.law_sizes.a T.law_sizes.d ["cell", "most"] (sp_law_sizes) := by
  refine T.law_sizes.f.ok sc_law_sizes (fun vs H Q E h => ?_) (fun cdv A outer s H vs Q E hr h => ⟨_, pss_cons (ps_set (i := 2) sc_law_sizes.nd rfl (Or.inl rfl) (pe_call (ok_law_numbers T) (hr.mono (by decide)) rfl T.law_numbers.g T.law_numbers.f.kp T.law_numbers.b .nil pass0 (pa_cons (pv 0) (pa_cons (pe_int) (pa_cons (pe_int) pa_nil)))))
      (pss_cons (ps_set (i := 3) sc_law_sizes.nd rfl (Or.inl rfl) (pe_op op_add (pe_int) (pe_op op_mul (pe_int) (pe_op op_mod (pe_ix ix_seq (pv 2) (pe_int) (fun _ _ => rfl)) (pe_int)))))
      (pss_cons (ps_set (i := 4) sc_law_sizes.nd rfl (Or.inl rfl) (pe_op op_add (pe_int) (pe_op op_mod (pe_ix ix_seq (pv 2) (pe_int) (fun _ _ => rfl)) (pv 1))))
      (pss_cons (ps_set (i := 5) sc_law_sizes.nd rfl (Or.inl rfl) (pe_callB (Gx.c_min2 rfl) rfl T.n_min (by decide +kernel) (pa_cons (pe_op op_add (pe_int) (pe_op op_mod (pe_ix ix_seq (pv 2) (pe_int) (fun _ _ => rfl)) (pv 1))) (pa_cons (pe_op op_fdiv (pe_int) (pe_op op_mul (pv 4) (pv 3))) pa_nil))))
      (pss_one (ps_ret (pe_lst (pa_cons (pv 4) (pa_cons (pv 5) (pa_cons (pe_op op_add (pe_int) (pe_op op_mod (pe_ix ix_seq (pv 2) (pe_int) (fun _ _ => rfl)) (pe_int))) (pa_cons (pv 3) (pa_cons (pe_op op_add (pe_int) (pe_op op_mod (pe_ix ix_seq (pv 2) (pe_int) (fun _ _ => rfl)) (pe_int))) pa_nil))))))))))), ?_⟩)
  · obtain ⟨c, m, rfl, _⟩ := h
    rfl
  · skip
    obtain ⟨c, m, rfl, hm1, hm2, q⟩ := h
    walk_at "go"
    refine cp_law_numbers (by decide) (by decide) (by decide) fun xs p H1 hl hb hp s1 hL => ?_
    obtain ⟨r0, r1, r2, r3, r4, rfl⟩ : ∃ r0 r1 r2 r3 r4 : Int, xs = [r0, r1, r2, r3, r4] := by
      match xs, hl with
      | [r0, r1, r2, r3, r4], _ => exact ⟨_, _, _, _, _, rfl⟩
    have b0 := hb r0 (by simp)
    have b1 := hb r1 (by simp)
    have b2 := hb r2 (by simp)
    have b3 := hb r3 (by simp)
    have b4 := hb r4 (by simp)
    obtain ⟨ch, hch, hc⟩ : ∃ ch : Nat, 1 + 2 * (r3 % 2) = (ch : Int) ∧ (ch = 1 ∨ ch = 3) := ⟨(1 + 2 * (r3 % 2)).toNat, by omega, by omega⟩
    obtain ⟨w, hw, hw1, hw2⟩ : ∃ w : Nat, 1 + r0 % (m : Int) = (w : Int) ∧ 1 ≤ w ∧ w ≤ m := by
      have e0 := Int.emod_nonneg r0 (show (m : Int) ≠ 0 by omega)
      have e1 := Int.emod_lt_of_pos r0 (show (0 : Int) < m by omega)
      exact ⟨(1 + r0 % (m : Int)).toNat, by omega, by omega, by omega⟩
    obtain ⟨g, hg, hg1, hg2⟩ : ∃ g : Nat, 1 + r1 % (m : Int) = (g : Int) ∧ 1 ≤ g ∧ g ≤ m := by
      have e0 := Int.emod_nonneg r1 (show (m : Int) ≠ 0 by omega)
      have e1 := Int.emod_lt_of_pos r1 (show (0 : Int) < m by omega)
      exact ⟨(1 + r1 % (m : Int)).toNat, by omega, by omega, by omega⟩
    obtain ⟨d, hd, hd1, hd2⟩ : ∃ d : Nat, 1 + r2 % 8 = (d : Int) ∧ 1 ≤ d ∧ d ≤ 8 := ⟨(1 + r2 % 8).toNat, by omega, by omega, by omega⟩
    obtain ⟨t, ht, ht1, ht2⟩ : ∃ t : Nat, 1 + r4 % 16 = (t : Int) ∧ 1 ≤ t ∧ t ≤ 16 := ⟨(1 + r4 % 16).toNat, by omega, by omega, by omega⟩
    have wc1 : w * ch ≤ 64 * 3 := Nat.mul_le_mul (by omega) (by omega)
    have wc0 : 0 < w * ch := Nat.mul_pos (by omega) (by omega)
    have q3 : 16 ≤ 3072 / (w * ch) := (Nat.le_div_iff_mul_le wc0).mpr (by omega)
    obtain ⟨h, hh, hh1, hh2, hh3⟩ : ∃ h : Nat, (if ((3072 / (w * ch) : Nat) : Int) < (g : Int) then ((3072 / (w * ch) : Nat) : Int) else (g : Int)) = (h : Int) ∧ 1 ≤ h ∧ h ≤ m ∧ h ≤ 3072 / (w * ch) := by
      generalize 3072 / (w * ch) = z at *
      by_cases e : ((z : Nat) : Int) < (g : Int)
      · exact ⟨z, by rw [if_pos e], by omega, by omega, by omega⟩
      · exact ⟨g, by rw [if_neg e], by omega, by omega, by omega⟩
    have big := Gd.room hh3 wc0
    have at' : ∀ {i : Nat} {z : Int}, [r0, r1, r2, r3, r4][i]? = some z → atI ([r0, r1, r2, r3, r4].map V.int) (i : Int) = some (.int z) := fun {i z} e => atI_nat (by rw [List.getElem?_map, e]; rfl)
    walk_at "go"
    refine Gx.ixL (SqL.of hL) (at' (i := 3) rfl) ?_
    walk_at "go"
    refine Gx.ic (by decide) ?_
    walk_at "go"
    refine Gx.ic (.inl (by decide)) ?_
    walk_at "go"
    rw [hch]
    refine Gx.ixL (SqL.of hL) (at' (i := 0) rfl) ?_
    walk_at "go"
    refine Gx.ic (show (0 : Int) < (m : Int) by omega) ?_
    walk_at "go"
    rw [hw]
    refine Gx.ixL (SqL.of hL) (at' (i := 1) rfl) ?_
    walk_at "go"
    refine Gx.ic (show (0 : Int) < (m : Int) by omega) ?_
    walk_at "go"
    rw [hg]
    refine Gx.ic (.inl (by omega)) ?_
    walk_at "go"
    rw [← Int.natCast_mul]
    refine Gx.ic ⟨by omega, by omega⟩ ?_
    walk_at "go"
    refine Gx.min2 ?_
    walk_at "go"
    rw [show (3072 : Int) / ((w * ch : Nat) : Int) = ((3072 / (w * ch) : Nat) : Int) from rfl, hh]
    refine Gx.ixL (SqL.of hL) (at' (i := 2) rfl) ?_
    walk_at "go"
    refine Gx.ic (by decide) ?_
    walk_at "go"
    refine Gx.ixL (SqL.of hL) (at' (i := 4) rfl) ?_
    walk_at "go"
    refine Gx.ic (by decide) ?_
    walk_at "go"
    rw [hd, ht]
    refine Gx.lstP (by show 5 ≤ sizeLine; decide) fun p2 hp2 => ?_
    exact q w h d ch t p2 _ ⟨hw1, hw2, hh1, hh2, hd1, hd2, hc, ht1, ht2, big⟩ (s1.free hp2) (Gx.same_up (s1.free hp2) s1) upd_same

theorem cp_law_sizes {c : Int} {m : Nat} {H : Hp} {Q : VK} {E : XK} (hm1 : 1 ≤ m) (hm2 : m ≤ 64)
    (q : ∀ (w h d ch t : Nat) (p : Addr) (H' : Hp), 1 ≤ w ∧ w ≤ m ∧ 1 ≤ h ∧ h ≤ m ∧ 1 ≤ d ∧ d ≤ 8 ∧ (ch = 1 ∨ ch = 3) ∧ 1 ≤ t ∧ t ≤ 16 ∧ w * h * ch ≤ 3072 → H p = none → Same H H' → H' p = some (.lst [.int (w : Int), .int (h : Int), .int (d : Int), .int (ch : Int), .int (t : Int)]) → Q (.ref p) H') :
    Gx.CP sp_law_sizes [.int c, .int (m : Int)] [] H Q E := ⟨c, m, rfl, hm1, hm2, q⟩

/-- a cell of the script, 0 beyond its end -/
def sp_law_cell (K : PySem.W.Frag) : Sp := fun vs H Q _ => ∃ (a : Addr) (ns : List Int) (k : Nat), vs = [.ref a, .int (k : Int)] ∧ SqL K H a (ns.map V.int) ∧ k < 100000 ∧ Q (.int (ns.getD k 0)) H

theorem sc_law_cell : FnScope ["script", "k"] ["script", "k"] (defScope s_law_cell) := ⟨rfl, rfl, rfl, by decide +kernel, rfl, by decide +kernel, by decide +kernel⟩
theorem ok_law_cell (T : Tx K mg) : FnOk P w K mg base CX0 1 T.law_cell.a T.law_cell.d ["script", "k"] (sp_law_cell K) := by
  refine T.law_cell.f.ok sc_law_cell (fun vs H Q E h => ?_) (fun cdv A outer s H vs Q E hr h => ⟨_, pss_cons (ps_if (pt_cmpR op_lt (pv 1) (pe_callB Gx.c_len rfl T.n_len (by decide +kernel) (pa_cons (pv 0) pa_nil)) (nomark _)) (pss_one (ps_ret (pe_ix ix_seq (pv 0) (pv 1) (fun _ _ => rfl)))) (pss_nil))
      (pss_one (ps_ret (pe_int))), ?_⟩)
  · obtain ⟨a, ns, k, rfl, _⟩ := h
    rfl
  · skip
    obtain ⟨a, ns, k, rfl, hs, hk, q⟩ := h
    walk_at "go"
    refine Gx.lenL hs ?_
    walk_at "go"
    refine Gx.if_d (fun hlt => ?_) (fun hge => ?_)
    · rw [List.length_map] at hlt
      walk_at "go"
      exact Gx.ixL hs (Gx.at_map (by omega)) q
    · rw [List.length_map] at hge
      walk_at "go"
      have e : ns.getD k 0 = 0 := by
        rw [List.getD_eq_getElem?_getD, List.getElem?_eq_none (by omega)]; rfl
      rw [e] at q
      exact q

theorem cp_law_cell {K : PySem.W.Frag} {a : Addr} {ns : List Int} {k : Int} {H : Hp} {Q : VK} {E : XK} (hs : SqL K H a (ns.map V.int)) (h0 : 0 ≤ k) (h1 : k < 100000) (q : ∀ z : Int, (z ∈ ns ∨ z = 0) → Q (.int z) H) : Gx.CP (sp_law_cell K) [.ref a, .int k] [] H Q E := by
  refine ⟨a, ns, k.toNat, by rw [List.append_nil, Int.toNat_of_nonneg h0], hs, by omega, q _ ?_⟩
  rw [List.getD_eq_getElem?_getD]
  by_cases h : k.toNat < ns.length
  · rw [List.getElem?_eq_getElem h]; exact .inl (List.getElem_mem h)
  · rw [List.getElem?_eq_none (by omega)]; exact .inr rfl


theorem sc_law : FnScope ["script", "sizes", "frame", "count", "seen", "tile", "pixels", "place", "pixel", "where"] ["script"] (defScope s_law) := ⟨rfl, rfl, rfl, by decide +kernel, rfl, by decide +kernel, by decide +kernel⟩
theorem ok_law (T : Tx K mg) : FnOk P w K mg base CX0 7 T.law.a T.law.d ["script"] (spLaw K) := by
  refine T.law.f.ok sc_law (fun vs H Q E h => ?_) (fun cdv A outer s H vs Q E hr h => ⟨_, pss_cons (ps_set (i := 1) sc_law.nd rfl (Or.inl rfl) (pe_call (ok_law_sizes T) (hr.mono (by decide)) rfl T.law_sizes.g T.law_sizes.f.kp T.law_sizes.b .nil pass0 (pa_cons (pe_call (ok_law_cell T) (hr.mono (by decide)) rfl T.law_cell.g T.law_cell.f.kp T.law_cell.b .nil pass0 (pa_cons (pv 0) (pa_cons (pe_int) pa_nil))) (pa_cons (pe_ifExp (pt_cmpR op_eq (pe_op op_mod (pe_call (ok_law_cell T) (hr.mono (by decide)) rfl T.law_cell.g T.law_cell.f.kp T.law_cell.b .nil pass0 (pa_cons (pv 0) (pa_cons (pe_int) pa_nil))) (pe_int)) (pe_int) (nomark _)) (pe_int) (pe_int)) pa_nil))))
      (pss_cons (ps_set (i := 2) sc_law.nd rfl (Or.inl rfl) (pe_make ⟨T.mk_Frame, T.Frame___init__.m.at_, T.Frame___init__.m.fn, T.kp_Frame⟩ (ok_Frame___init__ T) (hr.mono (by decide)) rfl T.g_Frame T.Frame___init__.b .nil pass0 (pa_cons (pe_ix ix_seq (pv 1) (pe_int) (fun _ _ => rfl)) (pa_cons (pe_ix ix_seq (pv 1) (pe_int) (fun _ _ => rfl)) (pa_cons (pe_ix ix_seq (pv 1) (pe_int) (fun _ _ => rfl)) (pa_cons (pe_ix ix_seq (pv 1) (pe_int) (fun _ _ => rfl)) (pa_cons (pe_ix ix_seq (pv 1) (pe_int) (fun _ _ => rfl)) pa_nil)))))))
      (pss_cons (ps_set (i := 3) sc_law.nd rfl (Or.inl rfl) (pe_op op_mul (pe_op op_fdiv (pe_op op_sub (pe_op op_add (pe_ix ix_seq (pv 1) (pe_int) (fun _ _ => rfl)) (pe_ix ix_seq (pv 1) (pe_int) (fun _ _ => rfl))) (pe_int)) (pe_ix ix_seq (pv 1) (pe_int) (fun _ _ => rfl))) (pe_op op_fdiv (pe_op op_sub (pe_op op_add (pe_ix ix_seq (pv 1) (pe_int) (fun _ _ => rfl)) (pe_ix ix_seq (pv 1) (pe_int) (fun _ _ => rfl))) (pe_int)) (pe_ix ix_seq (pv 1) (pe_int) (fun _ _ => rfl)))))
      (pss_cons (ps_set (i := 4) sc_law.nd rfl (Or.inl rfl) (pe_op Gx.o_rep (pe_lst (pa_cons (pe_int) pa_nil)) (pe_op op_mul (pe_ix ix_seq (pv 1) (pe_int) (fun _ _ => rfl)) (pe_ix ix_seq (pv 1) (pe_int) (fun _ _ => rfl)))))
      (pss_cons (ps_for PassesOwn.never rfl (pi_range1 rfl T.n_range (pa_cons (pv 3) pa_nil)) (pg_name (i := 5) sc_law.nd rfl (Or.inl rfl))
      (pss_cons (ps_set (i := 6) sc_law.nd rfl (Or.inl rfl) (pe_call (ok_tile_pixels T) (hr.mono (by decide)) rfl T.tile_pixels.g T.tile_pixels.f.kp T.tile_pixels.b .nil pass0 (pa_cons (pv 2) (pa_cons (pv 5) pa_nil))))
      (pss_cons (ps_if (PW.pt (pw_or (pt_not (pt_val (pe_call (ok_law_are_ints T) (hr.mono (by decide)) rfl T.law_are_ints.g T.law_are_ints.f.kp T.law_are_ints.b .nil pass0 (pa_cons (pv 6) pa_nil)))) (pw_or1 (pt_cmpR op_ne (pe_callB Gx.c_len rfl T.n_len (by decide +kernel) (pa_cons (pv 6) pa_nil)) (pe_op op_mul (pe_ix ix_seq (pe_call (ok_tile_size T) (hr.mono (by decide)) rfl T.tile_size.g T.tile_size.f.kp T.tile_size.b .nil pass0 (pa_cons (pv 2) (pa_cons (pv 5) pa_nil))) (pe_int) (fun _ _ => rfl)) (pe_ix ix_seq (pe_call (ok_tile_size T) (hr.mono (by decide)) rfl T.tile_size.g T.tile_size.f.kp T.tile_size.b .nil pass0 (pa_cons (pv 2) (pa_cons (pv 5) pa_nil))) (pe_int) (fun _ _ => rfl))) (nomark _))))) (pss_one (ps_ret (pe_bl))) (pss_nil))
      (pss_cons (ps_for PassesOwn.never rfl (pi_range1 rfl T.n_range (pa_cons (pe_callB Gx.c_len rfl T.n_len (by decide +kernel) (pa_cons (pv 6) pa_nil)) pa_nil)) (pg_name (i := 7) sc_law.nd rfl (Or.inl rfl))
      (pss_cons (ps_set (i := 8) sc_law.nd rfl (Or.inl rfl) (pe_ix ix_seq (pv 6) (pv 7) (fun _ _ => rfl)))
      (pss_cons (ps_if (PW.pt (pw_or (pt_cmpR op_lt (pv 8) (pe_int) (nomark _)) (pw_or (pt_cmpR op_ge (pv 8) (pe_callB Gx.c_len rfl T.n_len (by decide +kernel) (pa_cons (pv 4) pa_nil)) (nomark _)) (pw_or1 (PW.pt (pw_and (pt_cmpR op_gt (pv 7) (pe_int) (nomark _)) (pw_and1 (pt_cmpR op_le (pv 8) (pe_ix ix_seq (pv 6) (pe_op op_sub (pv 7) (pe_int)) (fun _ _ => rfl)) (nomark _))))))))) (pss_one (ps_ret (pe_bl))) (pss_nil))
      (pss_cons (ps_asg (pe_op op_add (pe_ix ix_seq (pv 4) (pv 8) (fun _ _ => rfl)) (pe_int)) (pg_sub (pv 4) (pv 8) set_list))
      (pss_cons (ps_set (i := 9) sc_law.nd rfl (Or.inl rfl) (pe_call (ok_locate_pixel T) (hr.mono (by decide)) rfl T.locate_pixel.g T.locate_pixel.f.kp T.locate_pixel.b .nil pass0 (pa_cons (pv 2) (pa_cons (pv 8) pa_nil))))
      (pss_cons (ps_if (PW.pt (pw_or (pt_not (pt_val (pe_callB call_isi rfl T.n_isinstance (by decide +kernel) (pa_cons (pv 9) (pa_cons (pe_bltn (v := .ty "tuple") rfl T.n_tuple (by decide +kernel) rfl) pa_nil))))) (pw_or (pt_cmpR op_ne (pe_callB Gx.c_len rfl T.n_len (by decide +kernel) (pa_cons (pv 9) pa_nil)) (pe_int) (nomark _)) (pw_or1 (pt_cmpR (op_neD hr.units) (pv 9) (pe_tup (pa_cons (pv 5) (pa_cons (pv 7) pa_nil))) (nomark _)))))) (pss_one (ps_ret (pe_bl))) (pss_nil))
      (pss_cons (ps_if (PW.pt (pw_or (pt_not (pt_val (pe_call (ok_law_is_int T) (hr.mono (by decide)) rfl T.law_is_int.g T.law_is_int.f.kp T.law_is_int.b .nil pass0 (pa_cons (pe_ix ix_seq (pv 9) (pe_int) (fun _ _ => rfl)) pa_nil)))) (pw_or1 (pt_not (pt_val (pe_call (ok_law_is_int T) (hr.mono (by decide)) rfl T.law_is_int.g T.law_is_int.f.kp T.law_is_int.b .nil pass0 (pa_cons (pe_ix ix_seq (pv 9) (pe_int) (fun _ _ => rfl)) pa_nil))))))) (pss_one (ps_ret (pe_bl))) (pss_nil))
      (pss_cons (ps_if (pt_cmpR op_ne (pe_op op_fdiv (pe_op op_fdiv (pv 8) (pe_ix ix_seq (pv 1) (pe_int) (fun _ _ => rfl))) (pe_ix ix_seq (pv 1) (pe_int) (fun _ _ => rfl))) (pe_op op_fdiv (pe_op op_fdiv (pe_ix ix_seq (pv 6) (pe_int) (fun _ _ => rfl)) (pe_ix ix_seq (pv 1) (pe_int) (fun _ _ => rfl))) (pe_ix ix_seq (pv 1) (pe_int) (fun _ _ => rfl))) (nomark _)) (pss_one (ps_ret (pe_bl))) (pss_nil))
      (pss_one (ps_if (pt_cmpR op_ne (pe_op op_fdiv (pe_op op_mod (pv 8) (pe_ix ix_seq (pv 1) (pe_int) (fun _ _ => rfl))) (pe_ix ix_seq (pv 1) (pe_int) (fun _ _ => rfl))) (pe_op op_fdiv (pe_op op_mod (pe_ix ix_seq (pv 6) (pe_int) (fun _ _ => rfl)) (pe_ix ix_seq (pv 1) (pe_int) (fun _ _ => rfl))) (pe_ix ix_seq (pv 1) (pe_int) (fun _ _ => rfl))) (nomark _)) (pss_one (ps_ret (pe_bl))) (pss_nil)))))))))))
      (pss_cons (ps_expr (pe_bm PySem.F.plainAttrs_list PySem.F.slot_list_append PySem.F.type_list_append mt_append (pv 6) (pa_cons (pe_un un_neg (pe_int)) pa_nil)))
      (pss_one (ps_if (pt_cmpR op_in_seq (pe_un un_neg (pe_int)) (pe_call (ok_tile_pixels T) (hr.mono (by decide)) rfl T.tile_pixels.g T.tile_pixels.f.kp T.tile_pixels.b .nil pass0 (pa_cons (pv 2) (pa_cons (pv 5) pa_nil))) (by rfl)) (pss_one (ps_ret (pe_bl))) (pss_nil))))))))
      (pss_one (ps_ret (pe_cmpR (op_eqD hr.units) (pv 4) (pe_op Gx.o_rep (pe_lst (pa_cons (pe_int) pa_nil)) (pe_callB Gx.c_len rfl T.n_len (by decide +kernel) (pa_cons (pv 4) pa_nil))) (nomark _)))))))), ?_⟩)
  · obtain ⟨a, ns, rfl, _⟩ := h
    rfl
  · skip
    obtain ⟨a, ns, rfl, hs, hlen, hbits, q⟩ := h
    walk_at "go"
    refine cp_law_cell hs (by decide) (by decide) fun c0 _ => ?_
    walk_at "go"
    refine cp_law_cell hs (by decide) (by decide) fun c1 _ => ?_
    walk_at "go"
    refine Gx.ic (by decide) ?_
    walk_at "go"
    refine Gx.if_two fun n hn => ?_
    obtain ⟨n, rfl⟩ : ∃ m : Nat, n = m := ⟨n.toNat, by omega⟩
    refine cp_law_sizes (by omega) (by omega) fun w h d ch t ps H1 hb hps s1 hL => ?_
    obtain ⟨hw1, hw2, hh1, hh2, hd1, hd2, hc, ht1, ht2, big⟩ := hb
    walk_at "go"
    refine Gx.ixL (SqL.of hL) (at_of (j := 0) rfl rfl) ?_
    walk_at "go"
    refine Gx.ixL (SqL.of hL) (at_of (j := 1) rfl rfl) ?_
    walk_at "go"
    refine Gx.ixL (SqL.of hL) (at_of (j := 2) rfl rfl) ?_
    walk_at "go"
    refine Gx.ixL (SqL.of hL) (at_of (j := 3) rfl rfl) ?_
    walk_at "go"
    refine Gx.ixL (SqL.of hL) (at_of (j := 4) rfl rfl) ?_
    walk_at "go"
    intro x dx hx hdx hne
    refine ⟨H1, x, dx, w, h, d, ch, t, rfl, upd_same, Gx.same_up hx (Gx.same_new hdx), hx, hw1, by omega, hh1, by omega, hd1, hd2, hc, ht1, ht2, big, fun H2 s2 fr => ⟨rfl, ?_⟩⟩
    have hL := s2 _ _ hL
    have w64 : w ≤ 64 := by omega
    have h64 : h ≤ 64 := by omega
    have w0 : 0 < w := hw1
    have t0 : 0 < t := ht1
    have l1 := Gd.ac_le (n := w) (t := t) t0
    have l2 := Gd.ac_le (n := h) (t := t) t0
    have p1 := Gd.ac_pos (n := w) (t := t) w0 t0
    have l4 : Gd.ac w t * Gd.ac h t ≤ 64 * 64 := Nat.mul_le_mul (by omega) (by omega)
    have l5 : w * h ≤ 64 * 64 := Nat.mul_le_mul w64 h64
    walk_at "go"
    refine Gx.ixL (SqL.of hL) (at_of (j := 0) rfl rfl) ?_
    walk_at "go"
    refine Gx.ixL (SqL.of hL) (at_of (j := 4) rfl rfl) ?_
    walk_at "go"
    refine Gx.ixL (SqL.of hL) (at_of (j := 4) rfl rfl) ?_
    walk_at "go"
    refine Gx.ic ⟨by omega, by omega⟩ ?_
    walk_at "go"
    refine Gx.ixL (SqL.of hL) (at_of (j := 1) rfl rfl) ?_
    walk_at "go"
    refine Gx.ixL (SqL.of hL) (at_of (j := 4) rfl rfl) ?_
    walk_at "go"
    refine Gx.ixL (SqL.of hL) (at_of (j := 4) rfl rfl) ?_
    walk_at "go"
    refine Gx.ic ⟨by omega, by omega⟩ ?_
    rw [Gd.ac_int t0, Gd.ac_int t0]
    refine Gx.ic (.inl (by omega)) ?_
    walk_at "go"
    rw [← Int.natCast_mul]
    refine Gx.lstP (by show 1 ≤ sizeLine; decide) fun p0 hp0 => ?_
    have s3 := Gx.same_new (o := .lst [.int 0]) hp0
    walk_at "go"
    refine Gx.ixL (SqL.of (s3 _ _ hL)) (at_of (j := 0) rfl rfl) ?_
    walk_at "go"
    refine Gx.ixL (SqL.of (s3 _ _ hL)) (at_of (j := 1) rfl rfl) ?_
    refine Gx.ic (.inl (by omega)) ?_
    rw [← Int.natCast_mul]
    refine Gx.repN upd_same (by omega) fun sn hsn => ?_
    rw [Gd.seen_nil w h t]
    have s4 := s3.trans (Gx.same_new (o := .lst ((Gd.seenV w h t 0 0).map V.int)) hsn)
    have hL := s4 _ _ hL
    have fr := fr.keep s4
    have snL : ps ≠ sn := fun e => by
      have := s3 _ _ (by assumption : H2 ps = some _)
      rw [e, hsn] at this; cases this
    have hsn0 := upd_same (H := upd H2 p0 (.lst [.int 0])) (a := sn) (o := .lst ((Gd.seenV w h t 0 0).map V.int))
    have xsn : x ≠ sn := by
      obtain ⟨dx, h1⟩ := fr
      exact ne_of h1 hsn0 (by intro z; cases z)
    generalize upd (upd H2 p0 (.lst [.int 0])) sn (.lst ((Gd.seenV w h t 0 0).map V.int)) = H6 at *
    have keepF : ∀ {H' : Hp}, Gd.Off sn H6 H' → Frm T.a_Frame H' x w h d ch t ∧ H' ps = some (.lst [.int (w : Int), .int (h : Int), .int (d : Int), .int (ch : Int), .int (t : Int)]) := fun {H'} o => by
      obtain ⟨dx, h1⟩ := fr
      exact ⟨⟨dx, o _ _ h1 xsn⟩, o _ _ hL snL⟩
    walk_at "go"
    refine Gx.r1 (by omega) (by omega) ?_
    rw [Int.toNat_natCast]
    refine Gx.fw walk_range (fun k σ' H' => Gd.Off sn H6 H' ∧ H' sn = some (.lst ((Gd.seenV w h t k 0).map V.int)) ∧ ∃ v1 v2 v3 v4 v5 : Option V, σ' = [some (.ref a), some (.ref ps), some (.ref x), some (.int (Gd.ac w t * Gd.ac h t : Nat)), some (.ref sn), v1, v2, v3, v4, v5]) ⟨fun _ _ e _ => e, hsn0, _, _, _, _, _, rfl⟩ (fun _ _ _ _ _ => trivial) ?_ ?_
    · rintro k y σ' H7 H7' hk ⟨o7, hs7, v1, v2, v3, v4, v5, rfl⟩ ⟨rfl, hy⟩
      have hy2 : y = .int (k : Int) := hy.trans (congrArg V.int (by omega))
      subst hy2
      obtain ⟨fr7, hL7⟩ := keepF o7
      have m1 : k % Gd.ac w t < Gd.ac w t := Nat.mod_lt _ p1
      have m2 : k / Gd.ac w t < Gd.ac h t := Nat.div_lt_of_lt_mul hk
      have sp1 := Gd.sd_pos (n := w) t0 m1
      have sp2 := Gd.sd_pos (n := h) t0 m2
      have sw : Gd.sd w t (k % Gd.ac w t) ≤ 16 := by unfold Gd.sd; omega
      have sh : Gd.sd h t (k / Gd.ac w t) ≤ 16 := by unfold Gd.sd; omega
      have L1 : Gd.sd h t (k / Gd.ac w t) * Gd.sd w t (k % Gd.ac w t) ≤ 16 * 16 := Nat.mul_le_mul sh sw
      have L0 : 0 < Gd.sd h t (k / Gd.ac w t) * Gd.sd w t (k % Gd.ac w t) := Nat.mul_pos sp2 sp1
      have flat : Gx.made (Gd.sd w t (k % Gd.ac w t)) (fun i j => .int (((k / Gd.ac w t * t + i) * w + (k % Gd.ac w t * t + j) : Nat) : Int)) (Gd.sd h t (k / Gd.ac w t)) = ((List.range (Gd.sd h t (k / Gd.ac w t) * Gd.sd w t (k % Gd.ac w t))).map fun m => ((Gd.pix w t k m : Nat) : Int)).map V.int := by
        rw [Gd.made_flat _ sp1, List.map_map]; rfl
      walk_at "go"
      refine cp_tile_pixels fr7 ht1 ht2 hw1 w64 hh1 h64 hk fun pp H8 hpp s8 hp8 => ?_
      rw [flat] at hp8
      obtain ⟨L, hLe⟩ : ∃ L, L = Gd.sd h t (k / Gd.ac w t) * Gd.sd w t (k % Gd.ac w t) := ⟨_, rfl⟩
      rw [← hLe] at hp8 L1 L0
      have tile := fun m (hm : m < L) => Gd.pix_tile (h := h) (m := m) w0 t0 hk (by rw [← hLe]; exact hm)
      have plt := fun m (hm : m < L) => Gd.pix_lt (h := h) (m := m) w0 t0 hk (by rw [← hLe]; exact hm)
      have four := fun m (hm : m < L) => Gd.pix_four (h := h) (m := m) w0 t0 hk (by rw [← hLe]; exact hm)
      have ppsn : pp ≠ sn := fun e => by rw [e, hs7] at hpp; cases hpp
      walk_at "go"
      refine cp_law_are_ints hp8 (by rw [List.length_map, List.length_range]; omega) fun H9 s9 => ?_
      have s79 := s8.trans s9
      have hp9 := s9 _ _ hp8
      walk_at "go"
      refine Gx.lenL (SqL.of hp9) ?_
      rw [List.length_map, List.length_map, List.length_range]
      walk_at "go"
      refine cp_tile_size (fr7.keep s79) ht1 ht2 hw1 w64 hh1 h64 hk fun q1 HA hq1 sA hA => ?_
      walk_at "go"
      refine Gx.ixT (SqT.of hA) (at_of (j := 0) rfl rfl) ?_
      walk_at "go"
      refine cp_tile_size (fr7.keep (s79.trans sA)) ht1 ht2 hw1 w64 hh1 h64 hk fun q2 HB hq2 sB hB => ?_
      walk_at "go"
      refine Gx.ixT (SqT.of hB) (at_of (j := 1) rfl rfl) ?_
      refine Gx.ic (.inl (by omega)) ?_
      walk_at "go"
      rw [← Int.natCast_mul, Nat.mul_comm (Gd.sd w t (k % Gd.ac w t)), ← hLe, decide_eq_true rfl]
      have s7B := s79.trans (sA.trans sB)
      have hpB := sB _ _ (sA _ _ hp9)
      have hsB := s7B _ _ hs7
      have oB : Gd.Off sn H6 HB := o7.trans (Gd.Off.of s7B)
      have getp : ∀ {m : Nat}, m < L → atI (((List.range L).map fun m => ((Gd.pix w t k m : Nat) : Int)).map V.int) (m : Int) = some (.int ((Gd.pix w t k m : Nat) : Int)) := fun {m} hm => atI_nat (by
        rw [List.getElem?_map, List.getElem?_map, List.getElem?_range hm]; rfl)
      walk_at "go"
      refine Gx.lenL (SqL.of hpB) ?_
      rw [List.length_map, List.length_map, List.length_range]
      walk_at "go"
      refine Gx.r1 (by omega) (by omega) ?_
      rw [Int.toNat_natCast]
      refine Gx.fw walk_range (fun m σ' H' => Gd.Off sn HB H' ∧ H' sn = some (.lst ((Gd.seenV w h t k m).map V.int)) ∧ ∃ v3 v4 v5 : Option V, σ' = [some (.ref a), some (.ref ps), some (.ref x), some (.int (Gd.ac w t * Gd.ac h t : Nat)), some (.ref sn), some (.int (k : Int)), some (.ref pp), v3, v4, v5]) ⟨fun _ _ e _ => e, hsB, _, _, _, rfl⟩ (fun _ _ _ _ _ => trivial) ?_ ?_
      · rintro m y σ' HC HC' hm ⟨oC, hsC, v3, v4, v5, rfl⟩ ⟨rfl, hy⟩
        have hy2 : y = .int (m : Int) := hy.trans (congrArg V.int (by omega))
        subst hy2
        obtain ⟨frC, hLC⟩ := keepF (oB.trans oC)
        have hpC := oC _ _ hpB ppsn
        have lt := plt m hm
        have v0 := Gd.sv_pix (h := h) (m := m) w0 t0 hk (by rw [← hLe]; exact hm)
        walk_at "go"
        refine Gx.ixL (SqL.of hpC) (getp hm) ?_
        walk_at "go"
        refine Gx.if_dno (by omega) ?_
        walk_at "go"
        refine Gx.lenL (SqL.of hsC) ?_
        rw [List.length_map, Gd.seen_len]
        walk_at "go"
        refine Gx.if_dno (by omega) ?_
        walk_at "go"
        refine Gx.if_andf (fun e q2 => ?_) ?_
        · have m0 : 0 < m := by have := of_decide_eq_true e; omega
          have mono := Gd.pix_mono (h := h) (m := m - 1) w0 t0 hk (by rw [← hLe]; omega)
          rw [show m - 1 + 1 = m by omega] at mono
          walk_at "go"
          rw [show (m : Int) - 1 = ((m - 1 : Nat) : Int) by omega]
          refine Gx.ixL (SqL.of hpC) (getp (show m - 1 < L by omega)) ?_
          walk_at "go"
          rw [show decide (((Gd.pix w t k m : Nat) : Int) ≤ ((Gd.pix w t k (m - 1) : Nat) : Int)) = false from decide_eq_false (by omega)]
          exact q2
        have hlen : ((Gd.seenV w h t k m).map V.int).length = w * h := by rw [List.length_map, Gd.seen_len]
        walk_at "go"
        refine Gx.ixL (SqL.of hsC) (Gx.at_map (by rw [Gd.seen_len]; exact lt)) ?_
        rw [Gd.seen_get lt, v0]
        walk_at "go"
        refine Gx.setL (j := Gd.pix w t k m) hsC (by rw [hlen]; unfold ixN; rw [if_pos (by omega), if_pos (by omega)]; rfl) ?_
        rw [show (0 : Int) + 1 = 1 from rfl, Gd.seen_step w0 t0 hk (by rw [← hLe]; exact hm)]
        have oD : Gd.Off sn HB (upd HC' sn (.lst ((Gd.seenV w h t k (m + 1)).map V.int))) := oC.up
        have hsD := upd_same (H := HC') (a := sn) (o := .lst ((Gd.seenV w h t k (m + 1)).map V.int))
        generalize upd HC' sn (.lst ((Gd.seenV w h t k (m + 1)).map V.int)) = HD at *
        walk_at "go"
        refine cp_locate_pixel (keepF (oB.trans oD)).1 ht1 ht2 hw1 w64 hh1 h64 lt fun pw HE sE hE => ?_
        rw [(tile m hm).1, (tile m hm).2] at hE
        walk_at "go"
        refine Gx.isi (.base (.tup hE)) ?_ (kit_ty (by decide +kernel : kitB "tuple" "tuple" = some true))
        walk_at "go"
        refine Gx.lenT (SqT.of hE) ?_
        walk_at "go"
        rw [show decide ((([V.int (k : Int), .int (m : Int)].length : Nat) : Int) = 2) = true from rfl]
        walk_at "go"
        refine Gx.tupP (by show 2 ≤ sizeLine; decide) fun pz hpz => ?_
        have sF := Gx.same_new (o := .tup [.int (k : Int), .int (m : Int)]) hpz
        walk_at "go"
        refine Gx.neDT (xs := [(k : Int), (m : Int)]) (ys := [(k : Int), (m : Int)]) (SqT.of (sF _ _ hE)) (SqT.of upd_same) ?_
        rw [decide_eq_true rfl]
        have hE := sF _ _ hE
        have oF := oD.trans (Gd.Off.of (sE.trans sF))
        have hsF := (sE.trans sF) _ _ hsD
        generalize upd HE pz (.tup [.int (k : Int), .int (m : Int)]) = HF at *
        have hLF := (keepF (oB.trans oF)).2
        have hpF := oF _ _ hpB ppsn
        walk_at "go"
        refine Gx.ixT (SqT.of hE) (at_of (j := 0) rfl rfl) ?_
        walk_at "go"
        refine cp_law_is_int ?_
        walk_at "go"
        refine Gx.ixT (SqT.of hE) (at_of (j := 1) rfl rfl) ?_
        walk_at "go"
        refine cp_law_is_int ?_
        walk_at "go"
        refine Gx.ixL (SqL.of hLF) (at_of (j := 0) rfl rfl) ?_
        refine Gx.ic ⟨by omega, by omega⟩ ?_
        walk_at "go"
        refine Gx.ixL (SqL.of hLF) (at_of (j := 4) rfl rfl) ?_
        refine Gx.ic ⟨by omega, by omega⟩ ?_
        walk_at "go"
        refine Gx.ixL (SqL.of hpF) (getp (m := 0) L0) ?_
        walk_at "go"
        refine Gx.ixL (SqL.of hLF) (at_of (j := 0) rfl rfl) ?_
        refine Gx.ic ⟨by omega, by omega⟩ ?_
        walk_at "go"
        refine Gx.ixL (SqL.of hLF) (at_of (j := 4) rfl rfl) ?_
        refine Gx.ic ⟨by omega, by omega⟩ ?_
        walk_at "go"
        have e1 : ∀ u : Nat, (u : Int) / (w : Int) / (t : Int) = ((u / w / t : Nat) : Int) := fun u => by rw [Int.natCast_ediv, Int.natCast_ediv]
        have e2 : ∀ u : Nat, (u : Int) % (w : Int) / (t : Int) = ((u % w / t : Nat) : Int) := fun u => by rw [Int.natCast_ediv, Int.natCast_emod]
        rw [e1, e1, (four m hm).1, (four 0 L0).1, decide_eq_true rfl]
        walk_at "go"
        refine Gx.ixL (SqL.of hLF) (at_of (j := 0) rfl rfl) ?_
        refine Gx.ic (show (0 : Int) < (w : Int) by omega) ?_
        walk_at "go"
        refine Gx.ixL (SqL.of hLF) (at_of (j := 4) rfl rfl) ?_
        refine Gx.ic ⟨by omega, by omega⟩ ?_
        walk_at "go"
        refine Gx.ixL (SqL.of hpF) (getp (m := 0) L0) ?_
        walk_at "go"
        refine Gx.ixL (SqL.of hLF) (at_of (j := 0) rfl rfl) ?_
        refine Gx.ic (show (0 : Int) < (w : Int) by omega) ?_
        walk_at "go"
        refine Gx.ixL (SqL.of hLF) (at_of (j := 4) rfl rfl) ?_
        refine Gx.ic ⟨by omega, by omega⟩ ?_
        walk_at "go"
        rw [e2, e2, (four m hm).2.2.1, (four 0 L0).2.2.1, decide_eq_true rfl]
        walk_at "go"
        exact ⟨oF, hsF, _, _, _, rfl⟩
      · rintro σ' HC ⟨oC, hsC, v3, v4, v5, rfl⟩
        have hpC := oC _ _ hpB ppsn
        have frC := (keepF (oB.trans oC)).1
        walk_at "go"
        refine Gx.bmS (Gx.tyL (SqL.of hpC)) ?_
        walk_at "go"
        refine Gx.app hpC (by rw [List.length_map, List.length_map, List.length_range, sizeLine_eq]; omega) ?_
        have oD : Gd.Off sn H6 (upd HC pp (.lst (((List.range L).map fun m => ((Gd.pix w t k m : Nat) : Int)).map V.int ++ [.int (-1)]))) := fun b o e nb => by
          have e7 := o7 b o e nb
          rw [upd_ne (ne_of_none e7 hpp)]
          exact (oB.trans oC) b o e nb
        have hsD : upd HC pp (.lst (((List.range L).map fun m => ((Gd.pix w t k m : Nat) : Int)).map V.int ++ [.int (-1)])) sn = some (.lst ((Gd.seenV w h t (k + 1) 0).map V.int)) := by
          rw [upd_ne ppsn.symm, hsC, hLe, Gd.seen_tile w0 t0 hk]
        generalize upd HC pp (.lst (((List.range L).map fun m => ((Gd.pix w t k m : Nat) : Int)).map V.int ++ [.int (-1)])) = HD at *
        walk_at "go"
        refine cp_tile_pixels (keepF oD).1 ht1 ht2 hw1 w64 hh1 h64 hk fun p9 HE hp9 sE hE => ?_
        rw [flat] at hE
        walk_at "go"
        refine Gx.inL (SqL.of hE) (Gx.flat_ints _) ?_
        walk_at "go"
        refine Gx.if_n (by
          rw [Gx.notin_ints _ (fun y hy => by
            obtain ⟨m, _, rfl⟩ := List.mem_map.mp hy
            omega)]; rfl) ?_
        walk_at "go"
        exact ⟨oD.trans (Gd.Off.of sE), sE _ _ hsD, _, _, _, _, _, rfl⟩
    · rintro σ' H7 ⟨o7, hs7, v1, v2, v3, v4, v5, rfl⟩
      walk_at "go"
      refine Gx.lstP (by show 1 ≤ sizeLine; decide) fun q1 hq1 => ?_
      have hs8 := Gx.same_new (o := .lst [.int 1]) hq1 _ _ hs7
      walk_at "go"
      refine Gx.lenL (SqL.of hs8) ?_
      rw [List.length_map, Gd.seen_len]
      refine Gx.repN upd_same (by omega) fun q2 hq2 => ?_
      have hs9 := Gx.same_new (o := .lst (List.replicate (w * h) (.int 1))) hq2 _ _ hs8
      rw [Gd.seen_all w0 t0] at hs9
      refine Gx.eqDI (xs := List.replicate (w * h) 1) (ys := List.replicate (w * h) 1) (SqL.of hs9) (SqL.of (by rw [upd_same, List.map_replicate])) ?_
      rw [decide_eq_true rfl]
      exact q _


end
theorem all_mk {l : PySem.W.OpenLaw} {w : World} {K : PySem.W.Frag} {h : Heap} {mg : Str → Option Value} {fa : Addr} (X : K.In h) (G : h.Ns mainGlobals mg) (hfa : mg "law" = some (.ref fa))
    {C_Frame : Addr}
    {f_Frame_across : Addr} {od_Frame_across an_Frame_across : Option Addr} {sl_Frame_across : Array (Option Value)} {oc_Frame_across kV_Frame_across dc_Frame_across pm_Frame_across cd_Frame_across ct_Frame_across : Value}
    {f_tile_corner : Addr} {od_tile_corner an_tile_corner : Option Addr} {sl_tile_corner : Array (Option Value)} {oc_tile_corner kV_tile_corner dc_tile_corner pm_tile_corner cd_tile_corner ct_tile_corner : Value}
    {f_tile_size : Addr} {od_tile_size an_tile_size : Option Addr} {sl_tile_size : Array (Option Value)} {oc_tile_size kV_tile_size dc_tile_size pm_tile_size cd_tile_size ct_tile_size : Value}
    {f_tile_pixels : Addr} {od_tile_pixels an_tile_pixels : Option Addr} {sl_tile_pixels : Array (Option Value)} {oc_tile_pixels kV_tile_pixels dc_tile_pixels pm_tile_pixels cd_tile_pixels ct_tile_pixels : Value}
    {f_law_is_int : Addr} {od_law_is_int an_law_is_int : Option Addr} {sl_law_is_int : Array (Option Value)} {oc_law_is_int kV_law_is_int dc_law_is_int pm_law_is_int cd_law_is_int ct_law_is_int : Value}
    {f_locate_pixel : Addr} {od_locate_pixel an_locate_pixel : Option Addr} {sl_locate_pixel : Array (Option Value)} {oc_locate_pixel kV_locate_pixel dc_locate_pixel pm_locate_pixel cd_locate_pixel ct_locate_pixel : Value}
    {f_law_are_ints : Addr} {od_law_are_ints an_law_are_ints : Option Addr} {sl_law_are_ints : Array (Option Value)} {oc_law_are_ints kV_law_are_ints dc_law_are_ints pm_law_are_ints cd_law_are_ints ct_law_are_ints : Value}
    {f_check_size : Addr} {od_check_size an_check_size : Option Addr} {sl_check_size : Array (Option Value)} {oc_check_size kV_check_size dc_check_size pm_check_size cd_check_size ct_check_size : Value}
    {f_check_range : Addr} {od_check_range an_check_range : Option Addr} {sl_check_range : Array (Option Value)} {oc_check_range kV_check_range dc_check_range pm_check_range cd_check_range ct_check_range : Value}
    {f_check_kind : Addr} {od_check_kind an_check_kind : Option Addr} {sl_check_kind : Array (Option Value)} {oc_check_kind kV_check_kind dc_check_kind pm_check_kind cd_check_kind ct_check_kind : Value}
    {f_Frame___init__ : Addr} {od_Frame___init__ an_Frame___init__ : Option Addr} {sl_Frame___init__ : Array (Option Value)} {oc_Frame___init__ kV_Frame___init__ dc_Frame___init__ pm_Frame___init__ cd_Frame___init__ ct_Frame___init__ : Value}
    {f_law_mixed : Addr} {od_law_mixed an_law_mixed : Option Addr} {sl_law_mixed : Array (Option Value)} {oc_law_mixed kV_law_mixed dc_law_mixed pm_law_mixed cd_law_mixed ct_law_mixed : Value}
    {f_law_numbers : Addr} {od_law_numbers an_law_numbers : Option Addr} {sl_law_numbers : Array (Option Value)} {oc_law_numbers kV_law_numbers dc_law_numbers pm_law_numbers cd_law_numbers ct_law_numbers : Value}
    {f_law_sizes : Addr} {od_law_sizes an_law_sizes : Option Addr} {sl_law_sizes : Array (Option Value)} {oc_law_sizes kV_law_sizes dc_law_sizes pm_law_sizes cd_law_sizes ct_law_sizes : Value}
    {f_law_cell : Addr} {od_law_cell an_law_cell : Option Addr} {sl_law_cell : Array (Option Value)} {oc_law_cell kV_law_cell dc_law_cell pm_law_cell cd_law_cell ct_law_cell : Value}
    {f_law : Addr} {od_law an_law : Option Addr} {sl_law : Array (Option Value)} {oc_law kV_law dc_law pm_law cd_law ct_law : Value}
    {t_DEPTH_MOST : Tok}
    {t_SIDE_MOST : Tok}
    {t_TILE_MOST : Tok}
    {t_VALUES_MOST : Tok}
    (g_Frame : PySem.W.nsIn K mainGlobals "Frame" = some (some (.ref C_Frame)))
    (pg_Frame : PySem.W.plainGet K C_Frame Str.empty = true)
    (hd_Frame : PySem.W.hasDictIn K C_Frame = true)
    (po_Frame : PySem.W.plainOver K C_Frame = true)
    (sa_Frame : PySem.W.findIn K (.ref C_Frame) "__setattr__" = some (some (.builtin "object.__setattr__")))
    (mk_Frame : PySem.W.makesIn K C_Frame = true)
    (kc_Frame : PySem.W.keepIn K (.ref C_Frame) = true)
    (na_Frame_width : PySem.W.findIn K (.ref C_Frame) "width" = some none)
    (na_Frame_height : PySem.W.findIn K (.ref C_Frame) "height" = some none)
    (na_Frame_depth : PySem.W.findIn K (.ref C_Frame) "depth" = some none)
    (na_Frame_channels : PySem.W.findIn K (.ref C_Frame) "channels" = some none)
    (na_Frame_tile : PySem.W.findIn K (.ref C_Frame) "tile" = some none)
    (a_Frame_across : PySem.W.findIn K (.ref C_Frame) "across" = some (some (.ref f_Frame_across)))
    (i_Frame_across : PySem.W.isFn K (.ref f_Frame_across) = true)
    (l_Frame_across : K.lookup f_Frame_across = some ⟨oc_Frame_across, od_Frame_across, .func (PySem.W.fnOf "across" "Frame.across" (defArgs s_Frame_across) (defBody s_Frame_across) (defScope s_Frame_across) .none kV_Frame_across dc_Frame_across pm_Frame_across an_Frame_across cd_Frame_across ct_Frame_across), sl_Frame_across⟩)
    (c_Frame_across : PySem.W.codeIn K cd_Frame_across "Frame.across" = true)
    (k_Frame_across : PySem.W.keepIn K (.ref f_Frame_across) = true)
    (a_tile_corner : PySem.W.nsIn K mainGlobals "tile_corner" = some (some (.ref f_tile_corner)))
    (l_tile_corner : K.lookup f_tile_corner = some ⟨oc_tile_corner, od_tile_corner, .func (PySem.W.fnOf "tile_corner" "tile_corner" (defArgs s_tile_corner) (defBody s_tile_corner) (defScope s_tile_corner) .none kV_tile_corner dc_tile_corner pm_tile_corner an_tile_corner cd_tile_corner ct_tile_corner), sl_tile_corner⟩)
    (c_tile_corner : PySem.W.codeIn K cd_tile_corner "tile_corner" = true)
    (k_tile_corner : PySem.W.keepIn K (.ref f_tile_corner) = true)
    (a_tile_size : PySem.W.nsIn K mainGlobals "tile_size" = some (some (.ref f_tile_size)))
    (l_tile_size : K.lookup f_tile_size = some ⟨oc_tile_size, od_tile_size, .func (PySem.W.fnOf "tile_size" "tile_size" (defArgs s_tile_size) (defBody s_tile_size) (defScope s_tile_size) .none kV_tile_size dc_tile_size pm_tile_size an_tile_size cd_tile_size ct_tile_size), sl_tile_size⟩)
    (c_tile_size : PySem.W.codeIn K cd_tile_size "tile_size" = true)
    (k_tile_size : PySem.W.keepIn K (.ref f_tile_size) = true)
    (a_tile_pixels : PySem.W.nsIn K mainGlobals "tile_pixels" = some (some (.ref f_tile_pixels)))
    (l_tile_pixels : K.lookup f_tile_pixels = some ⟨oc_tile_pixels, od_tile_pixels, .func (PySem.W.fnOf "tile_pixels" "tile_pixels" (defArgs s_tile_pixels) (defBody s_tile_pixels) (defScope s_tile_pixels) .none kV_tile_pixels dc_tile_pixels pm_tile_pixels an_tile_pixels cd_tile_pixels ct_tile_pixels), sl_tile_pixels⟩)
    (c_tile_pixels : PySem.W.codeIn K cd_tile_pixels "tile_pixels" = true)
    (k_tile_pixels : PySem.W.keepIn K (.ref f_tile_pixels) = true)
    (a_law_is_int : PySem.W.nsIn K mainGlobals "_law_is_int" = some (some (.ref f_law_is_int)))
    (l_law_is_int : K.lookup f_law_is_int = some ⟨oc_law_is_int, od_law_is_int, .func (PySem.W.fnOf "_law_is_int" "_law_is_int" (defArgs s_law_is_int) (defBody s_law_is_int) (defScope s_law_is_int) .none kV_law_is_int dc_law_is_int pm_law_is_int an_law_is_int cd_law_is_int ct_law_is_int), sl_law_is_int⟩)
    (c_law_is_int : PySem.W.codeIn K cd_law_is_int "_law_is_int" = true)
    (k_law_is_int : PySem.W.keepIn K (.ref f_law_is_int) = true)
    (a_locate_pixel : PySem.W.nsIn K mainGlobals "locate_pixel" = some (some (.ref f_locate_pixel)))
    (l_locate_pixel : K.lookup f_locate_pixel = some ⟨oc_locate_pixel, od_locate_pixel, .func (PySem.W.fnOf "locate_pixel" "locate_pixel" (defArgs s_locate_pixel) (defBody s_locate_pixel) (defScope s_locate_pixel) .none kV_locate_pixel dc_locate_pixel pm_locate_pixel an_locate_pixel cd_locate_pixel ct_locate_pixel), sl_locate_pixel⟩)
    (c_locate_pixel : PySem.W.codeIn K cd_locate_pixel "locate_pixel" = true)
    (k_locate_pixel : PySem.W.keepIn K (.ref f_locate_pixel) = true)
    (a_law_are_ints : PySem.W.nsIn K mainGlobals "_law_are_ints" = some (some (.ref f_law_are_ints)))
    (l_law_are_ints : K.lookup f_law_are_ints = some ⟨oc_law_are_ints, od_law_are_ints, .func (PySem.W.fnOf "_law_are_ints" "_law_are_ints" (defArgs s_law_are_ints) (defBody s_law_are_ints) (defScope s_law_are_ints) .none kV_law_are_ints dc_law_are_ints pm_law_are_ints an_law_are_ints cd_law_are_ints ct_law_are_ints), sl_law_are_ints⟩)
    (c_law_are_ints : PySem.W.codeIn K cd_law_are_ints "_law_are_ints" = true)
    (k_law_are_ints : PySem.W.keepIn K (.ref f_law_are_ints) = true)
    (a_check_size : PySem.W.nsIn K mainGlobals "check_size" = some (some (.ref f_check_size)))
    (l_check_size : K.lookup f_check_size = some ⟨oc_check_size, od_check_size, .func (PySem.W.fnOf "check_size" "check_size" (defArgs s_check_size) (defBody s_check_size) (defScope s_check_size) .none kV_check_size dc_check_size pm_check_size an_check_size cd_check_size ct_check_size), sl_check_size⟩)
    (c_check_size : PySem.W.codeIn K cd_check_size "check_size" = true)
    (k_check_size : PySem.W.keepIn K (.ref f_check_size) = true)
    (a_check_range : PySem.W.nsIn K mainGlobals "check_range" = some (some (.ref f_check_range)))
    (l_check_range : K.lookup f_check_range = some ⟨oc_check_range, od_check_range, .func (PySem.W.fnOf "check_range" "check_range" (defArgs s_check_range) (defBody s_check_range) (defScope s_check_range) .none kV_check_range dc_check_range pm_check_range an_check_range cd_check_range ct_check_range), sl_check_range⟩)
    (c_check_range : PySem.W.codeIn K cd_check_range "check_range" = true)
    (k_check_range : PySem.W.keepIn K (.ref f_check_range) = true)
    (a_check_kind : PySem.W.nsIn K mainGlobals "check_kind" = some (some (.ref f_check_kind)))
    (l_check_kind : K.lookup f_check_kind = some ⟨oc_check_kind, od_check_kind, .func (PySem.W.fnOf "check_kind" "check_kind" (defArgs s_check_kind) (defBody s_check_kind) (defScope s_check_kind) .none kV_check_kind dc_check_kind pm_check_kind an_check_kind cd_check_kind ct_check_kind), sl_check_kind⟩)
    (c_check_kind : PySem.W.codeIn K cd_check_kind "check_kind" = true)
    (k_check_kind : PySem.W.keepIn K (.ref f_check_kind) = true)
    (a_Frame___init__ : PySem.W.findIn K (.ref C_Frame) "__init__" = some (some (.ref f_Frame___init__)))
    (i_Frame___init__ : PySem.W.isFn K (.ref f_Frame___init__) = true)
    (l_Frame___init__ : K.lookup f_Frame___init__ = some ⟨oc_Frame___init__, od_Frame___init__, .func (PySem.W.fnOf "__init__" "Frame.__init__" (defArgs s_Frame___init__) (defBody s_Frame___init__) (defScope s_Frame___init__) .none kV_Frame___init__ dc_Frame___init__ pm_Frame___init__ an_Frame___init__ cd_Frame___init__ ct_Frame___init__), sl_Frame___init__⟩)
    (c_Frame___init__ : PySem.W.codeIn K cd_Frame___init__ "Frame.__init__" = true)
    (k_Frame___init__ : PySem.W.keepIn K (.ref f_Frame___init__) = true)
    (a_law_mixed : PySem.W.nsIn K mainGlobals "_law_mixed" = some (some (.ref f_law_mixed)))
    (l_law_mixed : K.lookup f_law_mixed = some ⟨oc_law_mixed, od_law_mixed, .func (PySem.W.fnOf "_law_mixed" "_law_mixed" (defArgs s_law_mixed) (defBody s_law_mixed) (defScope s_law_mixed) .none kV_law_mixed dc_law_mixed pm_law_mixed an_law_mixed cd_law_mixed ct_law_mixed), sl_law_mixed⟩)
    (c_law_mixed : PySem.W.codeIn K cd_law_mixed "_law_mixed" = true)
    (k_law_mixed : PySem.W.keepIn K (.ref f_law_mixed) = true)
    (a_law_numbers : PySem.W.nsIn K mainGlobals "_law_numbers" = some (some (.ref f_law_numbers)))
    (l_law_numbers : K.lookup f_law_numbers = some ⟨oc_law_numbers, od_law_numbers, .func (PySem.W.fnOf "_law_numbers" "_law_numbers" (defArgs s_law_numbers) (defBody s_law_numbers) (defScope s_law_numbers) .none kV_law_numbers dc_law_numbers pm_law_numbers an_law_numbers cd_law_numbers ct_law_numbers), sl_law_numbers⟩)
    (c_law_numbers : PySem.W.codeIn K cd_law_numbers "_law_numbers" = true)
    (k_law_numbers : PySem.W.keepIn K (.ref f_law_numbers) = true)
    (a_law_sizes : PySem.W.nsIn K mainGlobals "_law_sizes" = some (some (.ref f_law_sizes)))
    (l_law_sizes : K.lookup f_law_sizes = some ⟨oc_law_sizes, od_law_sizes, .func (PySem.W.fnOf "_law_sizes" "_law_sizes" (defArgs s_law_sizes) (defBody s_law_sizes) (defScope s_law_sizes) .none kV_law_sizes dc_law_sizes pm_law_sizes an_law_sizes cd_law_sizes ct_law_sizes), sl_law_sizes⟩)
    (c_law_sizes : PySem.W.codeIn K cd_law_sizes "_law_sizes" = true)
    (k_law_sizes : PySem.W.keepIn K (.ref f_law_sizes) = true)
    (a_law_cell : PySem.W.nsIn K mainGlobals "_law_cell" = some (some (.ref f_law_cell)))
    (l_law_cell : K.lookup f_law_cell = some ⟨oc_law_cell, od_law_cell, .func (PySem.W.fnOf "_law_cell" "_law_cell" (defArgs s_law_cell) (defBody s_law_cell) (defScope s_law_cell) .none kV_law_cell dc_law_cell pm_law_cell an_law_cell cd_law_cell ct_law_cell), sl_law_cell⟩)
    (c_law_cell : PySem.W.codeIn K cd_law_cell "_law_cell" = true)
    (k_law_cell : PySem.W.keepIn K (.ref f_law_cell) = true)
    (a_law : PySem.W.nsIn K mainGlobals "law" = some (some (.ref f_law)))
    (l_law : K.lookup f_law = some ⟨oc_law, od_law, .func (PySem.W.fnOf "law" "law" (defArgs s_law) (defBody s_law) (defScope s_law) .none kV_law dc_law pm_law an_law cd_law ct_law), sl_law⟩)
    (c_law : PySem.W.codeIn K cd_law "law" = true)
    (k_law : PySem.W.keepIn K (.ref f_law) = true)
    (n_abs : PySem.W.nsIn K mainGlobals "abs" = some none)
    (n_all : PySem.W.nsIn K mainGlobals "all" = some none)
    (n_bool : PySem.W.nsIn K mainGlobals "bool" = some none)
    (n_int : PySem.W.nsIn K mainGlobals "int" = some none)
    (n_isinstance : PySem.W.nsIn K mainGlobals "isinstance" = some none)
    (n_len : PySem.W.nsIn K mainGlobals "len" = some none)
    (n_list : PySem.W.nsIn K mainGlobals "list" = some none)
    (n_min : PySem.W.nsIn K mainGlobals "min" = some none)
    (n_range : PySem.W.nsIn K mainGlobals "range" = some none)
    (n_tuple : PySem.W.nsIn K mainGlobals "tuple" = some none)
    (c_DEPTH_MOST : PySem.W.nsIn K mainGlobals "DEPTH_MOST" = some (some (.int 8 t_DEPTH_MOST)))
    (c_SIDE_MOST : PySem.W.nsIn K mainGlobals "SIDE_MOST" = some (some (.int 64 t_SIDE_MOST)))
    (c_TILE_MOST : PySem.W.nsIn K mainGlobals "TILE_MOST" = some (some (.int 16 t_TILE_MOST)))
    (c_VALUES_MOST : PySem.W.nsIn K mainGlobals "VALUES_MOST" = some (some (.int 3072 t_VALUES_MOST))) :
    ∃ fd : FuncData, (∀ (s : Shared) (v : Value), BindsTo s fd ⟨[v], []⟩ [("script", v)]) ∧ ∀ base : Heap, K.In base → base.Ns mainGlobals mg → FnOk l.prog w K mg base CX0 7 fa fd ["script"] (spLaw K) := by
  have e := hfa.symm.trans (PySem.W.mg_of X G a_law)
  cases e
  have F_Frame_across := fun_mk (st := s_Frame_across) l_Frame_across c_Frame_across k_Frame_across
  have F_tile_corner := fun_mk (st := s_tile_corner) l_tile_corner c_tile_corner k_tile_corner
  have F_tile_size := fun_mk (st := s_tile_size) l_tile_size c_tile_size k_tile_size
  have F_tile_pixels := fun_mk (st := s_tile_pixels) l_tile_pixels c_tile_pixels k_tile_pixels
  have F_law_is_int := fun_mk (st := s_law_is_int) l_law_is_int c_law_is_int k_law_is_int
  have F_locate_pixel := fun_mk (st := s_locate_pixel) l_locate_pixel c_locate_pixel k_locate_pixel
  have F_law_are_ints := fun_mk (st := s_law_are_ints) l_law_are_ints c_law_are_ints k_law_are_ints
  have F_check_size := fun_mk (st := s_check_size) l_check_size c_check_size k_check_size
  have F_check_range := fun_mk (st := s_check_range) l_check_range c_check_range k_check_range
  have F_check_kind := fun_mk (st := s_check_kind) l_check_kind c_check_kind k_check_kind
  have F_Frame___init__ := fun_mk (st := s_Frame___init__) l_Frame___init__ c_Frame___init__ k_Frame___init__
  have F_law_mixed := fun_mk (st := s_law_mixed) l_law_mixed c_law_mixed k_law_mixed
  have F_law_numbers := fun_mk (st := s_law_numbers) l_law_numbers c_law_numbers k_law_numbers
  have F_law_sizes := fun_mk (st := s_law_sizes) l_law_sizes c_law_sizes k_law_sizes
  have F_law_cell := fun_mk (st := s_law_cell) l_law_cell c_law_cell k_law_cell
  have F_law := fun_mk (st := s_law) l_law c_law k_law
  exact ⟨PySem.W.fnOf "law" "law" (defArgs s_law) (defBody s_law) (defScope s_law) .none kV_law dc_law pm_law an_law cd_law ct_law, fun s v => .of_eq rfl, fun base _ _ => ok_law (mg := mg) {
    a_Frame := C_Frame,
    cl_Frame := ⟨pg_Frame, hd_Frame, po_Frame, sa_Frame⟩,
    g_Frame := PySem.W.mg_of X G g_Frame,
    mk_Frame := mk_Frame,
    kp_Frame := kc_Frame,
    na_Frame_width := na_Frame_width,
    na_Frame_height := na_Frame_height,
    na_Frame_depth := na_Frame_depth,
    na_Frame_channels := na_Frame_channels,
    na_Frame_tile := na_Frame_tile,
    Frame_across := ⟨_, _, F_Frame_across, F_Frame_across.binds fun _ _ _ _ _ _ us hl => match us, hl with | [_], _ => rfl, ⟨a_Frame_across, i_Frame_across, k_Frame_across⟩⟩,
    tile_corner := ⟨_, _, F_tile_corner, PySem.W.mg_of X G a_tile_corner, F_tile_corner.binds fun _ _ _ _ _ _ us hl => match us, hl with | [_, _], _ => rfl⟩,
    tile_size := ⟨_, _, F_tile_size, PySem.W.mg_of X G a_tile_size, F_tile_size.binds fun _ _ _ _ _ _ us hl => match us, hl with | [_, _], _ => rfl⟩,
    tile_pixels := ⟨_, _, F_tile_pixels, PySem.W.mg_of X G a_tile_pixels, F_tile_pixels.binds fun _ _ _ _ _ _ us hl => match us, hl with | [_, _], _ => rfl⟩,
    law_is_int := ⟨_, _, F_law_is_int, PySem.W.mg_of X G a_law_is_int, F_law_is_int.binds fun _ _ _ _ _ _ us hl => match us, hl with | [_], _ => rfl⟩,
    locate_pixel := ⟨_, _, F_locate_pixel, PySem.W.mg_of X G a_locate_pixel, F_locate_pixel.binds fun _ _ _ _ _ _ us hl => match us, hl with | [_, _], _ => rfl⟩,
    law_are_ints := ⟨_, _, F_law_are_ints, PySem.W.mg_of X G a_law_are_ints, F_law_are_ints.binds fun _ _ _ _ _ _ us hl => match us, hl with | [_], _ => rfl⟩,
    check_size := ⟨_, _, F_check_size, PySem.W.mg_of X G a_check_size, F_check_size.binds fun _ _ _ _ _ _ us hl => match us, hl with | [_, _, _], _ => rfl⟩,
    check_range := ⟨_, _, F_check_range, PySem.W.mg_of X G a_check_range, F_check_range.binds fun _ _ _ _ _ _ us hl => match us, hl with | [_, _, _, _], _ => rfl⟩,
    check_kind := ⟨_, _, F_check_kind, PySem.W.mg_of X G a_check_kind, F_check_kind.binds fun _ _ _ _ _ _ us hl => match us, hl with | [_, _, _, _], _ => rfl⟩,
    Frame___init__ := ⟨_, _, F_Frame___init__, F_Frame___init__.binds fun _ _ _ _ _ _ us hl => match us, hl with | [_, _, _, _, _, _], _ => rfl, ⟨a_Frame___init__, i_Frame___init__, k_Frame___init__⟩⟩,
    law_mixed := ⟨_, _, F_law_mixed, PySem.W.mg_of X G a_law_mixed, F_law_mixed.binds fun _ _ _ _ _ _ us hl => match us, hl with | [_, _, _], _ => rfl⟩,
    law_numbers := ⟨_, _, F_law_numbers, PySem.W.mg_of X G a_law_numbers, F_law_numbers.binds fun _ _ _ _ _ _ us hl => match us, hl with | [_, _, _], _ => rfl⟩,
    law_sizes := ⟨_, _, F_law_sizes, PySem.W.mg_of X G a_law_sizes, F_law_sizes.binds fun _ _ _ _ _ _ us hl => match us, hl with | [_, _], _ => rfl⟩,
    law_cell := ⟨_, _, F_law_cell, PySem.W.mg_of X G a_law_cell, F_law_cell.binds fun _ _ _ _ _ _ us hl => match us, hl with | [_, _], _ => rfl⟩,
    law := ⟨_, _, F_law, PySem.W.mg_of X G a_law, F_law.binds fun _ _ _ _ _ _ us hl => match us, hl with | [_], _ => rfl⟩,
    n_abs := PySem.W.mg_none_of X G n_abs,
    n_all := PySem.W.mg_none_of X G n_all,
    n_bool := PySem.W.mg_none_of X G n_bool,
    n_int := PySem.W.mg_none_of X G n_int,
    n_isinstance := PySem.W.mg_none_of X G n_isinstance,
    n_len := PySem.W.mg_none_of X G n_len,
    n_list := PySem.W.mg_none_of X G n_list,
    n_min := PySem.W.mg_none_of X G n_min,
    n_range := PySem.W.mg_none_of X G n_range,
    n_tuple := PySem.W.mg_none_of X G n_tuple,
    t_DEPTH_MOST := t_DEPTH_MOST,
    c_DEPTH_MOST := PySem.W.mg_of X G c_DEPTH_MOST,
    t_SIDE_MOST := t_SIDE_MOST,
    c_SIDE_MOST := PySem.W.mg_of X G c_SIDE_MOST,
    t_TILE_MOST := t_TILE_MOST,
    c_TILE_MOST := PySem.W.mg_of X G c_TILE_MOST,
    t_VALUES_MOST := t_VALUES_MOST,
    c_VALUES_MOST := PySem.W.mg_of X G c_VALUES_MOST }⟩
theorem walk {l : PySem.W.OpenLaw} {q : Program} {loose : List Str} {XP : (Str → Option Value) → Heap → Prop} {YP : World → Heap → Prop} {d : DefRec} {K : Params → PySem.W.Frag} (hn : l.most = some 63) (hdf : d.params.defaults = [])
    (hY : ∀ (w : World) (h : Heap), YP w h → (K w.params).In h)
    (F : ∀ (w : World) (mg : Str → Option Value) (fa : Addr) (h : Heap), (K w.params).In h → h.Ns mainGlobals mg → mg d.name = some (.ref fa) →
      ∃ fd : FuncData, (∀ (s : Shared) (u : Value), BindsTo s fd ⟨[u], []⟩ [("script", u)]) ∧ ∀ base : Heap, (K w.params).In base → base.Ns mainGlobals mg → FnOk l.prog w (K w.params) mg base CX0 7 fa fd ["script"] (spLaw (K w.params))) :
    PySem.W.WalkO q loose XP YP l.row.toRowW d [] (fun f vs => PySem.call f vs) :=
  L2.walk_ofB (n := 63) (k := 7) (x := "script") (CX := fun _ => CX0) (sp := fun w => spLaw (K w.params)) hn (by decide) hdf ⟨rfl, by decide, by decide⟩ hY F (fun _ _ a ns hl hb _ hS => ⟨a, ns, rfl, hS, hl, hb, fun _ => rfl⟩) fun _ _ _ _ _ z => z
end My
open PySem PySem.W PyProof.Rows
set_option maxRecDepth 100000 in
set_option maxHeartbeats 0 in
theorem PySem.Challenge.cw_packetpicture_k03_whole_tiles_part_the_p_holds : PySem.Challenge.rw_packetpicture_k03_whole_tiles_part_the_p.Holds := by
  w_on; o_law; k_head; (case hw => w_witness2)
  k_fill
  refine My.walk (l := PySem.Challenge.rw_packetpicture_k03_whole_tiles_part_the_p) rfl rfl (fun w h Y => PySem.W.kIn_of Y) ?F
  case F =>
    intro w mg fa h KX G hmg
    refine' My.all_mk KX G hmg ?g_Frame ?pg_Frame ?hd_Frame ?po_Frame ?sa_Frame ?mk_Frame ?kc_Frame ?na_Frame_width ?na_Frame_height ?na_Frame_depth ?na_Frame_channels ?na_Frame_tile ?a_Frame_across ?i_Frame_across ?l_Frame_across ?c_Frame_across ?k_Frame_across ?a_tile_corner ?l_tile_corner ?c_tile_corner ?k_tile_corner ?a_tile_size ?l_tile_size ?c_tile_size ?k_tile_size ?a_tile_pixels ?l_tile_pixels ?c_tile_pixels ?k_tile_pixels ?a_law_is_int ?l_law_is_int ?c_law_is_int ?k_law_is_int ?a_locate_pixel ?l_locate_pixel ?c_locate_pixel ?k_locate_pixel ?a_law_are_ints ?l_law_are_ints ?c_law_are_ints ?k_law_are_ints ?a_check_size ?l_check_size ?c_check_size ?k_check_size ?a_check_range ?l_check_range ?c_check_range ?k_check_range ?a_check_kind ?l_check_kind ?c_check_kind ?k_check_kind ?a_Frame___init__ ?i_Frame___init__ ?l_Frame___init__ ?c_Frame___init__ ?k_Frame___init__ ?a_law_mixed ?l_law_mixed ?c_law_mixed ?k_law_mixed ?a_law_numbers ?l_law_numbers ?c_law_numbers ?k_law_numbers ?a_law_sizes ?l_law_sizes ?c_law_sizes ?k_law_sizes ?a_law_cell ?l_law_cell ?c_law_cell ?k_law_cell ?a_law ?l_law ?c_law ?k_law ?n_abs ?n_all ?n_bool ?n_int ?n_isinstance ?n_len ?n_list ?n_min ?n_range ?n_tuple ?c_DEPTH_MOST ?c_SIDE_MOST ?c_TILE_MOST ?c_VALUES_MOST
    (case g_Frame => k_is)
    (case pg_Frame => k_is)
    (case hd_Frame => k_is)
    (case po_Frame => k_is)
    (case sa_Frame => k_is)
    (case mk_Frame => k_is)
    (case kc_Frame => k_is)
    (case na_Frame_width => k_is)
    (case na_Frame_height => k_is)
    (case na_Frame_depth => k_is)
    (case na_Frame_channels => k_is)
    (case na_Frame_tile => k_is)
    (case a_Frame_across => k_is)
    (case i_Frame_across => k_is)
    (case l_Frame_across => k_is)
    (case c_Frame_across => k_is)
    (case k_Frame_across => k_is)
    (case a_tile_corner => k_is)
    (case l_tile_corner => k_is)
    (case c_tile_corner => k_is)
    (case k_tile_corner => k_is)
    (case a_tile_size => k_is)
    (case l_tile_size => k_is)
    (case c_tile_size => k_is)
    (case k_tile_size => k_is)
    (case a_tile_pixels => k_is)
    (case l_tile_pixels => k_is)
    (case c_tile_pixels => k_is)
    (case k_tile_pixels => k_is)
    (case a_law_is_int => k_is)
    (case l_law_is_int => k_is)
    (case c_law_is_int => k_is)
    (case k_law_is_int => k_is)
    (case a_locate_pixel => k_is)
    (case l_locate_pixel => k_is)
    (case c_locate_pixel => k_is)
    (case k_locate_pixel => k_is)
    (case a_law_are_ints => k_is)
    (case l_law_are_ints => k_is)
    (case c_law_are_ints => k_is)
    (case k_law_are_ints => k_is)
    (case a_check_size => k_is)
    (case l_check_size => k_is)
    (case c_check_size => k_is)
    (case k_check_size => k_is)
    (case a_check_range => k_is)
    (case l_check_range => k_is)
    (case c_check_range => k_is)
    (case k_check_range => k_is)
    (case a_check_kind => k_is)
    (case l_check_kind => k_is)
    (case c_check_kind => k_is)
    (case k_check_kind => k_is)
    (case a_Frame___init__ => k_is)
    (case i_Frame___init__ => k_is)
    (case l_Frame___init__ => k_is)
    (case c_Frame___init__ => k_is)
    (case k_Frame___init__ => k_is)
    (case a_law_mixed => k_is)
    (case l_law_mixed => k_is)
    (case c_law_mixed => k_is)
    (case k_law_mixed => k_is)
    (case a_law_numbers => k_is)
    (case l_law_numbers => k_is)
    (case c_law_numbers => k_is)
    (case k_law_numbers => k_is)
    (case a_law_sizes => k_is)
    (case l_law_sizes => k_is)
    (case c_law_sizes => k_is)
    (case k_law_sizes => k_is)
    (case a_law_cell => k_is)
    (case l_law_cell => k_is)
    (case c_law_cell => k_is)
    (case k_law_cell => k_is)
    (case a_law => k_is)
    (case l_law => k_is)
    (case c_law => k_is)
    (case k_law => k_is)
    (case n_abs => k_is)
    (case n_all => k_is)
    (case n_bool => k_is)
    (case n_int => k_is)
    (case n_isinstance => k_is)
    (case n_len => k_is)
    (case n_list => k_is)
    (case n_min => k_is)
    (case n_range => k_is)
    (case n_tuple => k_is)
    (case c_DEPTH_MOST => k_is)
    (case c_SIDE_MOST => k_is)
    (case c_TILE_MOST => k_is)
    (case c_VALUES_MOST => k_is)
