import PyProof.Rows.All
import Wide.All
import OpenK.AllK
import Wide.FinOn
import HandS.ForMost
import HandS.EndBits
import HandS.IsInst
import HandS.Conv
import HandS.RevRange
import HandS.Walk
import HandS.Wide
import PySem.Challenge.RW_packetpicture_k11_gray_bits_and_values
set_option Elab.async false
set_option linter.all false
set_option maxRecDepth 100000
set_option maxHeartbeats 4000000
/-! Steps of a reading, one lemma a construct; `walk_at "go"` tries them one after another. -/
namespace Gx
open PySem L2
section
variable {K : PySem.W.Frag} {σ : L2.St} {H : Hp} {Q : VK} {D : Ends} {ta tb te to ti tv : TE} {t u : TT} {tr : TA} {tu tw : TS} {x y z v : V} {i j : Int} {B : Bool → Hp → Prop} {A1 A2 : Prop} {b : Bool}
/-- a test's answer; a branch -/
def TB (x : V) (H : Hp) (Q : Bool → Hp → Prop) : Prop := ∃ k, x = .bl k ∧ Q k H
def IfP (c : Bool) (A B : Prop) : Prop := if c = true then A else B
theorem tB_ (q : TB (.bl b) H B ) : TB (.bl b) H B := q
theorem tb_go (q : B b H) : TB (.bl b) H B := ⟨b, rfl, q⟩
theorem if_t (q : A1) : IfP true A1 A2 := by unfold IfP; rw [if_pos rfl]; exact q
theorem if_f (q : A2) : IfP false A1 A2 := by unfold IfP; rw [if_neg Bool.false_ne_true]; exact q
theorem if_nt (q : A2) : IfP (!true) A1 A2 := if_f q
theorem if_nf (q : A1) : IfP (!false) A1 A2 := if_t q
theorem if_y {c : Bool} (h : c = true) (q : A1) : IfP c A1 A2 := by subst h; exact if_t q
theorem if_n {c : Bool} (h : c = false) (q : A2) : IfP c A1 A2 := by subst h; exact if_f q
theorem if_b {c : Bool} (q1 : c = true → A1) (q2 : c = false → A2) : IfP c A1 A2 := by
  cases c with
  | true => exact if_t (q1 rfl)
  | false => exact if_f (q2 rfl)
theorem if_d {p : Prop} [Decidable p] (q1 : p → A1) (q2 : ¬ p → A2) : IfP (decide p) A1 A2 := if_b (fun h => q1 (of_decide_eq_true h)) (fun h => q2 (of_decide_eq_false h))
theorem if_dn {p : Prop} [Decidable p] (q1 : ¬ p → A1) (q2 : p → A2) : IfP (!decide p) A1 A2 := by
  by_cases h : p
  · rw [decide_eq_true h]; exact if_f (q2 h)
  · rw [decide_eq_false h]; exact if_t (q1 h)
theorem if_andc {c d : Bool} {X : Prop} {B : Bool → Hp → Prop} {H : Hp} (h : B d H → X) (q : B (c && d) H) : IfP c X (B false H) := by
  cases c with
  | true => exact if_t (h q)
  | false => exact if_f q
theorem if_orc {c d : Bool} {X : Prop} {B : Bool → Hp → Prop} {H : Hp} (h : B d H → X) (q : B (c || d) H) : IfP c (B true H) X := by
  cases c with
  | true => exact if_t q
  | false => exact if_f (h q)
theorem if_dy {p : Prop} [Decidable p] (h : p) (q : A1) : IfP (decide p) A1 A2 := if_y (decide_eq_true h) q
theorem if_dno {p : Prop} [Decidable p] (h : ¬ p) (q : A2) : IfP (decide p) A1 A2 := if_n (decide_eq_false h) q
theorem if_two {c : Bool} {x y : Int} {σ : L2.St} {H : Hp} {Q' : VK} (q : ∀ n, (n = x ∨ n = y) → Q' (.int n) H) : IfP c (tC (.int x) σ H Q') (tC (.int y) σ H Q') := if_b (fun _ => q x (.inl rfl)) (fun _ => q y (.inr rfl))
/-- names, constants -/
theorem var {i : Nat} (h : σ[i]? = some (some v)) (q : Q v H) : tVar i σ H Q := ⟨v, h, q⟩
theorem cst (q : Q v H) : tC v σ H Q := q
/-- operators -/
theorem op {r : R2} (q : ta σ H fun x H1 => tb σ H1 fun y H2 => r x y H2 Q) : tOp r ta tb σ H Q := q
theorem un {r : V → Hp → VK → Prop} (q : ta σ H fun x H1 => r x H1 Q) : tUn r ta σ H Q := q
theorem i0 {g : Int → Int → V} (q : Q (g i j) H) : rI0 g (.int i) (.int j) H Q := ⟨i, j, rfl, rfl, q⟩
theorem ic {C : Int → Int → Prop} {g : Int → Int → V} (c : C i j) (q : Q (g i j) H) : rI C g (.int i) (.int j) H Q := ⟨i, j, rfl, rfl, c, q⟩
theorem uu {g : Int → V} (q : Q (g i) H) : rU g (.int i) H Q := ⟨i, rfl, q⟩
theorem eqv (q : Q (.bl (decide (x = y))) H) (h : scal x y = true := by rfl) : rEq x y H Q := ⟨h, q⟩
theorem nev (q : Q (.bl (!decide (x = y))) H) (h : scal x y = true := by rfl) : rNe x y H Q := ⟨h, q⟩
theorem eqI {p : Int} {q' : Int} : decide (V.int p = V.int q') = decide (p = q') := by simp
theorem eqS {p q' : Str} : decide (V.str p = V.str q') = decide (p = q') := by simp
theorem eqvI (q : Q (.bl (decide (i = j))) H) : rEq (.int i) (.int j) H Q := eqv (by rw [eqI]; exact q)
theorem nevI (q : Q (.bl (!decide (i = j))) H) : rNe (.int i) (.int j) H Q := nev (by rw [eqI]; exact q)
theorem eqvS {a b : Str} (q : Q (.bl (decide (a = b))) H) : rEq (.str a) (.str b) H Q := eqv (by rw [eqS]; exact q)
theorem nevS {a b : Str} (q : Q (.bl (!decide (a = b))) H) : rNe (.str a) (.str b) H Q := nev (by rw [eqS]; exact q)
/-- tests -/
theorem test (q : te σ H fun x H1 => TB x H1 B) : tTest te σ H B := q
theorem tB (q : te σ H fun x H1 => TB x H1 B) : L2.tB te σ H B := q
theorem and_ (q : t σ H fun c H1 => IfP c (u σ H1 B) (B false H1)) : tAnd t u σ H B := q
theorem or_ (q : t σ H fun c H1 => IfP c (B true H1) (u σ H1 B)) : tOr t u σ H B := q
theorem not_ (q : t σ H fun c H1 => B (!c) H1) : tNot t σ H B := q
theorem ifx (q : t σ H fun c H1 => IfP c (ta σ H1 Q) (tb σ H1 Q)) : tIf t ta tb σ H Q := q
/-- and, or, not as values -/
def BV (x : V) (H : Hp) (Q : Bool → Hp → Prop) : Prop := ∃ c, x = .bl c ∧ Q c H
theorem bv_go (q : B b H) : BV (.bl b) H B := ⟨b, rfl, q⟩
theorem andV (q : ta σ H fun x H1 => BV x H1 fun c H1 => IfP c (tb σ H1 Q) (Q (.bl false) H1)) : tAndV ta tb σ H Q := q
theorem orV (q : ta σ H fun x H1 => BV x H1 fun c H1 => IfP c (Q (.bl true) H1) (tb σ H1 Q)) : tOrV ta tb σ H Q := q
theorem notV (q : ta σ H fun x H1 => BV x H1 fun c H1 => Q (.bl (!c)) H1) : tNotV ta σ H Q := q
/-- argument lists, displays -/
theorem nil {R : List V → Hp → Prop} (q : R [] H) : tNil σ H R := q
theorem cons {R : List V → Hp → Prop} (q : ta σ H fun x H1 => tr σ H1 fun xs H2 => R (x :: xs) H2) : tCons ta tr σ H R := q
/-- a new object -/
def NewP (H : Hp) (o : HO) (Q : VK) : Prop := ∀ p, H p = none → Q (.ref p) (upd H p o)
def LstP (xs : List V) (H : Hp) (Q : VK) : Prop := xs.length ≤ sizeLine ∧ NewP H (.lst xs) Q
def TupP (xs : List V) (H : Hp) (Q : VK) : Prop := xs.length ≤ sizeLine ∧ NewP H (.tup xs) Q
theorem lst (q : tr σ H fun xs H1 => LstP xs H1 Q) : tLst tr σ H Q := q
theorem tup (q : tr σ H fun xs H1 => TupP xs H1 Q) : tTup tr σ H Q := q
theorem lstP {xs : List V} (h : xs.length ≤ sizeLine) (q : ∀ p, H p = none → Q (.ref p) (upd H p (.lst xs))) : LstP xs H Q := ⟨h, q⟩
theorem tupP {xs : List V} (h : xs.length ≤ sizeLine) (q : ∀ p, H p = none → Q (.ref p) (upd H p (.tup xs))) : TupP xs H Q := ⟨h, q⟩
/-- calls -/
def CP (sp : Sp) (vs dvs : List V) (H : Hp) (Q : VK) (E : XK) : Prop := sp (vs ++ dvs) H Q E
theorem call {sp : Sp} {dvs : List V} {E : XK} (q : tr σ H fun vs H1 => CP sp vs dvs H1 Q E) : tCall sp dvs E tr σ H Q := q
theorem cb {r : List V → Hp → VK → Prop} (q : tr σ H fun vs H1 => r vs H1 Q) : tCB r tr σ H Q := q
/-- statements -/
theorem seq (q : tu { D with nx := tw D } σ H) : tSeq tu tw D σ H := q
theorem next (q : D.nx σ H) : tNext D σ H := q
theorem ret (q : te σ H D.rt) : tRet te D σ H := q
theorem retN (q : D.rt .non H) : tRetN D σ H := q
theorem drop (q : te σ H fun _ H1 => D.nx σ H1) : tDrop te D σ H := q
theorem asg {g : TG} (q : te σ H fun x H1 => g x σ H1 D.nx) : tAsg te g D σ H := q
theorem name {i : Nat} {R : L2.St → Hp → Prop} (q : R (σ.set i (some v)) H) : gName i v σ H R := q
theorem ifs {c : TT} (q : c σ H fun b H1 => IfP b (tu D σ H1) (tw D σ H1)) : tIfS c tu tw D σ H := q
theorem brk (q : D.bk σ H) : tBreak D σ H := q
theorem cnt (q : D.ct σ H) : tCont D σ H := q
def AugP (i : Nat) (x y : V) (ip : TIp) (D : Ends) (σ : L2.St) (H : Hp) : Prop := ip x y H fun z H2 => D.nx (σ.set i (some z)) H2
theorem aug {i : Nat} {tip : TIp} (h : σ[i]? = some (some x)) (q : te σ H fun y H1 => AugP i x y tip D σ H1) : tAug i te tip D σ H := ⟨x, h, q⟩
theorem augI {n : Nat} {f : Int → Int → Int} (q : D.nx (σ.set n (some (.int (f i j)))) H) : AugP n (.int i) (.int j) (ipI f) D σ H := ⟨i, j, rfl, rfl, q⟩
/-- loops: what walks (FW), for a range -/
def FW (J : It) (g : TG) (tb : TS) (D : Ends) (σ : L2.St) (H : Hp) : Prop := ∃ W : Nat → Nat → L2.St → Hp → Prop, (∃ m, W 0 m σ H) ∧ ∀ i m σ H, W i m σ H →
  (J.stop i H ∧ D.nx σ H) ∨ (J.go i H ∧ ∃ N : L2.St → Hp → Prop, (∀ σ' H', N σ' H' → ∃ m', m' < m ∧ W (i + 1) m' σ' H') ∧ ∀ x H', J.yld i H x H' → g x σ H' fun σ2 H2 => tb { D with nx := N, ct := N, bk := D.nx } σ2 H2)
theorem for_ {wi : TI} {g : TG} (q : wi σ H fun J H1 => FW J g tu D σ H1) : tFor wi g tu D σ H := q
def R1P (vs : List V) (H : Hp) (R : It → Hp → Prop) : Prop := ∃ j : Int, vs = [.int j] ∧ -(2 ^ 62) ≤ j ∧ j < 2 ^ 62 ∧ R (Itr 0 j.toNat) H
def R2P (vs : List V) (H : Hp) (R : It → Hp → Prop) : Prop := ∃ i j : Int, vs = [.int i, .int j] ∧ (-(2 ^ 62) ≤ i ∧ i < 2 ^ 62 ∧ -(2 ^ 62) ≤ j ∧ j < 2 ^ 62) ∧ R (Itr i (j - i).toNat) H
theorem rng1 {R : It → Hp → Prop} (q : tr σ H fun vs H1 => R1P vs H1 R) : iRng1 tr σ H R := q
theorem rng2 {R : It → Hp → Prop} (q : tr σ H fun vs H1 => R2P vs H1 R) : iRng2 tr σ H R := q
theorem r1 {R : It → Hp → Prop} (h1 : -(2 ^ 62) ≤ j) (h2 : j < 2 ^ 62) (q : R (Itr 0 j.toNat) H) : R1P [.int j] H R := ⟨j, rfl, h1, h2, q⟩
theorem r2 {R : It → Hp → Prop} (h1 : -(2 ^ 62) ≤ i ∧ i < 2 ^ 62 ∧ -(2 ^ 62) ≤ j ∧ j < 2 ^ 62) (q : R (Itr i (j - i).toNat) H) : R2P [.int i, .int j] H R := ⟨i, j, rfl, h1, q⟩
theorem fwR {lo : Int} {n : Nat} {g : TG} (Pv : Nat → L2.St → Hp → Prop) (h0 : Pv 0 σ H) (hs : ∀ i σ H, i < n → Pv i σ H → g (.int (lo + i)) σ H fun σ2 H2 => tu { D with nx := Pv (i + 1), ct := Pv (i + 1), bk := D.nx } σ2 H2) (hd : ∀ σ H, Pv n σ H → D.nx σ H) :
    FW (Itr lo n) g tu D σ H := for_range Pv h0 hs hd
def LP (K : PySem.W.Frag) (x : V) (H : Hp) (R : It → Hp → Prop) : Prop := ∃ a, x = .ref a ∧ (∃ xs, SqL K H a xs) ∧ R (Itl K a) H
theorem lwk {R : It → Hp → Prop} (q : te σ H fun x H1 => LP K x H1 R) : iList K te σ H R := q
theorem lp {a : Addr} {xs : List V} {R : It → Hp → Prop} (h : SqL K H a xs) (q : R (Itl K a) H) : LP K (.ref a) H R := ⟨a, rfl, ⟨xs, h⟩, q⟩
theorem fwL {a : Addr} {g : TG} (xs : List V) (Pv : Nat → L2.St → Hp → Prop) (h0 : Pv 0 σ H) (hl : ∀ i σ H, i ≤ xs.length → Pv i σ H → SqL K H a xs)
    (hs : ∀ i x σ H, xs[i]? = some x → Pv i σ H → g x σ H fun σ2 H2 => tu { D with nx := Pv (i + 1), ct := Pv (i + 1), bk := D.nx } σ2 H2) (hd : ∀ σ H, Pv xs.length σ H → D.nx σ H) : FW (Itl K a) g tu D σ H := for_list Pv h0 hl hs hd
/-- built-in functions, under names of their own -/
def rInt1 : List V → Hp → VK → Prop := fun xs H Q => (∃ i, xs = [.int i] ∧ Q (.int i) H) ∨ ∃ k, xs = [.bl k] ∧ Q (.int (if k then 1 else 0)) H
def rAbs : List V → Hp → VK → Prop := fun xs H Q => ∃ i, xs = [.int i] ∧ Q (.int (if i < 0 then -i else i)) H
def rStrI : List V → Hp → VK → Prop := fun xs H Q => ∃ i, xs = [.int i] ∧ i.natAbs.log2 < 1920 ∧ Q (.str (toString i)) H
def rLen (K : PySem.W.Frag) : List V → Hp → VK → Prop := fun xs H Q => ∃ x n, xs = [x] ∧ LenV K x H n ∧ Q (.int n) H
theorem int1 (q : Q (.int i) H) : rInt1 [.int i] H Q := .inl ⟨i, rfl, q⟩
theorem intB {k : Bool} (q : Q (.int (if k then 1 else 0)) H) : rInt1 [.bl k] H Q := .inr ⟨k, rfl, q⟩
theorem abs1 (q : Q (.int (if i < 0 then -i else i)) H) : rAbs [.int i] H Q := ⟨i, rfl, q⟩
theorem strI (h : i.natAbs.log2 < 1920) (q : Q (.str (toString i)) H) : rStrI [.int i] H Q := ⟨i, rfl, h, q⟩
theorem lenS {s : Str} (h : s.length ≤ sizeLine) (q : Q (.int (s.length : Nat)) H) : rLen K [.str s] H Q := ⟨_, _, rfl, ⟨h, rfl⟩, q⟩
theorem lenL {p : Addr} {xs : List V} (h : SqL K H p xs) (q : Q (.int (xs.length : Nat)) H) : rLen K [.ref p] H Q := ⟨_, _, rfl, .inl ⟨_, h, rfl⟩, q⟩
theorem lenT {p : Addr} {xs : List V} (h : SqT K H p xs) (q : Q (.int (xs.length : Nat)) H) : rLen K [.ref p] H Q := ⟨_, _, rfl, .inr ⟨_, h, rfl⟩, q⟩
/-- xs[i], s[i] -/
theorem ixL {p : Addr} {xs : List V} (h : SqL K H p xs) (ha : atI xs i = some v) (q : Q v H) : rIx K (.ref p) (.int i) H Q := .inl ⟨p, xs, i, v, rfl, rfl, h, ha, q⟩
theorem ixT {p : Addr} {xs : List V} (h : SqT K H p xs) (ha : atI xs i = some v) (q : Q v H) : rIx K (.ref p) (.int i) H Q := .inr (.inl ⟨p, xs, i, v, rfl, rfl, h, ha, q⟩)
theorem ixS {s : Str} {c : Nat} (h : s.length ≤ sizeLine) (ha : atI s.cps.toList i = some c) (q : Q (.str ⟨#[c]⟩) H) : rIx K (.str s) (.int i) H Q := .inr (.inr ⟨s, i, c, rfl, rfl, h, ha, q⟩)
/-- methods of built-in types -/
def BmP (K : PySem.W.Frag) (T : String) (r : V → List V → Hp → VK → Prop) (t : TA) (σ : L2.St) (x : V) (H : Hp) (Q : VK) : Prop := tyV K T x H ∧ t σ H fun xs H2 => r x xs H2 Q
theorem bm {T : String} {r : V → List V → Hp → VK → Prop} (q : to σ H fun x H1 => BmP K T r tr σ x H1 Q) : tBM K T r to tr σ H Q := q
theorem bmS {T : String} {r : V → List V → Hp → VK → Prop} (h : tyV K T x H) (q : tr σ H fun xs H2 => r x xs H2 Q) : BmP K T r tr σ x H Q := ⟨h, q⟩
theorem app {l : Addr} {xs : List V} (h : H l = some (.lst xs)) (hz : xs.length < sizeLine) (q : Q .non (upd H l (.lst (xs ++ [y])))) : rAppend (.ref l) [y] H Q := ⟨l, xs, y, rfl, rfl, h, hz, q⟩
theorem tyL {p : Addr} {xs : List V} (h : SqL K H p xs) : tyV K "list" (.ref p) H := .inl ⟨rfl, _, h⟩
/-- while: a word that falls -/
def WhI (W : Nat → L2.St → Hp → Prop) (m : Nat) (tb : TS) (D : Ends) (σ : L2.St) (b : Bool) (H : Hp) : Prop :=
  if b = true then ∃ N : L2.St → Hp → Prop, (∀ σ' H', N σ' H' → ∃ m', m' < m ∧ W m' σ' H') ∧ tb { D with nx := N, ct := N, bk := D.nx } σ H else D.nx σ H
theorem whI_t {W : Nat → L2.St → Hp → Prop} {m : Nat} (q : tu { D with nx := fun σ' H' => ∃ m', m' < m ∧ W m' σ' H', ct := fun σ' H' => ∃ m', m' < m ∧ W m' σ' H', bk := D.nx } σ H) : WhI W m tu D σ true H := by
  unfold WhI; rw [if_pos rfl]; exact ⟨_, fun _ _ h => h, q⟩
theorem whI_f {W : Nat → L2.St → Hp → Prop} {m : Nat} (q : D.nx σ H) : WhI W m tu D σ false H := by
  unfold WhI; rw [if_neg Bool.false_ne_true]; exact q
theorem whI_d {W : Nat → L2.St → Hp → Prop} {m : Nat} {p : Prop} [Decidable p] (q1 : p → WhI W m tu D σ true H) (q2 : ¬ p → WhI W m tu D σ false H) : WhI W m tu D σ (decide p) H := by
  by_cases h : p
  · rw [decide_eq_true h]; exact q1 h
  · rw [decide_eq_false h]; exact q2 h
theorem whI_b {W : Nat → L2.St → Hp → Prop} {m : Nat} (q1 : b = true → WhI W m tu D σ true H) (q2 : b = false → WhI W m tu D σ false H) : WhI W m tu D σ b H := by
  cases b with
  | true => exact q1 rfl
  | false => exact q2 rfl
theorem whl (W : Nat → L2.St → Hp → Prop) (m0 : Nat) (h0 : W m0 σ H) (hs : ∀ m σ' H', W m σ' H' → t σ' H' fun b H1 => WhI W m tu D σ' b H1) : tWhile t tu D σ H := ⟨W, ⟨m0, h0⟩, hs⟩
/-- any walk -/
theorem fw {J : It} {n : Nat} {G : Hp → Prop} {Y : Nat → Hp → V → Hp → Prop} {g : TG} (w : Walk J n G Y) (Pv : Nat → L2.St → Hp → Prop) (h0 : Pv 0 σ H) (hG : ∀ i σ H, i ≤ n → Pv i σ H → G H)
    (hs : ∀ i x σ H H', i < n → Pv i σ H → Y i H x H' → g x σ H' fun σ2 H2 => tu { D with nx := Pv (i + 1), ct := Pv (i + 1), bk := D.nx } σ2 H2) (hd : ∀ σ H, Pv n σ H → D.nx σ H) : FW J g tu D σ H := for_it w Pv h0 hG hs hd
/-- comprehensions -/
def LcP (J : It) (g : TG) (tt : TT) (te : TE) (vs : List Nat) (σ : L2.St) (Q : VK) (H1 : Hp) : Prop := ∀ D, H1 D = none → ∃ W : Nat → Nat → Hp → Prop, (∃ m, W 0 m (upd H1 D (.lst []))) ∧ ∀ i m H, W i m H →
  (J.stop i H ∧ Q (.ref D) H) ∨ (J.go i H ∧ ∃ Nx : Hp → Prop, (∀ H', Nx H' → ∃ m', m' < m ∧ W (i + 1) m' H') ∧ ∀ x H', J.yld i H x H' → g x (wipe σ vs) H' fun σ2 H2 => wipe σ2 vs = wipe σ vs ∧ tt σ2 H2 fun b H3 =>
    if b = true then te σ2 H3 fun y H4 => ∃ acc, H4 D = some (.lst acc) ∧ acc.length < sizeLine ∧ Nx (upd H4 D (.lst (acc ++ [y]))) else Nx H3)
theorem lc {wi : TI} {g : TG} {vs : List Nat} (q : wi σ H fun J H1 => LcP J g t te vs σ Q H1) : tLc wi g t te vs σ H Q := q
def WP (A B : Prop) : Prop := A ∧ B
theorem wp (h : A1) (q : A2) : WP A1 A2 := ⟨h, q⟩
theorem yes (q : B true H) : tYes σ H B := q
theorem same_up {H H' : Hp} {p : Addr} {o : HO} (h : H p = none) (s : Same H H') : Same H (upd H' p o) := fun a u e => by rw [upd_ne (ne_of_none e h)]; exact s a u e
theorem same_new {H : Hp} {p : Addr} {o : HO} (h : H p = none) : Same H (upd H p o) := same_up h (Same.refl H)
/-- a comprehension whose turns leave what stands: the list of the turns that are kept -/
theorem lcFil {J : It} {n : Nat} {G : Hp → Prop} {Y : Nat → Hp → V → Hp → Prop} {g : TG} {vs : List Nat} (w : Walk J n G Y) (hn : n < 16777216) (c : Nat → Bool) (f : Nat → V) (hG : ∀ H', Same H H' → G H') (hY : ∀ i H x H', Y i H x H' → Same H H')
    (hs : ∀ i x H1 H' (R : V → Hp → Prop) (R0 : Hp → Prop), i < n → Same H H1 → Y i H1 x H' → (c i = true → ∀ H4, Same H' H4 → R (f i) H4) → (c i = false → ∀ H4, Same H' H4 → R0 H4) →
      g x (wipe σ vs) H' fun σ2 H2 => WP (wipe σ2 vs = wipe σ vs) (t σ2 H2 fun b H3 => IfP b (te σ2 H3 R) (R0 H3)))
    (q : ∀ p H2, H p = none → Same H H2 → H2 p = some (.lst (((List.range n).filter c).map f)) → Q (.ref p) H2) : LcP J g t te vs σ Q H := fun p hp => by
  refine lc_it w (fun i H' => Same H H' ∧ H' p = some (.lst (((List.range i).filter c).map f))) ⟨same_new hp, upd_same⟩ (fun i H' _ h => hG H' h.1) (fun i x H1 H' hi h y => ?_) (fun H' h => q p H' hp h.1 h.2)
  obtain ⟨h1, h2⟩ := h
  have s1 := hY i H1 x H' y
  refine hs i x H1 H' _ _ hi h1 y (fun hc H4 s4 => ⟨_, s4 _ _ (s1 _ _ h2), ?_, same_up hp (h1.trans (s1.trans s4)), ?_⟩) (fun hc H4 s4 => ⟨h1.trans (s1.trans s4), ?_⟩)
  · rw [List.length_map]
    have := List.length_filter_le c (List.range i)
    rw [List.length_range] at this
    rw [sizeLine_eq]; omega
  · rw [upd_same, List.range_succ, List.filter_append, List.map_append, List.filter_cons, if_pos hc]; rfl
  · rw [List.range_succ, List.filter_append, List.map_append, List.filter_cons, if_neg (by rw [hc]; decide)]
    rw [s4 _ _ (s1 _ _ h2)]; simp
theorem lcMap {J : It} {n : Nat} {G : Hp → Prop} {Y : Nat → Hp → V → Hp → Prop} {g : TG} {vs : List Nat} (w : Walk J n G Y) (hn : n < 16777216) (f : Nat → V) (hG : ∀ H', Same H H' → G H') (hY : ∀ i H x H', Y i H x H' → Same H H')
    (hs : ∀ i x H1 H' (R : V → Hp → Prop) (R0 : Hp → Prop), i < n → Same H H1 → Y i H1 x H' → (∀ H4, Same H' H4 → R (f i) H4) →
      g x (wipe σ vs) H' fun σ2 H2 => WP (wipe σ2 vs = wipe σ vs) (t σ2 H2 fun b H3 => IfP b (te σ2 H3 R) (R0 H3)))
    (q : ∀ p H2, H p = none → Same H H2 → H2 p = some (.lst ((List.range n).map f)) → Q (.ref p) H2) : LcP J g t te vs σ Q H := by
  refine lcFil w hn (fun _ => true) f hG hY (fun i x H1 H' R R0 hi h1 y hr _ => hs i x H1 H' R R0 hi h1 y (hr rfl)) ?_
  rw [List.filter_eq_self.mpr (fun _ _ => rfl)]
  exact q
theorem sameFn {f : Nat → V} : ∀ i H x H', YFn f i H x H' → Same H H' := fun _ _ _ _ y => y.1 ▸ Same.refl _
theorem sameAt {xs : List V} : ∀ i H x H', YAt xs i H x H' → Same H H' := fun _ _ _ _ y => y.1 ▸ Same.refl _
/-- reversed ranges -/
def RrP (a b : Int) (H : Hp) (R : It → Hp → Prop) : Prop := -(2 ^ 62) ≤ a ∧ a < 2 ^ 62 ∧ -(2 ^ 62) ≤ b ∧ b < 2 ^ 62 ∧ R (Itc (a + (((b - a).toNat : Nat) : Int) - 1) (-1) (b - a).toNat) H
def Rg1P (x : V) (H : Hp) (R : Int → Int → Hp → Prop) : Prop := ∃ j, x = .int j ∧ R 0 j H
theorem rrv {tr : L2.St → Hp → (Int → Int → Hp → Prop) → Prop} {R : It → Hp → Prop} (q : tr σ H fun a b H1 => RrP a b H1 R) : iRevR tr σ H R := q
theorem rr {a b : Int} {R : It → Hp → Prop} (h : -(2 ^ 62) ≤ a ∧ a < 2 ^ 62 ∧ -(2 ^ 62) ≤ b ∧ b < 2 ^ 62) (q : R (Itc (a + (((b - a).toNat : Nat) : Int) - 1) (-1) (b - a).toNat) H) : RrP a b H R := ⟨h.1, h.2.1, h.2.2.1, h.2.2.2, q⟩
theorem rg1 {R : Int → Int → Hp → Prop} (q : ta σ H fun x H1 => Rg1P x H1 R) : tRg1 ta σ H R := q
theorem rg1p {R : Int → Int → Hp → Prop} (q : R 0 j H) : Rg1P (.int j) H R := ⟨j, rfl, q⟩
/-- isinstance with a built-in class -/
theorem isi {n : String} {tv : Value} (ty : TyX K H x tv) (q : Q (.bl b) H) (e : PySem.W.kitOne K tv (.type n) = some b) : rIsi K [x, .ty n] H Q := ⟨x, .ty n, tv, .type n, b, rfl, .ty n, ty, e, q⟩
theorem isiI {n : String} (q : Q (.bl b) H) (e : kitB "int" n = some b) : rIsi K [.int i, .ty n] H Q := isi (.base (.int i)) q (kit_ty e)
theorem isiS {n : String} {z : Str} (q : Q (.bl b) H) (e : kitB "str" n = some b) : rIsi K [.str z, .ty n] H Q := isi (.base (.str z)) q (kit_ty e)
theorem isiB {n : String} {k : Bool} (q : Q (.bl b) H) (e : kitB "bool" n = some b) : rIsi K [.bl k, .ty n] H Q := isi (.base (.bl k)) q (kit_ty e)
theorem isiN {n : String} (q : Q (.bl b) H) (e : kitB "NoneType" n = some b) : rIsi K [.non, .ty n] H Q := isi (.base .non) q (kit_ty e)
/-- == of lists of ints -/
theorem eqvAll_int : ∀ xs ys : List Int, PyData.eqvAll (xs.map .int) (ys.map .int) = decide (xs = ys)
  | [], [] => by simp [PyData.eqvAll]
  | [], _ :: _ => by simp [PyData.eqvAll]
  | _ :: _, [] => by simp [PyData.eqvAll]
  | x :: xs, y :: ys => by
    simp only [List.map_cons, PyData.eqvAll, PyData.eqv, eqvAll_int xs ys]
    by_cases h : x = y
    · subst h; simp
    · simp [h]
theorem canLay_ints : ∀ xs : List Int, PyData.canLayAll0 (xs.map .int) = true
  | [] => rfl
  | _ :: xs => by simp [PyData.canLayAll0, PyData.canLay0, canLay_ints xs]
theorem depth_ints : ∀ xs : List Int, PyData.depthAll (xs.map .int) = 0
  | [] => rfl
  | _ :: xs => by simp [PyData.depthAll, PyData.depth, depth_ints xs]
theorem shaped_ints (xs : List Int) : SeqAt.shaped (.list (xs.map .int)) = true := by
  simp [SeqAt.shaped, PyData.canLay0, PyData.depth, canLay_ints, depth_ints]
theorem shaped_tints (xs : List Int) : SeqAt.shaped (.tuple (xs.map .int)) = true := by
  simp [SeqAt.shaped, PyData.canLay0, PyData.depth, canLay_ints, depth_ints]
theorem dpAll_int : ∀ xs : List Int, DpAll K H (xs.map V.int) (xs.map PyData.int)
  | [] => .nil
  | x :: xs => .cons (.int x) (dpAll_int xs)
theorem eqDI {p q' : Addr} {xs ys : List Int} (h1 : SqL K H p (xs.map V.int)) (h2 : SqL K H q' (ys.map V.int)) (q : Q (.bl (decide (xs = ys))) H) : rEqD K (.ref p) (.ref q') H Q :=
  ⟨_, _, .lst h1 (dpAll_int xs), .lst h2 (dpAll_int ys), shaped_ints xs, shaped_ints ys, by rw [show PyData.eqv (.list (xs.map .int)) (.list (ys.map .int)) = decide (xs = ys) from eqvAll_int xs ys]; exact q⟩
theorem neDI {p q' : Addr} {xs ys : List Int} (h1 : SqL K H p (xs.map V.int)) (h2 : SqL K H q' (ys.map V.int)) (q : Q (.bl (!decide (xs = ys))) H) : rNeD K (.ref p) (.ref q') H Q :=
  ⟨_, _, .lst h1 (dpAll_int xs), .lst h2 (dpAll_int ys), shaped_ints xs, shaped_ints ys, by rw [show PyData.eqv (.list (xs.map .int)) (.list (ys.map .int)) = decide (xs = ys) from eqvAll_int xs ys]; exact q⟩
theorem eqDT {p q' : Addr} {xs ys : List Int} (h1 : SqT K H p (xs.map V.int)) (h2 : SqT K H q' (ys.map V.int)) (q : Q (.bl (decide (xs = ys))) H) : rEqD K (.ref p) (.ref q') H Q :=
  ⟨_, _, .tup h1 (dpAll_int xs), .tup h2 (dpAll_int ys), shaped_tints xs, shaped_tints ys, by rw [show PyData.eqv (.tuple (xs.map .int)) (.tuple (ys.map .int)) = decide (xs = ys) from eqvAll_int xs ys]; exact q⟩
theorem neDT {p q' : Addr} {xs ys : List Int} (h1 : SqT K H p (xs.map V.int)) (h2 : SqT K H q' (ys.map V.int)) (q : Q (.bl (!decide (xs = ys))) H) : rNeD K (.ref p) (.ref q') H Q :=
  ⟨_, _, .tup h1 (dpAll_int xs), .tup h2 (dpAll_int ys), shaped_tints xs, shaped_tints ys, by rw [show PyData.eqv (.tuple (xs.map .int)) (.tuple (ys.map .int)) = decide (xs = ys) from eqvAll_int xs ys]; exact q⟩
/-- all, any, sum, list(..) of a list -/
theorem allP {p : Addr} {bs : List Bool} (h : SqL K H p (bs.map V.bl)) (q : Q (.bl (bs.all id)) H) : L2.rAll K [.ref p] H Q := ⟨p, bs, rfl, h, q⟩
theorem anyP {p : Addr} {bs : List Bool} (h : SqL K H p (bs.map V.bl)) (q : Q (.bl (bs.any id)) H) : L2.rAny K [.ref p] H Q := ⟨p, bs, rfl, h, q⟩
theorem sumP {p : Addr} {ns : List Int} (h : SqL K H p (ns.map V.int)) (q : Q (.int ns.sum) H) : L2.rSum K [.ref p] H Q := ⟨p, ns, rfl, h, q⟩
def rList (K : PySem.W.Frag) : List V → Hp → VK → Prop := fun xs H Q => ∃ p ys, xs = [.ref p] ∧ (SqL K H p ys ∨ SqT K H p ys) ∧ ∀ l, H l = none → Q (.ref l) (upd H l (.lst ys))
theorem listL {p : Addr} {xs : List V} (h : SqL K H p xs) (q : ∀ l, H l = none → Q (.ref l) (upd H l (.lst xs))) : rList K [.ref p] H Q := ⟨p, xs, rfl, .inl h, q⟩
theorem listT {p : Addr} {xs : List V} (h : SqT K H p xs) (q : ∀ l, H l = none → Q (.ref l) (upd H l (.lst xs))) : rList K [.ref p] H Q := ⟨p, xs, rfl, .inr h, q⟩
theorem up_seq {p l : Addr} {xs : List V} {o : HO} (h : SqL K H p xs) (hl : H l = none) : SqL K (upd H l o) p xs := (same_new hl).seq h
end
section
variable {X : Cx}
theorem c_list : CallR X (.type "list") (rList X.K) := call_list_of
theorem c_int : CallR X (.type "int") rInt1 := call_int1
theorem c_abs : CallR X (.builtin "abs") rAbs := call_abs
theorem c_strI : CallR X (.type "str") rStrI := call_str_int
theorem c_len : CallR X (.builtin "len") (rLen X.K) := call_len
end
end Gx
local macro_rules | `(tactic| walk_at "side") => `(tactic| ((try dsimp only [L2.CMul, L2.CDiv, L2.CPow, L2.CDivN]); first | omega | decide | assumption))
local macro_rules | `(tactic| walk_at "go1") => `(tactic| (first
  | with_reducible refine Gx.seq ?_
  | with_reducible refine Gx.asg ?_
  | with_reducible refine Gx.op ?_
  | ((with_reducible refine' Gx.var ?h0 ?_); (case h0 => rfl))
  | with_reducible refine Gx.cst ?_
  | with_reducible refine Gx.i0 ?_
  | with_reducible refine Gx.name ?_
  | with_reducible refine Gx.cons ?_
  | with_reducible refine Gx.nil ?_
  | with_reducible refine Gx.call ?_
  | with_reducible refine Gx.cb ?_
  | with_reducible refine Gx.int1 ?_
  | with_reducible refine Gx.intB ?_
  | with_reducible refine Gx.abs1 ?_
  | with_reducible refine Gx.un ?_
  | with_reducible refine Gx.uu ?_
  | with_reducible refine Gx.ifs ?_
  | with_reducible refine Gx.ifx ?_
  | with_reducible refine Gx.test ?_
  | with_reducible refine Gx.tB ?_
  | with_reducible refine Gx.tb_go ?_
  | with_reducible refine Gx.bv_go ?_
  | with_reducible refine Gx.and_ ?_
  | with_reducible refine Gx.or_ ?_
  | with_reducible refine Gx.not_ ?_
  | with_reducible refine Gx.andV ?_
  | with_reducible refine Gx.orV ?_
  | with_reducible refine Gx.notV ?_
  | with_reducible refine Gx.eqvI ?_
  | with_reducible refine Gx.nevI ?_
  | with_reducible refine Gx.eqvS ?_
  | with_reducible refine Gx.nevS ?_
  | with_reducible refine Gx.ret ?_
  | with_reducible refine Gx.retN ?_
  | with_reducible refine Gx.drop ?_
  | with_reducible refine Gx.next ?_
  | with_reducible refine Gx.brk ?_
  | with_reducible refine Gx.cnt ?_
  | with_reducible refine Gx.if_t ?_
  | with_reducible refine Gx.if_f ?_
  | with_reducible refine Gx.if_nt ?_
  | with_reducible refine Gx.whI_t ?_
  | with_reducible refine Gx.whI_f ?_
  | with_reducible refine Gx.if_nf ?_
  | with_reducible refine Gx.for_ ?_
  | with_reducible refine Gx.rng1 ?_
  | with_reducible refine Gx.rng2 ?_
  | with_reducible refine Gx.lwk ?_
  | with_reducible refine Gx.lst ?_
  | with_reducible refine Gx.tup ?_
  | with_reducible refine Gx.bm ?_
  | with_reducible refine Gx.lc ?_
  | ((with_reducible refine' Gx.wp ?h0 ?_); (case h0 => rfl))
  | with_reducible refine Gx.yes ?_
  | with_reducible refine Gx.rrv ?_
  | with_reducible refine Gx.rg1 ?_
  | with_reducible refine Gx.rg1p ?_
  | ((with_reducible refine' Gx.aug ?h0 ?_); (case h0 => rfl))
  | with_reducible refine Gx.augI ?_))
local macro_rules | `(tactic| walk_at "go") => `(tactic| repeat walk_at "go1")

namespace Gy
open PySem L2
/-- the gray bit of v in plane p -/
def gb (v p : Nat) : Nat := (v / 2 ^ p + v / 2 ^ (p + 1)) % 2
theorem gb_int (v p : Nat) : Builtin.bitAnd (Builtin.bitXor ((v : Int) / 2 ^ (p : Int).toNat) ((v : Int) / 2 ^ ((p : Int) + 1).toNat)) 1 = ((gb v p : Nat) : Int) := by
  have e1 : (p : Int).toNat = p := rfl
  have e2 : ((p : Int) + 1).toNat = p + 1 := by omega
  have c (k : Nat) : (v : Int) / 2 ^ k = ((v / 2 ^ k : Nat) : Int) := by
    rw [Int.natCast_ediv, Int.natCast_pow]; rfl
  rw [e1, e2, c, c, Bits.bitXor_pp (Int.natCast_nonneg _) (Int.natCast_nonneg _), Int.toNat_natCast, Int.toNat_natCast]
  have h := Bits.bitAnd_mask (x := ((v / 2 ^ p ^^^ v / 2 ^ (p + 1) : Nat) : Int)) 1 (Int.natCast_nonneg _)
  rw [show (2 : Int) ^ 1 - 1 = 1 by decide] at h
  rw [h]
  have x := @Nat.xor_mod_two_eq_one (v / 2 ^ p) (v / 2 ^ (p + 1))
  unfold gb
  omega
theorem gb_le (v p : Nat) : gb v p ≤ 1 := by unfold gb; omega
/-- the value of gray bits from the highest plane on -/
def vstep (v g : Nat) : Nat := v * 2 + (g ^^^ v % 2)
def val (gs : List Nat) : Nat := gs.foldl vstep 0
theorem vstep_int (v g : Nat) : (v : Int) * 2 + Builtin.bitXor (g : Int) (Builtin.bitAnd (v : Int) 1) = ((vstep v g : Nat) : Int) := by
  have h := Bits.bitAnd_mask (x := (v : Int)) 1 (Int.natCast_nonneg _)
  rw [show (2 : Int) ^ 1 - 1 = 1 by decide, show (2 : Int) ^ 1 = ((2 : Nat) : Int) by decide, ← Int.natCast_emod] at h
  rw [h, Bits.bitXor_pp (Int.natCast_nonneg _) (Int.natCast_nonneg _), Int.toNat_natCast, Int.toNat_natCast]
  unfold vstep
  omega
theorem val_take {gs : List Nat} {i g : Nat} (h : gs[i]? = some g) : ((val (gs.take (i + 1)) : Nat) : Int) = (val (gs.take i) : Int) * 2 + Builtin.bitXor (g : Int) (Builtin.bitAnd (val (gs.take i) : Int) 1) := by
  rw [vstep_int]
  unfold val
  rw [List.take_add_one, h, List.foldl_append]
  rfl

/-- the gray bits of the planes below n, the highest first -/
def grays (v n : Nat) : List Nat := (List.range n).map fun i => gb v (n - 1 - i)
theorem pw (p : Nat) : (1 : Int) * 2 ^ ((p : Nat) : Int).toNat = ((2 ^ p : Nat) : Int) := by
  rw [Int.toNat_natCast, Int.one_mul, Int.natCast_pow]; rfl
theorem pw1 (p : Nat) : (1 : Int) * 2 ^ ((p : Int) + 1).toNat = ((2 ^ (p + 1) : Nat) : Int) := by
  rw [show ((p : Int) + 1).toNat = p + 1 by omega, Int.one_mul, Int.natCast_pow]; rfl
theorem dw {v : Int} {p : Nat} (h : p ≤ 8000) : CDivW v ((2 ^ p : Nat) : Int) := by
  refine wide_div (b := p + 1) ?_ ?_ (Nat.succ_pos _) (by omega)
  · exact Int.natCast_pos.mpr (Nat.two_pow_pos p)
  · rw [Int.natAbs_natCast]; exact Nat.pow_lt_pow_right (by decide) (Nat.lt_succ_self p)
theorem ne_gb (v p : Nat) : (if (!decide ((v : Int) / ((2 ^ p : Nat) : Int) % 2 = (v : Int) / ((2 ^ (p + 1) : Nat) : Int) % 2)) = true then (1 : Int) else 0) = ((gb v p : Nat) : Int) := by
  rw [← Int.natCast_ediv, ← Int.natCast_ediv]
  unfold gb
  generalize v / 2 ^ p = a
  generalize v / 2 ^ (p + 1) = b
  by_cases h : (a : Int) % 2 = (b : Int) % 2
  · rw [decide_eq_true h]
    simp only [Bool.not_true, Bool.false_eq_true, if_false]
    omega
  · rw [decide_eq_false h]
    simp only [Bool.not_false, if_true]
    omega
theorem grays_succ (v n : Nat) : grays v (n + 1) = gb v n :: grays v n := by
  unfold grays
  rw [List.range_succ_eq_map, List.map_cons, List.map_map]
  refine congr (congrArg List.cons (by simp)) ?_
  refine List.map_congr_left fun i hi => ?_
  show gb v (n + 1 - 1 - (i + 1)) = gb v (n - 1 - i)
  congr 1; omega
theorem xor_bit (a b : Nat) (hb : b ≤ 1) : (b ^^^ a % 2) % 2 = (b + a) % 2 ∧ b ^^^ a % 2 ≤ 1 := by
  have h : a % 2 = 0 ∨ a % 2 = 1 := by omega
  have h2 : b = 0 ∨ b = 1 := by omega
  rcases h with h | h <;> rcases h2 with h2 | h2 <;> subst h2 <;> rw [h] <;> simp <;> omega
theorem half (v n : Nat) : v / 2 ^ (n + 1) = v / 2 ^ n / 2 := by rw [Nat.pow_succ, Nat.div_div_eq_div_mul]
theorem vstep_gb (v n : Nat) : vstep (v / 2 ^ (n + 1)) (gb v n) = v / 2 ^ n := by
  unfold vstep gb
  rw [half]
  generalize v / 2 ^ n = a
  have h := xor_bit (a / 2) ((a + a / 2) % 2) (by omega)
  omega
theorem fold_grays (v : Nat) : ∀ n, (grays v n).foldl vstep (v / 2 ^ n) = v
  | 0 => by simp [grays]
  | n + 1 => by rw [grays_succ, List.foldl_cons, vstep_gb, fold_grays v n]
theorem val_grays {v n : Nat} (h : v < 2 ^ n) : val (grays v n) = v := by
  have e := fold_grays v n
  rw [Nat.div_eq_of_lt h] at e
  exact e
theorem fold_bits : ∀ (bs : List Nat) (u : Nat), (∀ b ∈ bs, b ≤ 1) → (bs.foldl vstep u) / 2 ^ bs.length = u ∧ grays (bs.foldl vstep u) bs.length = bs
  | [], u, _ => by simp [grays]
  | b :: bs, u, h => by
    obtain ⟨h1, h2⟩ := fold_bits bs (vstep u b) fun x hx => h x (List.mem_cons_of_mem _ hx)
    have hb := h b (List.mem_cons_self ..)
    rw [List.foldl_cons, List.length_cons]
    generalize hr : bs.foldl vstep (vstep u b) = r at *
    have x := xor_bit u b hb
    have e1 : r / 2 ^ (bs.length + 1) = u := by
      rw [half, h1]; unfold vstep; omega
    refine ⟨e1, ?_⟩
    rw [grays_succ, h2]
    congr 1
    unfold gb
    rw [e1, h1]; unfold vstep; omega
theorem grays_val {bs : List Nat} (h : ∀ b ∈ bs, b ≤ 1) : val bs < 2 ^ bs.length ∧ grays (val bs) bs.length = bs := by
  obtain ⟨h1, h2⟩ := fold_bits bs 0 h
  refine ⟨?_, h2⟩
  have h3 := (Nat.div_eq_zero_iff.mp h1)
  rcases h3 with h3 | h3
  · have := Nat.two_pow_pos bs.length; omega
  · exact h3
theorem nats_of {xs : List Int} (h : ∀ x ∈ xs, 0 ≤ x ∧ x < 2) : ∃ bs : List Nat, xs = bs.map (fun b : Nat => (b : Int)) ∧ ∀ b ∈ bs, b ≤ 1 := by
  refine ⟨xs.map Int.toNat, ?_, ?_⟩
  · rw [List.map_map]
    conv => lhs; rw [← List.map_id xs]
    refine List.map_congr_left fun x hx => ?_
    have := h x hx
    show x = ((x.toNat : Nat) : Int)
    omega
  · intro b hb
    obtain ⟨x, hx, rfl⟩ := List.mem_map.mp hb
    have := h x hx
    omega
theorem gb_top {v n : Nat} (h : v < 2 ^ n) : gb v n = 0 := by
  unfold gb
  rw [Nat.div_eq_of_lt h, Nat.div_eq_of_lt (Nat.lt_trans h (Nat.pow_lt_pow_right (by decide) (Nat.lt_succ_self n)))]
/-- t is the last place from which v + 1 is whole -/
def Last (v n t : Nat) : Prop := t ≤ n ∧ (v + 1) % 2 ^ t = 0
theorem div_step {v k : Nat} : (v + 1) / 2 ^ k = v / 2 ^ k + if (v + 1) % 2 ^ k = 0 then 1 else 0 := by
  have hp := Nat.two_pow_pos k
  have h1 := Nat.div_add_mod (v + 1) (2 ^ k)
  have h2 := Nat.div_add_mod v (2 ^ k)
  have l1 := Nat.mod_lt (v + 1) hp
  have l2 := Nat.mod_lt v hp
  generalize (v + 1) / 2 ^ k = x at *
  generalize v / 2 ^ k = y at *
  generalize (v + 1) % 2 ^ k = r at *
  generalize v % 2 ^ k = s at *
  generalize 2 ^ k = m at *
  have hx : x = y ∨ x = y + 1 := by
    have c1 : ¬ x < y := fun h => by
      have : m * (x + 1) ≤ m * y := Nat.mul_le_mul_left m h
      rw [Nat.mul_add] at this; omega
    have c2 : ¬ y + 1 < x := fun h => by
      have : m * (y + 1 + 1) ≤ m * x := Nat.mul_le_mul_left m h
      rw [Nat.mul_add, Nat.mul_add] at this; omega
    omega
  rcases hx with hx | hx
  · subst hx
    rw [if_neg (by omega)]; omega
  · subst hx
    rw [Nat.mul_add] at h1
    rw [if_pos (by omega)]
theorem whole_of {a k t : Nat} (h : a % 2 ^ t = 0) (hk : k ≤ t) : a % 2 ^ k = 0 :=
  Nat.mod_eq_zero_of_dvd (Nat.dvd_trans (Nat.pow_dvd_pow 2 hk) (Nat.dvd_of_mod_eq_zero h))
/-- the gray bits of v and v + 1 differ in the plane of the greatest power of 2 that divides v + 1 alone -/
theorem gb_diff {v n t : Nat} (hv : v < 2 ^ n) (h1 : t ≤ n) (h2 : (v + 1) % 2 ^ t = 0) (h3 : t < n → (v + 1) % 2 ^ (t + 1) ≠ 0) (k : Nat) : (gb v k ≠ gb (v + 1) k) ↔ k = t := by
  have h4 : (v + 1) % 2 ^ (t + 1) ≠ 0 := by
    by_cases ht : t < n
    · exact h3 ht
    · have e : t = n := by omega
      subst e
      have hp : 2 ^ (t + 1) = 2 ^ t * 2 := Nat.pow_succ ..
      rw [Nat.mod_eq_of_lt (by omega)]; omega
  unfold gb
  rw [div_step (v := v) (k := k), div_step (v := v) (k := k + 1)]
  by_cases hk : k ≤ t
  · rw [if_pos (whole_of h2 hk)]
    by_cases hk2 : k = t
    · subst hk2
      rw [if_neg h4]
      constructor <;> intro _ <;> omega
    · rw [if_pos (whole_of h2 (show k + 1 ≤ t by omega))]
      constructor <;> intro _ <;> omega
  · have z1 : ¬ (v + 1) % 2 ^ k = 0 := fun z => h4 (whole_of z (by omega))
    have z2 : ¬ (v + 1) % 2 ^ (k + 1) = 0 := fun z => h4 (whole_of z (by omega))
    rw [if_neg z1, if_neg z2]
    constructor <;> intro _ <;> omega
theorem filter_one {n t : Nat} {c : Nat → Bool} (ht : t < n) (h : ∀ k, c k = decide (k = t)) : (List.range n).filter c = [t] := by
  induction n with
  | zero => omega
  | succ n ih =>
    rw [List.range_succ, List.filter_append]
    by_cases e : t < n
    · rw [ih e, List.filter_cons, h, decide_eq_false (by omega)]; rfl
    · have e2 : t = n := by omega
      subst e2
      rw [List.filter_cons, h, decide_eq_true rfl, List.filter_eq_nil_iff.mpr (fun k hk => by rw [h, decide_eq_true_eq]; have := List.mem_range.mp hk; omega)]
      rfl
end Gy

namespace My
open PySem L2
def top (i : Nat) : Stmt := PySem.Challenge.pw_packetpicture_k11_gray_bits_and_values.main.body.getD i (.Pass ⟨0, 0, 0, 0⟩)
abbrev s_law_grays : Stmt := top 8
abbrev s_value_of : Stmt := top 2
abbrev s_law_mixed : Stmt := top 5
abbrev s_law_numbers : Stmt := top 6
abbrev s_gray_bit : Stmt := top 1
abbrev s_law_cell : Stmt := top 4
abbrev s_law_is_int : Stmt := top 7
abbrev s_law : Stmt := top 9
/-- a def of the text as it stands behind the top -/
structure DefAt (K : PySem.W.Frag) (mg : Str → Option Value) (x : Str) (st : Stmt) (ps : List Str) where
  a : Addr
  d : FuncData
  f : Fun K x x st a d
  g : mg x = some (.ref a)
  b : Binds K d ps []
structure MethAt (K : PySem.W.Frag) (C : Addr) (x q : Str) (st : Stmt) (ps : List Str) where
  a : Addr
  d : FuncData
  f : Fun K x q st a d
  b : Binds K d ps []
  m : Meth K C x a
structure Tx (K : PySem.W.Frag) (mg : Str → Option Value) where
  law_grays : DefAt K mg "_law_grays" s_law_grays ["value", "planes"]
  value_of : DefAt K mg "value_of" s_value_of ["grays"]
  law_mixed : DefAt K mg "_law_mixed" s_law_mixed ["number", "k", "limit"]
  law_numbers : DefAt K mg "_law_numbers" s_law_numbers ["cell", "count", "limit"]
  gray_bit : DefAt K mg "gray_bit" s_gray_bit ["value", "plane"]
  law_cell : DefAt K mg "_law_cell" s_law_cell ["script", "k"]
  law_is_int : DefAt K mg "_law_is_int" s_law_is_int ["actual"]
  law : DefAt K mg "law" s_law ["script"]
  n_abs : mg "abs" = none
  n_all : mg "all" = none
  n_bool : mg "bool" = none
  n_int : mg "int" = none
  n_isinstance : mg "isinstance" = none
  n_len : mg "len" = none
  n_list : mg "list" = none
  n_range : mg "range" = none
  n_reversed : mg "reversed" = none
section
variable {P : Program} {w : World} {K : PySem.W.Frag} {mg : Str → Option Value} {base : Heap}
/-- the law's own: True, whatever the script -/
def spLaw (K : PySem.W.Frag) : Sp := fun vs H Q _ => ∃ (a : Addr) (ns : List Int), vs = [.ref a] ∧ SqL K H a (ns.map V.int) ∧ ns.length ≤ 63 ∧ (∀ z ∈ ns, Builtin.Int.intBits z ≤ 1048576) ∧ ∀ H', Q (.bl true) H' 
def sp_law_grays (K : PySem.W.Frag) : Sp := fun vs H Q _ => ∃ (v n : Nat), vs = [.int (v : Int), .int (n : Int)] ∧ n ≤ 1000 ∧
  ∀ (p : Addr) (H' : Hp), H p = none → Same H H' → H' p = some (.lst ((Gy.grays v n).map fun g : Nat => V.int (g : Int))) → Q (.ref p) H'

theorem sc_law_grays : FnScope ["value", "planes", "plane"] ["value", "planes"] (defScope s_law_grays) := ⟨rfl, rfl, rfl, by decide +kernel, rfl, by decide +kernel, by decide +kernel⟩
theorem ok_law_grays (T : Tx K mg) : FnOk P w K mg base CX0 1 T.law_grays.a T.law_grays.d ["value", "planes"] (sp_law_grays K) := by
  refine T.law_grays.f.ok sc_law_grays (fun vs H Q E h => ?_) (fun cdv A outer s H vs Q E hr h => ⟨_, pss_one (ps_ret (pe_lc (own := [("plane", 2)]) (g := gName 2) (tt := tYes) rfl sc_law_grays.nd (pi_revR rfl T.n_reversed (prg_1 rfl T.n_range (pv 1))) (blkOk_by (own := [("plane", 2)]) (N := ["value", "planes", "plane"]) (sc := defScope s_law_grays) (by decide +kernel)) (fun _ _ _ _ _ => pg_name (i := 2) sc_law_grays.nd rfl (Or.inl rfl)) (fun _ _ _ _ _ => pts_nil) (fun _ _ _ _ _ => pe_callTy Gx.c_int rfl T.n_int (by decide +kernel) (pa_cons (pe_cmpR op_ne (pe_op op_mod (pe_op op_fdivW (pv 0) (pe_op op_shl (pe_int) (pv 2))) (pe_int)) (pe_op op_mod (pe_op op_fdivW (pv 0) (pe_op op_shl (pe_int) (pe_op op_add (pv 2) (pe_int)))) (pe_int)) (nomark _)) pa_nil)))), ?_⟩)
  · obtain ⟨v, n, rfl, _⟩ := h
    rfl
  · skip
    obtain ⟨v, n, rfl, hn, q⟩ := h
    walk_at "go"
    refine Gx.rr ⟨by decide, by decide, by omega, by omega⟩ ?_
    refine Gx.lcMap walk_rangeC (by omega) (fun i => .int ((Gy.gb v (n - 1 - i) : Nat) : Int)) (fun _ _ => trivial) Gx.sameFn ?_ ?_
    · rintro i x H1 H' R R0 hi s1 ⟨rfl, hx⟩ hr
      obtain ⟨p, hp⟩ : ∃ p, p = n - 1 - i := ⟨_, rfl⟩
      rw [← hp] at hr
      have hx2 : x = .int (p : Int) := hx.trans (congrArg V.int (by omega))
      subst hx2
      walk_at "go"
      refine Gx.ic ⟨by omega, by omega, by decide⟩ ?_
      walk_at "go"
      rw [Gy.pw]
      refine Gx.ic (Gy.dw (by omega)) ?_
      walk_at "go"
      refine Gx.ic (by decide) ?_
      walk_at "go"
      refine Gx.ic ⟨by omega, by omega, by decide⟩ ?_
      walk_at "go"
      rw [Gy.pw1]
      refine Gx.ic (Gy.dw (by omega)) ?_
      walk_at "go"
      refine Gx.ic (by decide) ?_
      walk_at "go"
      rw [Gy.ne_gb]
      exact hr H' (Same.refl _)
    · intro p H2 hp hs hl
      refine q p H2 hp hs ?_
      rw [hl]
      unfold Gy.grays
      rw [List.map_map]
      rfl

theorem cp_law_grays {K : PySem.W.Frag} {v n : Int} {H : Hp} {Q : VK} {E : XK} (h0 : 0 ≤ v) (hn : 0 ≤ n ∧ n ≤ 1000)
    (q : ∀ (p : Addr) (H' : Hp), H p = none → Same H H' → H' p = some (.lst ((Gy.grays v.toNat n.toNat).map fun g : Nat => V.int (g : Int))) → Q (.ref p) H') : Gx.CP (sp_law_grays K) [.int v, .int n] [] H Q E :=
  ⟨v.toNat, n.toNat, by rw [List.append_nil, Int.toNat_of_nonneg h0, Int.toNat_of_nonneg hn.1], by omega, q⟩

def sp_value_of (K : PySem.W.Frag) : Sp := fun vs H Q _ => ∃ (a : Addr) (gs : List Nat), vs = [.ref a] ∧ SqL K H a (gs.map fun g : Nat => V.int (g : Int)) ∧ Q (.int (Gy.val gs : Nat)) H

theorem sc_value_of : FnScope ["grays", "value", "gray"] ["grays"] (defScope s_value_of) := ⟨rfl, rfl, rfl, by decide +kernel, rfl, by decide +kernel, by decide +kernel⟩
theorem ok_value_of (T : Tx K mg) : FnOk P w K mg base CX0 1 T.value_of.a T.value_of.d ["grays"] (sp_value_of K) := by
  refine T.value_of.f.ok sc_value_of (fun vs H Q E h => ?_) (fun cdv A outer s H vs Q E hr h => ⟨_, pss_cons (ps_set (i := 1) sc_value_of.nd rfl (Or.inl rfl) (pe_int))
      (pss_cons (ps_for PassesOwn.never rfl (pi_list (pv 0)) (pg_name (i := 2) sc_value_of.nd rfl (Or.inl rfl))
      (pss_one (ps_set (i := 1) sc_value_of.nd rfl (Or.inl rfl) (pe_op op_add (pe_op op_mul (pv 1) (pe_int)) (pe_op op_xor (pv 2) (pe_op op_and (pv 1) (pe_int)))))))
      (pss_one (ps_ret (pv 1)))), ?_⟩)
  · obtain ⟨a, gs, rfl, _⟩ := h
    rfl
  · skip
    obtain ⟨a, gs, rfl, hs, q⟩ := h
    walk_at "go"
    refine Gx.lp hs ?_
    refine Gx.fw walk_list (fun i σ' H' => H' = H ∧ ∃ kv : Option V, σ' = [some (.ref a), some (.int (Gy.val (gs.take i) : Nat)), kv]) ⟨rfl, none, rfl⟩ (fun i σ' H' _ ⟨e, _⟩ => e ▸ hs) ?_ ?_
    · rintro i x σ' H1 H' hi ⟨rfl, kv, rfl⟩ ⟨rfl, hx⟩
      rw [List.getElem?_map] at hx
      cases e : gs[i]? with
      | none => rw [e] at hx; cases hx
      | some g =>
        rw [e] at hx
        cases hx
        walk_at "go"
        refine Gx.ic (.inr (by decide)) ?_
        walk_at "go"
        refine ⟨rfl, some (.int (g : Int)), ?_⟩
        rw [Gy.val_take e]
        rfl
    · rintro σ' H' ⟨rfl, kv, rfl⟩
      rw [List.length_map, List.take_length]
      walk_at "go"
      exact q

theorem cp_value_of {K : PySem.W.Frag} {a : Addr} {gs : List Nat} {H : Hp} {Q : VK} {E : XK} (hs : SqL K H a (gs.map fun g : Nat => V.int (g : Int))) (q : Q (.int (Gy.val gs : Nat)) H) : Gx.CP (sp_value_of K) [.ref a] [] H Q E := ⟨a, gs, rfl, hs, q⟩

/-- some number from 0 on below the limit -/
def sp_law_mixed : Sp := fun vs H Q _ => ∃ (n k l : Int), vs = [.int n, .int k, .int l] ∧ 0 < l ∧ ∀ r, 0 ≤ r → r < l → Q (.int r) H

theorem sc_law_mixed : FnScope ["number", "k", "limit", "one", "two"] ["number", "k", "limit"] (defScope s_law_mixed) := ⟨rfl, rfl, rfl, by decide +kernel, rfl, by decide +kernel, by decide +kernel⟩
theorem ok_law_mixed (T : Tx K mg) : FnOk P w K mg base CX0 1 T.law_mixed.a T.law_mixed.d ["number", "k", "limit"] (sp_law_mixed) := by
  refine T.law_mixed.f.ok sc_law_mixed (fun vs H Q E h => ?_) (fun cdv A outer s H vs Q E hr h => ⟨_, pss_cons (ps_set (i := 3) sc_law_mixed.nd rfl (Or.inl rfl) (pe_op op_mod (pe_callTy Gx.c_int rfl T.n_int (by decide +kernel) (pa_cons (pe_op op_mul (pe_op op_add (pe_op op_add (pv 0) (pe_op op_mul (pe_int) (pv 1))) (pe_int)) (pe_int)) pa_nil)) (pe_int)))
      (pss_cons (ps_set (i := 4) sc_law_mixed.nd rfl (Or.inl rfl) (pe_op op_mod (pe_callTy Gx.c_int rfl T.n_int (by decide +kernel) (pa_cons (pe_op op_add (pe_op op_mul (pv 3) (pv 3)) (pe_op op_mul (pe_int) (pv 1))) pa_nil)) (pe_int)))
      (pss_one (ps_ret (pe_op op_mod (pe_op op_mod (pe_callTy Gx.c_int rfl T.n_int (by decide +kernel) (pa_cons (pe_op op_add (pe_op op_mul (pv 4) (pe_int)) (pv 3)) pa_nil)) (pe_int)) (pv 2))))), ?_⟩)
  · obtain ⟨n, k, l, rfl, _⟩ := h
    rfl
  · skip
    obtain ⟨n, k, l, rfl, hl, q⟩ := h
    walk_at "go"
    refine Gx.ic (.inl (by decide)) ?_
    walk_at "go"
    refine Gx.ic (.inr (by decide)) ?_
    walk_at "go"
    refine Gx.ic (by decide) ?_
    generalize e1 : ((n + 7 * k + 1) * 48271) % 2147483647 = one
    have h1 : 0 ≤ one ∧ one < 2147483647 := by omega
    walk_at "go"
    refine Gx.ic (.inl (by omega)) ?_
    walk_at "go"
    refine Gx.ic (.inl (by decide)) ?_
    walk_at "go"
    refine Gx.ic (by decide) ?_
    walk_at "go"
    refine Gx.ic (.inr (by decide)) ?_
    walk_at "go"
    refine Gx.ic (by decide) ?_
    walk_at "go"
    refine Gx.ic hl ?_
    exact q _ (Int.emod_nonneg _ (by omega)) (Int.emod_lt_of_pos _ hl)

theorem cp_law_mixed {n k l : Int} {H : Hp} {Q : VK} {E : XK} (hl : 0 < l) (q : ∀ r, 0 ≤ r → r < l → Q (.int r) H) : Gx.CP sp_law_mixed [.int n, .int k, .int l] [] H Q E := ⟨n, k, l, rfl, hl, q⟩

/-- a new list of so many numbers from 0 on below the limit -/
def sp_law_numbers : Sp := fun vs H Q _ => ∃ (c : Int) (n : Nat) (l : Int), vs = [.int c, .int (n : Int), .int l] ∧ 0 < l ∧ l < 1073741824 ∧ n ≤ 100000 ∧
  ∀ (xs : List Int) (p : Addr) (H' : Hp), xs.length = n → (∀ x ∈ xs, 0 ≤ x ∧ x < l) → H p = none → Same H H' → H' p = some (.lst (xs.map V.int)) → Q (.ref p) H'

theorem sc_law_numbers : FnScope ["cell", "count", "limit", "rest", "large", "numbers", "k"] ["cell", "count", "limit"] (defScope s_law_numbers) := ⟨rfl, rfl, rfl, by decide +kernel, rfl, by decide +kernel, by decide +kernel⟩
theorem ok_law_numbers (T : Tx K mg) : FnOk P w K mg base CX0 2 T.law_numbers.a T.law_numbers.d ["cell", "count", "limit"] (sp_law_numbers) := by
  refine T.law_numbers.f.ok sc_law_numbers (fun vs H Q E h => ?_) (fun cdv A outer s H vs Q E hr h => ⟨_, pss_cons (ps_set (i := 3) sc_law_numbers.nd rfl (Or.inl rfl) (pe_callB Gx.c_abs rfl T.n_abs (by decide +kernel) (pa_cons (pv 0) pa_nil)))
      (pss_cons (ps_set (i := 4) sc_law_numbers.nd rfl (Or.inl rfl) (pe_cmpR op_ge (pv 3) (pe_op op_pow (pe_int) (pe_int)) (nomark _)))
      (pss_cons (ps_set (i := 5) sc_law_numbers.nd rfl (Or.inl rfl) (pe_lst pa_nil))
      (pss_cons (ps_for PassesOwn.never rfl (pi_range1 rfl T.n_range (pa_cons (pv 1) pa_nil)) (pg_name (i := 6) sc_law_numbers.nd rfl (Or.inl rfl))
      (pss_one (ps_if (PW.pt (pw_and (pt_val (pv 4)) (pw_and1 (pt_cmpR op_gt (pv 3) (pe_int) (nomark _))))) (pss_cons (ps_expr (pe_bm PySem.F.plainAttrs_list PySem.F.slot_list_append PySem.F.type_list_append mt_append (pv 5) (pa_cons (pe_op op_mod (pe_callTy Gx.c_int rfl T.n_int (by decide +kernel) (pa_cons (pv 3) pa_nil)) (pv 2)) pa_nil)))
      (pss_one (ps_set (i := 3) sc_law_numbers.nd rfl (Or.inl rfl) (pe_op op_fdiv (pv 3) (pv 2))))) (pss_one (ps_expr (pe_bm PySem.F.plainAttrs_list PySem.F.slot_list_append PySem.F.type_list_append mt_append (pv 5) (pa_cons (pe_call (ok_law_mixed T) (hr.mono (by decide)) rfl T.law_mixed.g T.law_mixed.f.kp T.law_mixed.b .nil pass0 (pa_cons (pe_callB Gx.c_abs rfl T.n_abs (by decide +kernel) (pa_cons (pv 0) pa_nil)) (pa_cons (pv 6) (pa_cons (pv 2) pa_nil)))) pa_nil)))))))
      (pss_one (ps_ret (pv 5)))))), ?_⟩)
  · obtain ⟨c, n, l, rfl, _⟩ := h
    rfl
  · skip
    obtain ⟨c, n, l, rfl, h0, h1, hn, q⟩ := h
    walk_at "go"
    refine Gx.ic ⟨by decide, by decide, by decide⟩ ?_
    walk_at "go"
    refine Gx.lstP (Nat.zero_le _) fun p hp => ?_
    walk_at "go"
    refine Gx.r1 (by omega) (by omega) ?_
    refine Gx.fwR (fun i σ' H' => ∃ (xs : List Int) (r : Int) (b : Bool) (kv : Option V), xs.length = i ∧ (∀ x ∈ xs, 0 ≤ x ∧ x < l) ∧ H p = none ∧ Same H H' ∧ H' p = some (.lst (xs.map V.int)) ∧
      σ' = [some (.int c), some (.int (n : Int)), some (.int l), some (.int r), some (.bl b), some (.ref p), kv]) ?_ ?_ ?_
    · exact ⟨[], _, _, none, rfl, (fun _ z => nomatch z), hp, (fun b o e => by rw [upd_ne (ne_of_none e hp)]; exact e), upd_same, rfl⟩
    · rintro i σ' H' hi ⟨xs, r, b, kv, hx, hb, hp0, hs, hL, rfl⟩
      have hz : (xs.map V.int).length < sizeLine := by rw [List.length_map, sizeLine_eq]; omega
      have fin : ∀ (x : Int) (r' : Int) (kv' : Option V), 0 ≤ x → x < l → ∃ (ys : List Int) (r : Int) (b' : Bool) (kv : Option V), ys.length = i + 1 ∧ (∀ x ∈ ys, 0 ≤ x ∧ x < l) ∧ H p = none ∧ Same H (upd H' p (.lst (xs.map V.int ++ [.int x]))) ∧
          upd H' p (.lst (xs.map V.int ++ [.int x])) p = some (.lst (ys.map V.int)) ∧
          [some (V.int c), some (.int (n : Int)), some (.int l), some (.int r'), some (.bl b), some (.ref p), kv'] = [some (V.int c), some (.int (n : Int)), some (.int l), some (.int r), some (.bl b'), some (.ref p), kv] := by
        intro x r' kv' hx0 hx1
        refine ⟨xs ++ [x], r', b, kv', by rw [List.length_append, hx]; rfl, fun y hy => ?_, hp0, fun a o e => ?_, ?_, rfl⟩
        · rcases List.mem_append.mp hy with z | z
          · exact hb y z
          · rw [List.mem_singleton.mp z]; exact ⟨hx0, hx1⟩
        · rw [upd_ne (ne_of_none e hp0)]; exact hs a o e
        · rw [upd_same, List.map_append]; rfl
      walk_at "go"
      refine Gx.if_b (fun hb1 => ?_) (fun hb1 => ?_)
      · walk_at "go"
        refine Gx.if_d (fun hr1 => ?_) (fun hr1 => ?_)
        · walk_at "go"
          refine Gx.bmS (Gx.tyL (SqL.of hL)) ?_
          walk_at "go"
          refine Gx.ic h0 ?_
          walk_at "go"
          refine Gx.app hL hz ?_
          walk_at "go"
          refine Gx.ic ⟨h0, h1⟩ ?_
          walk_at "go"
          exact fin _ _ _ (Int.emod_nonneg _ (by omega)) (Int.emod_lt_of_pos _ h0)
        · walk_at "go"
          refine Gx.bmS (Gx.tyL (SqL.of hL)) ?_
          walk_at "go"
          refine cp_law_mixed h0 fun y hy0 hy1 => ?_
          walk_at "go"
          refine Gx.app hL hz ?_
          exact fin _ _ _ hy0 hy1
      · walk_at "go"
        refine Gx.bmS (Gx.tyL (SqL.of hL)) ?_
        walk_at "go"
        refine cp_law_mixed h0 fun y hy0 hy1 => ?_
        walk_at "go"
        refine Gx.app hL hz ?_
        exact fin _ _ _ hy0 hy1
    · rintro σ' H' ⟨xs, r, b, kv, hx, hb, hp0, hs, hL, rfl⟩
      walk_at "go"
      exact q xs p H' (by omega) hb hp0 hs hL

theorem cp_law_numbers {c n l : Int} {H : Hp} {Q : VK} {E : XK} (hn : 0 ≤ n ∧ n ≤ 100000) (h0 : 0 < l) (h1 : l < 1073741824)
    (q : ∀ (xs : List Int) (p : Addr) (H' : Hp), xs.length = n.toNat → (∀ x ∈ xs, 0 ≤ x ∧ x < l) → H p = none → Same H H' → H' p = some (.lst (xs.map V.int)) → Q (.ref p) H') : Gx.CP sp_law_numbers [.int c, .int n, .int l] [] H Q E :=
  ⟨c, n.toNat, l, by rw [List.append_nil, Int.toNat_of_nonneg hn.1], h0, h1, by omega, q⟩

def sp_gray_bit : Sp := fun vs H Q _ => ∃ (v p : Nat), vs = [.int (v : Int), .int (p : Int)] ∧ Q (.int (Gy.gb v p : Nat)) H

theorem sc_gray_bit : FnScope ["value", "plane"] ["value", "plane"] (defScope s_gray_bit) := ⟨rfl, rfl, rfl, by decide +kernel, rfl, by decide +kernel, by decide +kernel⟩
theorem ok_gray_bit (T : Tx K mg) : FnOk P w K mg base CX0 1 T.gray_bit.a T.gray_bit.d ["value", "plane"] (sp_gray_bit) := by
  refine T.gray_bit.f.ok sc_gray_bit (fun vs H Q E h => ?_) (fun cdv A outer s H vs Q E hr h => ⟨_, pss_one (ps_ret (pe_op op_and (pe_op op_xor (pe_op op_shr (pv 0) (pv 1)) (pe_op op_shr (pv 0) (pe_op op_add (pv 1) (pe_int)))) (pe_int))), ?_⟩)
  · obtain ⟨v, p, rfl, _⟩ := h
    rfl
  · skip
    obtain ⟨v, p, rfl, q⟩ := h
    walk_at "go"
    refine Gx.ic (by walk_at "side") ?_
    walk_at "go"
    refine Gx.ic (by walk_at "side") ?_
    walk_at "go"
    rw [show (Builtin.bitAnd (Builtin.bitXor ((v : Int) / 2 ^ (p : Int).toNat) ((v : Int) / 2 ^ ((p : Int) + 1).toNat)) 1) = ((Gy.gb v p : Nat) : Int) from Gy.gb_int v p]
    exact q

theorem cp_gray_bit {a b : Int} {H : Hp} {Q : VK} {E : XK} (h0 : 0 ≤ a) (h1 : 0 ≤ b) (q : Q (.int (Gy.gb a.toNat b.toNat : Nat)) H) : Gx.CP sp_gray_bit [.int a, .int b] [] H Q E :=
  ⟨a.toNat, b.toNat, by rw [List.append_nil, Int.toNat_of_nonneg h0, Int.toNat_of_nonneg h1], q⟩

/-- a cell of the script, 0 beyond its end -/
def sp_law_cell (K : PySem.W.Frag) : Sp := fun vs H Q _ => ∃ (a : Addr) (ns : List Int) (k : Nat), vs = [.ref a, .int (k : Int)] ∧ SqL K H a (ns.map V.int) ∧ k < 100000 ∧ Q (.int (ns.getD k 0)) H
theorem at_map {ns : List Int} {k : Nat} (h : k < ns.length) : atI (ns.map V.int) (k : Int) = some (.int (ns.getD k 0)) := by
  refine atI_nat ?_
  rw [List.getElem?_map, List.getElem?_eq_getElem h]
  simp [List.getD_eq_getElem?_getD, List.getElem?_eq_getElem h]

theorem sc_law_cell : FnScope ["script", "k"] ["script", "k"] (defScope s_law_cell) := ⟨rfl, rfl, rfl, by decide +kernel, rfl, by decide +kernel, by decide +kernel⟩
theorem ok_law_cell (T : Tx K mg) : FnOk P w K mg base CX0 1 T.law_cell.a T.law_cell.d ["script", "k"] (sp_law_cell K) := by
  refine T.law_cell.f.ok sc_law_cell (fun vs H Q E h => ?_) (fun cdv A outer s H vs Q E hr h => ⟨_, pss_cons (ps_if (pt_cmpR op_lt (pv 1) (pe_callB Gx.c_len rfl T.n_len (by decide +kernel) (pa_cons (pv 0) pa_nil)) (nomark _)) (pss_one (ps_ret (pe_ix ix_seq (pv 0) (pv 1) (fun _ _ => rfl)))) (pss_nil))
      (pss_one (ps_ret (pe_int))), ?_⟩)
  · obtain ⟨a, ns, k, rfl, _⟩ := h
    rfl
  · skip
    obtain ⟨a, ns, k, rfl, hs, hk, q⟩ := h
    walk_at "go"
    refine Gx.lenL hs ?_
    walk_at "go"
    refine Gx.if_d (fun hlt => ?_) (fun hge => ?_)
    · rw [List.length_map] at hlt
      walk_at "go"
      exact Gx.ixL hs (at_map (by omega)) q
    · rw [List.length_map] at hge
      walk_at "go"
      have e : ns.getD k 0 = 0 := by
        rw [List.getD_eq_getElem?_getD, List.getElem?_eq_none (by omega)]; rfl
      rw [e] at q
      exact q

theorem cp_law_cell {K : PySem.W.Frag} {a : Addr} {ns : List Int} {k : Int} {H : Hp} {Q : VK} {E : XK} (hs : SqL K H a (ns.map V.int)) (h0 : 0 ≤ k) (h1 : k < 100000) (q : ∀ z : Int, (z ∈ ns ∨ z = 0) → Q (.int z) H) : Gx.CP (sp_law_cell K) [.ref a, .int k] [] H Q E := by
  refine ⟨a, ns, k.toNat, by rw [List.append_nil, Int.toNat_of_nonneg h0], hs, by omega, q _ ?_⟩
  rw [List.getD_eq_getElem?_getD]
  by_cases h : k.toNat < ns.length
  · rw [List.getElem?_eq_getElem h]; exact .inl (List.getElem_mem h)
  · rw [List.getElem?_eq_none (by omega)]; exact .inr rfl

def sp_law_is_int : Sp := fun vs H Q _ => ∃ i : Int, vs = [.int i] ∧ Q (.bl true) H

theorem sc_law_is_int : FnScope ["actual"] ["actual"] (defScope s_law_is_int) := ⟨rfl, rfl, rfl, by decide +kernel, rfl, by decide +kernel, by decide +kernel⟩
theorem ok_law_is_int (T : Tx K mg) : FnOk P w K mg base CX0 1 T.law_is_int.a T.law_is_int.d ["actual"] (sp_law_is_int) := by
  refine T.law_is_int.f.ok sc_law_is_int (fun vs H Q E h => ?_) (fun cdv A outer s H vs Q E hr h => ⟨_, pss_one (ps_ret (pe_and (pe_callB call_isi rfl T.n_isinstance (by decide +kernel) (pa_cons (pv 0) (pa_cons (pe_bltn (v := .ty "int") rfl T.n_int (by decide +kernel) rfl) pa_nil))) (pe_one (pe_not (pe_callB call_isi rfl T.n_isinstance (by decide +kernel) (pa_cons (pv 0) (pa_cons (pe_bltn (v := .ty "bool") rfl T.n_bool (by decide +kernel) rfl) pa_nil))))))), ?_⟩)
  · obtain ⟨i, rfl, _⟩ := h
    rfl
  · skip
    obtain ⟨i, rfl, q⟩ := h
    walk_at "go"
    refine Gx.isiI ?_ (by decide +kernel : kitB "int" "int" = some true)
    walk_at "go"
    refine Gx.isiI ?_ (by decide +kernel : kitB "int" "bool" = some false)
    walk_at "go"
    exact q

theorem cp_law_is_int {i : Int} {H : Hp} {Q : VK} {E : XK} (q : Q (.bl true) H) : Gx.CP sp_law_is_int [.int i] [] H Q E := ⟨i, rfl, q⟩


theorem sc_law : FnScope ["script", "planes", "value", "due", "told", "plane", "bit", "back", "bits", "made", "unlike", "k"] ["script"] (defScope s_law) := ⟨rfl, rfl, rfl, by decide +kernel, rfl, by decide +kernel, by decide +kernel⟩
theorem ok_law (T : Tx K mg) : FnOk P w K mg base CX0 3 T.law.a T.law.d ["script"] (spLaw K) := by
  refine T.law.f.ok sc_law (fun vs H Q E h => ?_) (fun cdv A outer s H vs Q E hr h => ⟨_, pss_cons (ps_set (i := 1) sc_law.nd rfl (Or.inl rfl) (pe_ifExp (pt_cmpR op_eq (pe_op op_mod (pe_call (ok_law_cell T) (hr.mono (by decide)) rfl T.law_cell.g T.law_cell.f.kp T.law_cell.b .nil pass0 (pa_cons (pv 0) (pa_cons (pe_int) pa_nil))) (pe_int)) (pe_int) (nomark _)) (pe_int) (pe_int)))
      (pss_cons (ps_set (i := 2) sc_law.nd rfl (Or.inr rfl) (pe_op op_mod (pe_callTy Gx.c_int rfl T.n_int (by decide +kernel) (pa_cons (pe_callB Gx.c_abs rfl T.n_abs (by decide +kernel) (pa_cons (pe_call (ok_law_cell T) (hr.mono (by decide)) rfl T.law_cell.g T.law_cell.f.kp T.law_cell.b .nil pass0 (pa_cons (pv 0) (pa_cons (pe_int) pa_nil))) pa_nil)) pa_nil)) (pe_op op_shl (pe_int) (pv 1))))
      (pss_cons (ps_set (i := 3) sc_law.nd rfl (Or.inl rfl) (pe_call (ok_law_grays T) (hr.mono (by decide)) rfl T.law_grays.g T.law_grays.f.kp T.law_grays.b .nil pass0 (pa_cons (pv 2) (pa_cons (pv 1) pa_nil))))
      (pss_cons (ps_setLc (i := 4) (own := [("plane", 5)]) (g := gName 5) (tt := tYes) rfl sc_law.nd rfl rfl (sw_true rfl rfl rfl (by decide +kernel)) (pi_revR rfl T.n_reversed (prg_1 rfl T.n_range (pv 1))) (blkOk_by (own := [("plane", 5)]) (N := ["script", "planes", "value", "due", "told", "plane", "bit", "back", "bits", "made", "unlike", "k"]) (sc := defScope s_law) (by decide +kernel)) (fun _ _ _ _ _ => pg_name (i := 5) sc_law.nd rfl (Or.inl rfl)) (fun _ _ _ _ _ => pts_nil) (fun _ _ _ _ _ => pe_call (ok_gray_bit T) (hr.mono (by decide)) rfl T.gray_bit.g T.gray_bit.f.kp T.gray_bit.b .nil pass0 (pa_cons (pv 2) (pa_cons (pv 5) pa_nil))))
      (pss_cons (ps_if (PW.pt (pw_or (pt_not (pt_val (pe_callB (cr_all rfl) rfl T.n_all (by decide +kernel) (pa_cons (pe_lc (own := [("bit", 6)]) (g := gName 6) (tt := tYes) rfl sc_law.nd (pi_list (pv 4)) (blkOk_by (own := [("bit", 6)]) (N := ["script", "planes", "value", "due", "told", "plane", "bit", "back", "bits", "made", "unlike", "k"]) (sc := defScope s_law) (by decide +kernel)) (fun _ _ _ _ _ => pg_name (i := 6) sc_law.nd rfl (Or.inl rfl)) (fun _ _ _ _ _ => pts_nil) (fun _ _ _ _ _ => pe_call (ok_law_is_int T) (hr.mono (by decide)) rfl T.law_is_int.g T.law_is_int.f.kp T.law_is_int.b .nil pass0 (pa_cons (pv 6) pa_nil))) pa_nil)))) (pw_or1 (pt_cmpR (op_neD hr.units) (pv 4) (pv 3) (nomark _))))) (pss_one (ps_ret (pe_bl))) (pss_nil))
      (pss_cons (ps_set (i := 7) sc_law.nd rfl (Or.inl rfl) (pe_call (ok_value_of T) (hr.mono (by decide)) rfl T.value_of.g T.value_of.f.kp T.value_of.b .nil pass0 (pa_cons (pe_callTy Gx.c_list rfl T.n_list (by decide +kernel) (pa_cons (pv 3) pa_nil)) pa_nil)))
      (pss_cons (ps_if (PW.pt (pw_or (pt_not (pt_val (pe_call (ok_law_is_int T) (hr.mono (by decide)) rfl T.law_is_int.g T.law_is_int.f.kp T.law_is_int.b .nil pass0 (pa_cons (pv 7) pa_nil)))) (pw_or1 (pt_cmpR op_ne (pv 7) (pv 2) (nomark _))))) (pss_one (ps_ret (pe_bl))) (pss_nil))
      (pss_cons (ps_set (i := 8) sc_law.nd rfl (Or.inl rfl) (pe_call (ok_law_numbers T) (hr.mono (by decide)) rfl T.law_numbers.g T.law_numbers.f.kp T.law_numbers.b .nil pass0 (pa_cons (pe_call (ok_law_cell T) (hr.mono (by decide)) rfl T.law_cell.g T.law_cell.f.kp T.law_cell.b .nil pass0 (pa_cons (pv 0) (pa_cons (pe_int) pa_nil))) (pa_cons (pv 1) (pa_cons (pe_int) pa_nil)))))
      (pss_cons (ps_set (i := 9) sc_law.nd rfl (Or.inl rfl) (pe_call (ok_value_of T) (hr.mono (by decide)) rfl T.value_of.g T.value_of.f.kp T.value_of.b .nil pass0 (pa_cons (pv 8) pa_nil)))
      (pss_cons (ps_if (PW.pt (pw_or (pt_not (pt_val (pe_call (ok_law_is_int T) (hr.mono (by decide)) rfl T.law_is_int.g T.law_is_int.f.kp T.law_is_int.b .nil pass0 (pa_cons (pv 9) pa_nil)))) (pw_or (pt_cmpR op_lt (pv 9) (pe_int) (nomark _)) (pw_or (pt_cmpR op_ge (pv 9) (pe_op op_shl (pe_int) (pv 1)) (nomark _)) (pw_or1 (pt_cmpR (op_neD hr.units) (pe_call (ok_law_grays T) (hr.mono (by decide)) rfl T.law_grays.g T.law_grays.f.kp T.law_grays.b .nil pass0 (pa_cons (pv 9) (pa_cons (pv 1) pa_nil))) (pv 8) (nomark _))))))) (pss_one (ps_ret (pe_bl))) (pss_nil))
      (pss_cons (ps_if (PW.pt (pw_or (pt_cmpR op_ne (pe_call (ok_value_of T) (hr.mono (by decide)) rfl T.value_of.g T.value_of.f.kp T.value_of.b .nil pass0 (pa_cons (pe_lst pa_nil) pa_nil)) (pe_int) (nomark _)) (pw_or1 (pt_cmpR op_ne (pe_call (ok_gray_bit T) (hr.mono (by decide)) rfl T.gray_bit.g T.gray_bit.f.kp T.gray_bit.b .nil pass0 (pa_cons (pv 2) (pa_cons (pv 1) pa_nil))) (pe_int) (nomark _))))) (pss_one (ps_ret (pe_bl))) (pss_nil))
      (pss_cons (ps_set (i := 5) sc_law.nd rfl (Or.inl rfl) (pe_int))
      (pss_cons (ps_while PassesOwn.never (PW.pt (pw_and (pt_cmpR op_lt (pv 5) (pv 1) (nomark _)) (pw_and1 (pt_cmpR op_eq (pe_op op_mod (pe_op op_add (pv 2) (pe_int)) (pe_op op_shl (pe_int) (pe_op op_add (pv 5) (pe_int)))) (pe_int) (nomark _)))))
      (pss_one (ps_set (i := 5) sc_law.nd rfl (Or.inl rfl) (pe_op op_add (pv 5) (pe_int)))))
      (pss_cons (ps_setLc (i := 10) (own := [("k", 11)]) (g := gName 11) rfl sc_law.nd rfl rfl (sw_true rfl rfl rfl (by decide +kernel)) (pi_range1 rfl T.n_range (pa_cons (pe_op op_add (pv 1) (pe_int)) pa_nil)) (blkOk_by (own := [("k", 11)]) (N := ["script", "planes", "value", "due", "told", "plane", "bit", "back", "bits", "made", "unlike", "k"]) (sc := defScope s_law) (by decide +kernel)) (fun _ _ _ _ _ => pg_name (i := 11) sc_law.nd rfl (Or.inl rfl)) (fun _ _ _ _ _ => pts_one (pt_cmpR op_ne (pe_call (ok_gray_bit T) (hr.mono (by decide)) rfl T.gray_bit.g T.gray_bit.f.kp T.gray_bit.b .nil pass0 (pa_cons (pv 2) (pa_cons (pv 11) pa_nil))) (pe_call (ok_gray_bit T) (hr.mono (by decide)) rfl T.gray_bit.g T.gray_bit.f.kp T.gray_bit.b .nil pass0 (pa_cons (pe_op op_add (pv 2) (pe_int)) (pa_cons (pv 11) pa_nil))) (nomark _))) (fun _ _ _ _ _ => pv 11))
      (pss_one (ps_ret (pe_cmpR (op_eqD hr.units) (pv 10) (pe_lst (pa_cons (pv 5) pa_nil)) (nomark _))))))))))))))))), ?_⟩)
  · obtain ⟨a, ns, rfl, _⟩ := h
    rfl
  · skip
    obtain ⟨a, ns, rfl, hs, hlen, hbits, q⟩ := h
    walk_at "go"
    refine cp_law_cell hs (by decide) (by decide) fun c1 _ => ?_
    walk_at "go"
    refine Gx.ic (by decide) ?_
    walk_at "go"
    refine Gx.if_two fun n hn => ?_
    obtain ⟨n, rfl⟩ : ∃ m : Nat, n = m := ⟨n.toNat, by omega⟩
    have hn : n ≤ 60 := by omega
    walk_at "go"
    refine cp_law_cell hs (by decide) (by decide) fun c2 _ => ?_
    walk_at "go"
    refine Gx.ic ⟨by omega, by omega, by decide⟩ ?_
    rw [Gy.pw]
    have hp2 : (0 : Int) < ((2 ^ n : Nat) : Int) := Int.natCast_pos.mpr (Nat.two_pow_pos n)
    refine Gx.ic hp2 ?_
    obtain ⟨v, hv, hvn⟩ : ∃ v : Nat, (if c2 < 0 then -c2 else c2) % ((2 ^ n : Nat) : Int) = (v : Int) ∧ v < 2 ^ n := by
      have h1 := Int.emod_nonneg (if c2 < 0 then -c2 else c2) (b := ((2 ^ n : Nat) : Int)) (by omega)
      have h2 := Int.emod_lt_of_pos (if c2 < 0 then -c2 else c2) hp2
      exact ⟨((if c2 < 0 then -c2 else c2) % ((2 ^ n : Nat) : Int)).toNat, by omega, by omega⟩
    rw [hv]
    walk_at "go"
    refine cp_law_grays (by omega) (by omega) fun pd H1 hpd s1 hd => ?_
    rw [Int.toNat_natCast, Int.toNat_natCast] at hd
    walk_at "go"
    refine Gx.rr ⟨by decide, by decide, by omega, by omega⟩ ?_
    refine Gx.lcMap walk_rangeC (by omega) (fun i => .int ((Gy.gb v (n - 1 - i) : Nat) : Int)) (fun _ _ => trivial) Gx.sameFn ?_ ?_
    · rintro i x H2 H2' R R0 hi _ ⟨rfl, hx⟩ hr
      have hx2 : x = .int ((n - 1 - i : Nat) : Int) := hx.trans (congrArg V.int (by omega))
      subst hx2
      walk_at "go"
      refine cp_gray_bit (by omega) (by omega) ?_
      rw [Int.toNat_natCast, Int.toNat_natCast]
      exact hr _ (Same.refl _)
    intro pt H2 hpt s2 ht
    rw [Int.sub_zero, Int.toNat_natCast] at ht
    walk_at "go"
    have ht' : SqL K H2 pt ((Gy.grays v n).map fun g : Nat => V.int (g : Int)) := SqL.of (by rw [ht]; unfold Gy.grays; rw [List.map_map]; rfl)
    refine Gx.lp (SqL.of ht) ?_
    refine Gx.lcMap walk_list (by rw [List.length_map, List.length_range]; omega) (fun _ => .bl true) (fun _ s => s.seq (SqL.of ht)) Gx.sameAt ?_ ?_
    · rintro i x H3 H3' R R0 hi _ ⟨rfl, hx⟩ hr
      rw [List.getElem?_map] at hx
      obtain ⟨j, _, rfl⟩ : ∃ j, (List.range n)[i]? = some j ∧ x = V.int ((Gy.gb v (n - 1 - j) : Nat) : Int) := by
        cases e : (List.range n)[i]? with
        | none => rw [e] at hx; cases hx
        | some j => rw [e] at hx; exact ⟨j, rfl, (Option.some.inj hx).symm⟩
      walk_at "go"
      refine cp_law_is_int ?_
      exact hr _ (Same.refl _)
    intro pa H3 hpa s3 hal
    rw [List.length_map, List.length_range] at hal
    walk_at "go"
    refine Gx.allP (bs := List.replicate n true) (SqL.of (by rw [hal, List.map_replicate, List.map_const', List.length_range])) ?_
    rw [show (List.replicate n true).all id = true by simp]
    walk_at "go"
    refine Gx.neDI (xs := (Gy.grays v n).map fun g : Nat => (g : Int)) (ys := (Gy.grays v n).map fun g : Nat => (g : Int)) (s3.seq (by rw [List.map_map]; exact ht')) ((s2.trans s3).seq (SqL.of (by rw [hd, List.map_map]; rfl))) ?_
    rw [decide_eq_true rfl]
    walk_at "go"
    refine Gx.listL ((s2.trans s3).seq (SqL.of hd)) fun pl hpl => ?_
    walk_at "go"
    refine cp_value_of (SqL.of upd_same) ?_
    rw [Gy.val_grays hvn]
    walk_at "go"
    refine cp_law_is_int ?_
    walk_at "go"
    rw [decide_eq_true rfl]
    walk_at "go"
    have s4 : Same H (upd H3 pl (.lst ((Gy.grays v n).map fun g : Nat => V.int (g : Int)))) := Gx.same_up ((s1.trans (s2.trans s3)).free hpl) (s1.trans (s2.trans s3))
    refine cp_law_cell (s4.seq hs) (by decide) (by decide) fun c3 _ => ?_
    walk_at "go"
    refine cp_law_numbers (by omega) (by decide) (by decide) fun xs pb H5 hxl hx hpb s5 hb => ?_
    rw [Int.toNat_natCast] at hxl
    obtain ⟨bs, rfl, hbs⟩ : ∃ bs : List Nat, xs = bs.map (fun b : Nat => (b : Int)) ∧ ∀ b ∈ bs, b ≤ 1 := Gy.nats_of hx
    rw [List.length_map] at hxl
    walk_at "go"
    refine cp_value_of (gs := bs) (SqL.of (by rw [hb, List.map_map]; rfl)) ?_
    obtain ⟨hm1, hm2⟩ := Gy.grays_val hbs
    rw [hxl] at hm1 hm2
    walk_at "go"
    refine cp_law_is_int ?_
    walk_at "go"
    refine Gx.if_dno (by omega) ?_
    walk_at "go"
    refine Gx.ic ⟨by omega, by omega, by decide⟩ ?_
    rw [Gy.pw]
    walk_at "go"
    refine Gx.if_dno (by omega) ?_
    walk_at "go"
    refine cp_law_grays (by omega) (by omega) fun pg H6 hpg s6 hg => ?_
    rw [Int.toNat_natCast, Int.toNat_natCast, hm2] at hg
    walk_at "go"
    refine Gx.neDI (xs := bs.map fun g : Nat => (g : Int)) (ys := bs.map fun g : Nat => (g : Int)) (SqL.of (by rw [hg, List.map_map]; rfl)) (s6.seq (SqL.of hb)) ?_
    rw [decide_eq_true rfl]
    walk_at "go"
    refine Gx.lstP (Nat.zero_le _) fun pe hpe => ?_
    refine cp_value_of (gs := []) (SqL.of upd_same) ?_
    walk_at "go"
    rw [show decide (((Gy.val [] : Nat) : Int) = 0) = true by decide]
    walk_at "go"
    refine cp_gray_bit (by omega) (by omega) ?_
    rw [Int.toNat_natCast, Int.toNat_natCast, Gy.gb_top hvn]
    walk_at "go"
    rw [show decide (((0 : Nat) : Int) = 0) = true by decide]
    walk_at "go"
    refine Gx.whl (fun m σ' H' => H' = upd H6 pe (.lst []) ∧ ∃ t : Nat, m + t = n ∧ t ≤ n ∧ (v + 1) % 2 ^ t = 0 ∧
      σ' = [some (.ref a), some (.int (n : Int)), some (.int (v : Int)), some (.ref pd), some (.ref pt), some (.int (t : Int)), none, some (.int (v : Int)), some (.ref pb), some (.int (Gy.val bs : Nat)), none, none]) n
      ⟨rfl, 0, rfl, Nat.zero_le _, by simp [Nat.mod_one], rfl⟩ ?_
    rintro m σ' H' ⟨rfl, t, hmt, htn, hw, rfl⟩
    walk_at "go"
    refine Gx.if_andc (d := decide ((((v + 1) % 2 ^ (t + 1) : Nat) : Int) = 0)) (fun hb => ?_) ?_
    · walk_at "go"
      refine Gx.ic ⟨by omega, by omega, by decide⟩ ?_
      rw [Gy.pw1]
      refine Gx.ic (Int.natCast_pos.mpr (Nat.two_pow_pos _)) ?_
      walk_at "go"
      exact hb
    refine Gx.whI_b (fun hc => ?_) (fun hc => ?_)
    · rw [Bool.and_eq_true, decide_eq_true_eq, decide_eq_true_eq] at hc
      walk_at "go"
      exact ⟨m - 1, by omega, rfl, t + 1, by omega, by omega, by omega, rfl⟩
    · have h3 : t < n → (v + 1) % 2 ^ (t + 1) ≠ 0 := fun h z => by
        rw [decide_eq_true (show (t : Int) < n by omega), decide_eq_true (by omega)] at hc
        cases hc
      walk_at "go"
      refine Gx.r1 (by omega) (by omega) ?_
      refine Gx.lcFil walk_range (by omega) (fun i => !decide (Gy.gb v i = Gy.gb (v + 1) i)) (fun i => .int (i : Int)) (fun _ _ => trivial) Gx.sameFn ?_ ?_
      · rintro i x H7 H7' R R0 hi _ ⟨rfl, hx⟩ hr hr0
        have hx2 : x = .int (i : Int) := hx.trans (congrArg V.int (by omega))
        subst hx2
        walk_at "go"
        refine cp_gray_bit (by omega) (by omega) ?_
        walk_at "go"
        refine cp_gray_bit (by omega) (by omega) ?_
        walk_at "go"
        rw [Int.toNat_natCast, Int.toNat_natCast, show ((v : Int) + 1).toNat = v + 1 by omega]
        have e : (!decide (((Gy.gb v i : Nat) : Int) = ((Gy.gb (v + 1) i : Nat) : Int))) = (!decide (Gy.gb v i = Gy.gb (v + 1) i)) := by
          congr 1; exact decide_eq_decide.mpr (by omega)
        rw [e]
        refine Gx.if_b (fun h => ?_) (fun h => ?_)
        · walk_at "go"
          exact hr h _ (Same.refl _)
        · exact hr0 h _ (Same.refl _)
      intro pu H7 hpu s7 hu
      rw [show ((n : Int) + 1).toNat = n + 1 by omega, Gy.filter_one (t := t) (by omega) (fun k => by
        have h := Gy.gb_diff hvn htn hw h3 k
        by_cases e : k = t
        · rw [decide_eq_true e, decide_eq_false (h.mpr e)]; rfl
        · rw [decide_eq_false e, decide_eq_true (Decidable.byContradiction fun z => e (h.mp z))]; rfl)] at hu
      walk_at "go"
      refine Gx.lstP (by show 1 ≤ sizeLine; decide) fun pz hpz => ?_
      refine Gx.eqDI (xs := [(t : Int)]) (ys := [(t : Int)]) (SqL.of (by rw [upd_ne (ne_of_none hu hpz)]; exact hu)) (SqL.of upd_same) ?_
      rw [decide_eq_true rfl]
      exact q _


end
theorem all_mk {l : PySem.W.OpenLaw} {w : World} {K : PySem.W.Frag} {h : Heap} {mg : Str → Option Value} {fa : Addr} (X : K.In h) (G : h.Ns mainGlobals mg) (hfa : mg "law" = some (.ref fa))
    {f_law_grays : Addr} {od_law_grays an_law_grays : Option Addr} {sl_law_grays : Array (Option Value)} {oc_law_grays kV_law_grays dc_law_grays pm_law_grays cd_law_grays ct_law_grays : Value}
    {f_value_of : Addr} {od_value_of an_value_of : Option Addr} {sl_value_of : Array (Option Value)} {oc_value_of kV_value_of dc_value_of pm_value_of cd_value_of ct_value_of : Value}
    {f_law_mixed : Addr} {od_law_mixed an_law_mixed : Option Addr} {sl_law_mixed : Array (Option Value)} {oc_law_mixed kV_law_mixed dc_law_mixed pm_law_mixed cd_law_mixed ct_law_mixed : Value}
    {f_law_numbers : Addr} {od_law_numbers an_law_numbers : Option Addr} {sl_law_numbers : Array (Option Value)} {oc_law_numbers kV_law_numbers dc_law_numbers pm_law_numbers cd_law_numbers ct_law_numbers : Value}
    {f_gray_bit : Addr} {od_gray_bit an_gray_bit : Option Addr} {sl_gray_bit : Array (Option Value)} {oc_gray_bit kV_gray_bit dc_gray_bit pm_gray_bit cd_gray_bit ct_gray_bit : Value}
    {f_law_cell : Addr} {od_law_cell an_law_cell : Option Addr} {sl_law_cell : Array (Option Value)} {oc_law_cell kV_law_cell dc_law_cell pm_law_cell cd_law_cell ct_law_cell : Value}
    {f_law_is_int : Addr} {od_law_is_int an_law_is_int : Option Addr} {sl_law_is_int : Array (Option Value)} {oc_law_is_int kV_law_is_int dc_law_is_int pm_law_is_int cd_law_is_int ct_law_is_int : Value}
    {f_law : Addr} {od_law an_law : Option Addr} {sl_law : Array (Option Value)} {oc_law kV_law dc_law pm_law cd_law ct_law : Value}
    (a_law_grays : PySem.W.nsIn K mainGlobals "_law_grays" = some (some (.ref f_law_grays)))
    (l_law_grays : K.lookup f_law_grays = some ⟨oc_law_grays, od_law_grays, .func (PySem.W.fnOf "_law_grays" "_law_grays" (defArgs s_law_grays) (defBody s_law_grays) (defScope s_law_grays) .none kV_law_grays dc_law_grays pm_law_grays an_law_grays cd_law_grays ct_law_grays), sl_law_grays⟩)
    (c_law_grays : PySem.W.codeIn K cd_law_grays "_law_grays" = true)
    (k_law_grays : PySem.W.keepIn K (.ref f_law_grays) = true)
    (a_value_of : PySem.W.nsIn K mainGlobals "value_of" = some (some (.ref f_value_of)))
    (l_value_of : K.lookup f_value_of = some ⟨oc_value_of, od_value_of, .func (PySem.W.fnOf "value_of" "value_of" (defArgs s_value_of) (defBody s_value_of) (defScope s_value_of) .none kV_value_of dc_value_of pm_value_of an_value_of cd_value_of ct_value_of), sl_value_of⟩)
    (c_value_of : PySem.W.codeIn K cd_value_of "value_of" = true)
    (k_value_of : PySem.W.keepIn K (.ref f_value_of) = true)
    (a_law_mixed : PySem.W.nsIn K mainGlobals "_law_mixed" = some (some (.ref f_law_mixed)))
    (l_law_mixed : K.lookup f_law_mixed = some ⟨oc_law_mixed, od_law_mixed, .func (PySem.W.fnOf "_law_mixed" "_law_mixed" (defArgs s_law_mixed) (defBody s_law_mixed) (defScope s_law_mixed) .none kV_law_mixed dc_law_mixed pm_law_mixed an_law_mixed cd_law_mixed ct_law_mixed), sl_law_mixed⟩)
    (c_law_mixed : PySem.W.codeIn K cd_law_mixed "_law_mixed" = true)
    (k_law_mixed : PySem.W.keepIn K (.ref f_law_mixed) = true)
    (a_law_numbers : PySem.W.nsIn K mainGlobals "_law_numbers" = some (some (.ref f_law_numbers)))
    (l_law_numbers : K.lookup f_law_numbers = some ⟨oc_law_numbers, od_law_numbers, .func (PySem.W.fnOf "_law_numbers" "_law_numbers" (defArgs s_law_numbers) (defBody s_law_numbers) (defScope s_law_numbers) .none kV_law_numbers dc_law_numbers pm_law_numbers an_law_numbers cd_law_numbers ct_law_numbers), sl_law_numbers⟩)
    (c_law_numbers : PySem.W.codeIn K cd_law_numbers "_law_numbers" = true)
    (k_law_numbers : PySem.W.keepIn K (.ref f_law_numbers) = true)
    (a_gray_bit : PySem.W.nsIn K mainGlobals "gray_bit" = some (some (.ref f_gray_bit)))
    (l_gray_bit : K.lookup f_gray_bit = some ⟨oc_gray_bit, od_gray_bit, .func (PySem.W.fnOf "gray_bit" "gray_bit" (defArgs s_gray_bit) (defBody s_gray_bit) (defScope s_gray_bit) .none kV_gray_bit dc_gray_bit pm_gray_bit an_gray_bit cd_gray_bit ct_gray_bit), sl_gray_bit⟩)
    (c_gray_bit : PySem.W.codeIn K cd_gray_bit "gray_bit" = true)
    (k_gray_bit : PySem.W.keepIn K (.ref f_gray_bit) = true)
    (a_law_cell : PySem.W.nsIn K mainGlobals "_law_cell" = some (some (.ref f_law_cell)))
    (l_law_cell : K.lookup f_law_cell = some ⟨oc_law_cell, od_law_cell, .func (PySem.W.fnOf "_law_cell" "_law_cell" (defArgs s_law_cell) (defBody s_law_cell) (defScope s_law_cell) .none kV_law_cell dc_law_cell pm_law_cell an_law_cell cd_law_cell ct_law_cell), sl_law_cell⟩)
    (c_law_cell : PySem.W.codeIn K cd_law_cell "_law_cell" = true)
    (k_law_cell : PySem.W.keepIn K (.ref f_law_cell) = true)
    (a_law_is_int : PySem.W.nsIn K mainGlobals "_law_is_int" = some (some (.ref f_law_is_int)))
    (l_law_is_int : K.lookup f_law_is_int = some ⟨oc_law_is_int, od_law_is_int, .func (PySem.W.fnOf "_law_is_int" "_law_is_int" (defArgs s_law_is_int) (defBody s_law_is_int) (defScope s_law_is_int) .none kV_law_is_int dc_law_is_int pm_law_is_int an_law_is_int cd_law_is_int ct_law_is_int), sl_law_is_int⟩)
    (c_law_is_int : PySem.W.codeIn K cd_law_is_int "_law_is_int" = true)
    (k_law_is_int : PySem.W.keepIn K (.ref f_law_is_int) = true)
    (a_law : PySem.W.nsIn K mainGlobals "law" = some (some (.ref f_law)))
    (l_law : K.lookup f_law = some ⟨oc_law, od_law, .func (PySem.W.fnOf "law" "law" (defArgs s_law) (defBody s_law) (defScope s_law) .none kV_law dc_law pm_law an_law cd_law ct_law), sl_law⟩)
    (c_law : PySem.W.codeIn K cd_law "law" = true)
    (k_law : PySem.W.keepIn K (.ref f_law) = true)
    (n_abs : PySem.W.nsIn K mainGlobals "abs" = some none)
    (n_all : PySem.W.nsIn K mainGlobals "all" = some none)
    (n_bool : PySem.W.nsIn K mainGlobals "bool" = some none)
    (n_int : PySem.W.nsIn K mainGlobals "int" = some none)
    (n_isinstance : PySem.W.nsIn K mainGlobals "isinstance" = some none)
    (n_len : PySem.W.nsIn K mainGlobals "len" = some none)
    (n_list : PySem.W.nsIn K mainGlobals "list" = some none)
    (n_range : PySem.W.nsIn K mainGlobals "range" = some none)
    (n_reversed : PySem.W.nsIn K mainGlobals "reversed" = some none) :
    ∃ fd : FuncData, (∀ (s : Shared) (v : Value), BindsTo s fd ⟨[v], []⟩ [("script", v)]) ∧ ∀ base : Heap, K.In base → base.Ns mainGlobals mg → FnOk l.prog w K mg base CX0 3 fa fd ["script"] (spLaw K) := by
  have e := hfa.symm.trans (PySem.W.mg_of X G a_law)
  cases e
  have F_law_grays := fun_mk (st := s_law_grays) l_law_grays c_law_grays k_law_grays
  have F_value_of := fun_mk (st := s_value_of) l_value_of c_value_of k_value_of
  have F_law_mixed := fun_mk (st := s_law_mixed) l_law_mixed c_law_mixed k_law_mixed
  have F_law_numbers := fun_mk (st := s_law_numbers) l_law_numbers c_law_numbers k_law_numbers
  have F_gray_bit := fun_mk (st := s_gray_bit) l_gray_bit c_gray_bit k_gray_bit
  have F_law_cell := fun_mk (st := s_law_cell) l_law_cell c_law_cell k_law_cell
  have F_law_is_int := fun_mk (st := s_law_is_int) l_law_is_int c_law_is_int k_law_is_int
  have F_law := fun_mk (st := s_law) l_law c_law k_law
  exact ⟨PySem.W.fnOf "law" "law" (defArgs s_law) (defBody s_law) (defScope s_law) .none kV_law dc_law pm_law an_law cd_law ct_law, fun s v => .of_eq rfl, fun base _ _ => ok_law (mg := mg) {
    law_grays := ⟨_, _, F_law_grays, PySem.W.mg_of X G a_law_grays, F_law_grays.binds fun _ _ _ _ _ _ us hl => match us, hl with | [_, _], _ => rfl⟩,
    value_of := ⟨_, _, F_value_of, PySem.W.mg_of X G a_value_of, F_value_of.binds fun _ _ _ _ _ _ us hl => match us, hl with | [_], _ => rfl⟩,
    law_mixed := ⟨_, _, F_law_mixed, PySem.W.mg_of X G a_law_mixed, F_law_mixed.binds fun _ _ _ _ _ _ us hl => match us, hl with | [_, _, _], _ => rfl⟩,
    law_numbers := ⟨_, _, F_law_numbers, PySem.W.mg_of X G a_law_numbers, F_law_numbers.binds fun _ _ _ _ _ _ us hl => match us, hl with | [_, _, _], _ => rfl⟩,
    gray_bit := ⟨_, _, F_gray_bit, PySem.W.mg_of X G a_gray_bit, F_gray_bit.binds fun _ _ _ _ _ _ us hl => match us, hl with | [_, _], _ => rfl⟩,
    law_cell := ⟨_, _, F_law_cell, PySem.W.mg_of X G a_law_cell, F_law_cell.binds fun _ _ _ _ _ _ us hl => match us, hl with | [_, _], _ => rfl⟩,
    law_is_int := ⟨_, _, F_law_is_int, PySem.W.mg_of X G a_law_is_int, F_law_is_int.binds fun _ _ _ _ _ _ us hl => match us, hl with | [_], _ => rfl⟩,
    law := ⟨_, _, F_law, PySem.W.mg_of X G a_law, F_law.binds fun _ _ _ _ _ _ us hl => match us, hl with | [_], _ => rfl⟩,
    n_abs := PySem.W.mg_none_of X G n_abs,
    n_all := PySem.W.mg_none_of X G n_all,
    n_bool := PySem.W.mg_none_of X G n_bool,
    n_int := PySem.W.mg_none_of X G n_int,
    n_isinstance := PySem.W.mg_none_of X G n_isinstance,
    n_len := PySem.W.mg_none_of X G n_len,
    n_list := PySem.W.mg_none_of X G n_list,
    n_range := PySem.W.mg_none_of X G n_range,
    n_reversed := PySem.W.mg_none_of X G n_reversed }⟩
theorem walk {l : PySem.W.OpenLaw} {q : Program} {loose : List Str} {XP : (Str → Option Value) → Heap → Prop} {YP : World → Heap → Prop} {d : DefRec} {K : Params → PySem.W.Frag} (hn : l.most = some 63) (hdf : d.params.defaults = [])
    (hY : ∀ (w : World) (h : Heap), YP w h → (K w.params).In h)
    (F : ∀ (w : World) (mg : Str → Option Value) (fa : Addr) (h : Heap), (K w.params).In h → h.Ns mainGlobals mg → mg d.name = some (.ref fa) →
      ∃ fd : FuncData, (∀ (s : Shared) (u : Value), BindsTo s fd ⟨[u], []⟩ [("script", u)]) ∧ ∀ base : Heap, (K w.params).In base → base.Ns mainGlobals mg → FnOk l.prog w (K w.params) mg base CX0 3 fa fd ["script"] (spLaw (K w.params))) :
    PySem.W.WalkO q loose XP YP l.row.toRowW d [] (fun f vs => PySem.call f vs) :=
  L2.walk_ofB (n := 63) (k := 3) (x := "script") (CX := fun _ => CX0) (sp := fun w => spLaw (K w.params)) hn (by decide) hdf ⟨rfl, by decide, by decide⟩ hY F (fun _ _ a ns hl hb _ hS => ⟨a, ns, rfl, hS, hl, hb, fun _ => rfl⟩) fun _ _ _ _ _ z => z
end My
open PySem PySem.W PyProof.Rows
set_option maxRecDepth 100000 in
set_option maxHeartbeats 0 in
theorem PySem.Challenge.cw_packetpicture_k11_gray_bits_and_values_holds : PySem.Challenge.rw_packetpicture_k11_gray_bits_and_values.Holds := by
  w_on; o_law; k_head; (case hw => w_witness2)
  k_fill
  refine My.walk (l := PySem.Challenge.rw_packetpicture_k11_gray_bits_and_values) rfl rfl (fun w h Y => PySem.W.kIn_of Y) ?F
  case F =>
    intro w mg fa h KX G hmg
    refine' My.all_mk KX G hmg ?a_law_grays ?l_law_grays ?c_law_grays ?k_law_grays ?a_value_of ?l_value_of ?c_value_of ?k_value_of ?a_law_mixed ?l_law_mixed ?c_law_mixed ?k_law_mixed ?a_law_numbers ?l_law_numbers ?c_law_numbers ?k_law_numbers ?a_gray_bit ?l_gray_bit ?c_gray_bit ?k_gray_bit ?a_law_cell ?l_law_cell ?c_law_cell ?k_law_cell ?a_law_is_int ?l_law_is_int ?c_law_is_int ?k_law_is_int ?a_law ?l_law ?c_law ?k_law ?n_abs ?n_all ?n_bool ?n_int ?n_isinstance ?n_len ?n_list ?n_range ?n_reversed
    (case a_law_grays => k_is)
    (case l_law_grays => k_is)
    (case c_law_grays => k_is)
    (case k_law_grays => k_is)
    (case a_value_of => k_is)
    (case l_value_of => k_is)
    (case c_value_of => k_is)
    (case k_value_of => k_is)
    (case a_law_mixed => k_is)
    (case l_law_mixed => k_is)
    (case c_law_mixed => k_is)
    (case k_law_mixed => k_is)
    (case a_law_numbers => k_is)
    (case l_law_numbers => k_is)
    (case c_law_numbers => k_is)
    (case k_law_numbers => k_is)
    (case a_gray_bit => k_is)
    (case l_gray_bit => k_is)
    (case c_gray_bit => k_is)
    (case k_gray_bit => k_is)
    (case a_law_cell => k_is)
    (case l_law_cell => k_is)
    (case c_law_cell => k_is)
    (case k_law_cell => k_is)
    (case a_law_is_int => k_is)
    (case l_law_is_int => k_is)
    (case c_law_is_int => k_is)
    (case k_law_is_int => k_is)
    (case a_law => k_is)
    (case l_law => k_is)
    (case c_law => k_is)
    (case k_law => k_is)
    (case n_abs => k_is)
    (case n_all => k_is)
    (case n_bool => k_is)
    (case n_int => k_is)
    (case n_isinstance => k_is)
    (case n_len => k_is)
    (case n_list => k_is)
    (case n_range => k_is)
    (case n_reversed => k_is)
